import PyProof.Rows.All
import KE.KDictOf
import KE.KDictSum
import KE.KEqDict
import KE.KSortTup
import KE.KTryMore
import Lean
import OpenK.AllK
import PyProof.EqAt
import PyProof.EqKinds
import PyProof.NsDelKeeps
import PyProof.Rows.StrMadeLen
import PyProof.SliceStr2
import PyProof.StrLaws
import PyProof.TupleCall
import Wide.All
import Wide.FinOn
import PySem.Challenge.RW_fivehues_k52_four_hues_read
set_option Elab.async false
set_option linter.all false
set_option maxRecDepth 100000
set_option maxHeartbeats 4000000
abbrev Qa:=@List.length_map
abbrev Qb:=@List.getElem?_eq_getElem
abbrev Qc:=@List.mem_cons_self
abbrev Qd:=@List.mem_singleton
abbrev Qe:=@List.mem_map
abbrev Qf:=@Nat.le_refl
abbrev Qg:=@List.mem_cons_of_mem
abbrev Qh:=@List.take_succ_eq_append_getElem
abbrev Qi:=@List.mem_cons
abbrev Qj:=@PySem.Heap.get?_push_of_some
abbrev Qk:=@List.getElem?_map
abbrev Ql:=@List.mem_append_right
abbrev Qm:=@List.mem_append
abbrev Qn:=@List.map_cons
abbrev Qo:=@Option.some.inj
abbrev Qp:=@List.map_append
abbrev Qq:=@List.getElem_mem
abbrev Qr:=@List.take_of_length_le
abbrev Qs:=@List.mem_append_left
abbrev Qt:=@List.nodup_cons
abbrev Qu:=@List.getElem?_eq_some_iff
abbrev Qv:=@List.size_toArray
abbrev Qw:=@List.append_assoc
abbrev Qx:=@PySem.Heap.lt_size
abbrev Qy:=@List.length_cons
abbrev Qz:=@PySem.Heap.get?_push_size
abbrev Za:=@List.length_append
abbrev Zb:=@List.nodup_append
abbrev Zc:=@Nat.zero_le
abbrev Zd:=@PySem.PassesOwn.never
abbrev Ze:=@List.getD_eq_getElem?_getD
abbrev Zf:=@List.mem_filter
abbrev Zg:=@List.map_map
abbrev Zh:=@Bool.false_ne_true
abbrev Zi:=@Nat.le_trans
abbrev Zj:=@Nat.ne_of_lt
abbrev Zk:=@List.nodup_nil
abbrev Zl:=@List.getElem_map
abbrev Zm:=@Ne.symm
abbrev Zn:=@List.sum_cons
abbrev Zo:=@List.length_take
abbrev Zp:=@List.filter_cons_of_pos
abbrev Zq:=@List.filter_cons_of_neg
abbrev Zr:=@PySem.Paired.length
abbrev Zs:=@PySem.W.mg_none_of
abbrev Zt:=@List.append_nil
abbrev Zu:=@List.getElem_of_mem
abbrev Zv:=@List.mem_flatten
abbrev Zw:=@PySem.F.plainAttrs_list
abbrev Zx:=@Int.eq_ofNat_of_zero_le
abbrev Zy:=@Nat.lt_of_lt_of_le
abbrev Zz:=@Array.length_toList
abbrev Ya:=@List.Perm.append_left
abbrev Yb:=@List.mem_of_getElem?
abbrev Yc:=@PySem.Heap.get?_update_other
abbrev Yd:=@PySem.boot_len
abbrev Yf:=@PySem.Around.under_plainId
abbrev Yh:=@List.length_range
abbrev Yi:=@List.any_eq_true
abbrev Yj:=@List.map_congr_left
abbrev Yk:=@List.length_erase_of_mem
abbrev Yl:=@PyProof.Rows.boot_isinstance
abbrev Ym:=@List.length_pos_of_mem
abbrev Yn:=@PySem.F.type_list_append
abbrev Yo:=@PySem.F.slot_list_append
abbrev Yp:=@List.filter_append
abbrev Yq:=@List.append_of_mem
abbrev Yr:=@Array.perm_iff_toList_perm
abbrev Ys:=@Array.toList_append
abbrev Yu:=@List.drop_eq_getElem_cons
abbrev Yv:=@Int.toNat_natCast
abbrev Yw:=@PyProof.Rows.boot_sorted
abbrev Yx:=@Array.getElem?_toList
abbrev Yy:=@Nat.lt_succ_self
abbrev Yz:=@List.mem_range
abbrev Wa:=@Nat.ne_of_gt
abbrev Wc:=@List.Nodup.sublist
abbrev Wd:=@Bool.eq_iff_iff
abbrev We:=@Nat.lt_irrefl
abbrev Wf:=@List.getElem_inj
abbrev Wg:=@Sum.inr.inj
abbrev Wh:=@List.length_filter_le
abbrev Wi:=@List.flatten_cons
abbrev Wj:=@PySem.Heap.size_push
abbrev Wk:=@List.filter_nil
abbrev Wl:=@PyProof.Rows.boot_list
abbrev Wm:=@List.take_append_drop
abbrev Wn:=@List.perm_append_comm
abbrev Wo:=@PySem.W.kia_one
abbrev Wp:=@List.nil_append
abbrev Wq:=@PySem.Heap.get?_update_self
abbrev Wr:=@Array.getD_eq_getD_getElem?
abbrev Ws:=@List.find?_cons_of_pos
abbrev Wt:=@List.find?_cons_of_neg
abbrev Wu:=@PySem.mem_of_lookup
abbrev Wv:=@List.flatten_append
abbrev Ww:=@PyProof.Rows.boot_all
abbrev Wx:=@Prod.ext
abbrev Wy:=@List.getElem?_eq_none
abbrev Wz:=@PySem.F.called_set
abbrev Ua:=@Nat.le_add_right
abbrev Ub:=@List.getElem_range
abbrev Uc:=@List.cons_append
abbrev Ud:=@Nat.le_of_lt
abbrev Ue:=@List.mem_of_mem_take
abbrev Uf:=@List.lt_irrefl
abbrev Ug:=@List.length_eq_zero_iff
abbrev Uh:=@List.length_nil
abbrev Ui:=@PyProof.Rows.callWith_type1
abbrev Uj:=@PyProof.Rows.boot_dict
abbrev Uk:=@Nat.lt_trans
abbrev Ul:=@Nat.lt_of_succ_lt_succ
abbrev Um:=@List.drop_of_length_le
abbrev Uo:=@Nat.le_succ
abbrev Uq:=@List.lookup_cons
abbrev Ur:=@List.all_eq_true
abbrev Us:=@PySem.F.slot_dict_keyiterator_next
abbrev Ut:=@Bool.false_eq_true
abbrev Uu:=@PySem.F.slot_dict_get
abbrev Uv:=@List.mem_of_mem_erase
abbrev Uw:=@List.length_replicate
abbrev Ux:=@PySem.SeqAt.EqAt.str_str
abbrev Uy:=@List.take_sublist
abbrev Uz:=@List.reverse_perm
abbrev Ja:=@List.pairwise_map
abbrev Jb:=@List.getElem_toArray
abbrev Jc:=@Array.toList_push
abbrev Jd:=@Nat.mod_lt
abbrev Je:=@List.map_take
abbrev Jf:=@List.length_pos_iff
abbrev Jg:=@List.filter_sublist
abbrev Jh:=@Bool.and_eq_true
abbrev Ji:=@List.map_replicate
abbrev Jj:=@List.map_nil
abbrev Jk:=@Array.getElem?_eq_none
abbrev Jl:=@PySem.Heap.SameBut.update
abbrev Jm:=@List.foldl_cons
abbrev Jn:=@PySem.F.plain_min_loop
abbrev Jo:=@List.eq_replicate_iff
abbrev Jp:=@Classical.choose_spec
abbrev Jq:=@Nat.lt_succ_of_lt
abbrev Jr:=@List.getElem_take
abbrev Js:=@PySem.Calls.spliced_cons
abbrev Jt:=@Prod.mk.inj
abbrev Ju:=@List.perm_ext_iff_of_nodup
abbrev Jv:=@List.perm_cons_erase
abbrev Jw:=@PyProof.Rows.KeyOrd.kle_trans
abbrev Jx:=@List.not_mem_nil
abbrev Jy:=@Decidable.byContradiction
abbrev Jz:=@List.perm_iff_count
abbrev Ka:=@PySem.W.mg_of
abbrev Kb:=@PySem.F.slot_tuple_iterator_next
abbrev Kc:=@List.find?_cons
abbrev Kd:=@List.filter_map
abbrev Ke:=@Bool.or_eq_true
abbrev Kf:=@Nat.lt_of_le_of_lt
abbrev Kg:=@List.zip_cons_cons
abbrev Kh:=@List.pairwise_cons
abbrev Ki:=@List.ne_nil_of_mem
abbrev Kj:=@PySem.F.plain_list_iadd
abbrev Kk:=@PySem.F.entry_dict_get
abbrev Kl:=@Option.map_eq_some_iff
abbrev Km:=@List.foldl_append
abbrev Kn:=@List.count_append
abbrev Ko:=@Bool.not_eq_true'
abbrev Kp:=@List.length_singleton
abbrev Kq:=@List.ext_getElem
abbrev Kr:=@List.mem_erase_of_ne
abbrev Ks:=@PySem.Calls.spliced_nil
abbrev Kt:=@PySem.Calls.callWith_builtin
abbrev Ku:=@Array.toList_reverse
abbrev Kv:=@Nat.not_lt_zero
abbrev Kw:=@List.count_cons
abbrev Kx:=@PyProof.Rows.KeyOrd.kle_refl
abbrev Ky:=@Nat.sub_self
abbrev Kz:=@List.take_zero
abbrev Xa:=@List.getElem?_append_right
abbrev Xb:=@Int.emod_lt_of_pos
abbrev Xc:=@PyProof.Rows.KeyOrd.kle_of_klt
abbrev Xd:=@List.pairwise_iff_getElem
abbrev Xe:=@List.extract_eq_take_drop
abbrev Xf:=@Classical.byContradiction
abbrev Xg:=@Array.getElem?_eq_getElem
abbrev Xh:=@Nat.lt_of_succ_lt
abbrev Xi:=@List.filter_congr
abbrev Xj:=@List.map_drop
abbrev Xk:=@List.eq_of_mem_replicate
abbrev Xl:=@List.any_cons
abbrev Xm:=@List.Pairwise.imp_of_mem
abbrev Xn:=@PySem.W.KasT.kasWp_bind
abbrev Xo:=@PySem.F.type_list_index
abbrev Xp:=@PySem.F.slot_list_index
abbrev Xq:=@PySem.Obj.data_mapFields
abbrev Xr:=@Nat.le_of_not_lt
abbrev Xs:=@List.perm_middle
abbrev Xt:=@List.pairwise_singleton
abbrev Xu:=@List.mem_flatMap
abbrev Xv:=@List.length_drop
abbrev Xw:=@List.cons_ne_nil
abbrev Xx:=@Array.toList_map
abbrev Na:=PySem.W.Frag
abbrev Nb:=PySem.Addr
abbrev Nc:=PySem.Value→PySem.Shared→Prop
abbrev Nd:=PySem.Str→Option PySem.Value
abbrev Ng:=List PySem.Str
abbrev Nh:=List (PySem.Addr×PySem.Obj)
abbrev Ni:=PySem.Shared
abbrev Nj:=List PySem.Value
abbrev Nk:=PySem.Program
abbrev Nl:=PySem.World
abbrev Nn:=PySem.Heap
abbrev No:=List PySem.Addr
abbrev Np:=PySem.Around
abbrev Nq:=PySem.Str→List PySem.Str
abbrev Nr:=List (Option Nat)
abbrev Nt:=List (PySem.Str×PySem.Str)
abbrev Nu:=PySem.FuncData
abbrev Nv:=List PySem.Expr
abbrev Nw:=PySem.Result→PySem.Shared→Prop
abbrev Nx:=PySem.Str→PySem.Str
def zS(c:String):String:=
if c="Z" then"A Inv X a5 σ
B FnOk P w K mg base CX0
C FnOk P w K mg base
D Inv X a5
E wpAny (model prog w)
F wpAny (model X.prog X.w) X.A
G wpAny (model X.prog X.w)
I Cal P w K mg base
J row (rsOf es)
K PySem.W.nsIn K mainGlobals
L zca X sc M C a5 ex s
M wpS (model prog w) A E s
O swN (row (rsOf es)) hs
P zaa (pv 0)
Q usN (row (rsOf es)) (L.foldl exN hs)
R upd H
S zaa (pv 1)
U zaa (pv 2)
V wpAny _
W nmP zs m
X za4 Zd rfl
Y onN r (exN hs (swN r hs q)) x
Z FnOk X.prog X.w X.K X.mg X.base CX k f fd ps
0 usN (row (rsOf es))
1 zbp X.prog X.w
2 zau rfl
3 L.foldl exN
4 PySem.W.findIn K (.ref C)
5 nmP zs
6 zaz zbe (pv 6) zai
7 twN (row (rsOf es)) hs e.1
8 hu hs
9 PE X
' SortSt.mk' (kindOf aA) (arrOf aA) (pendingOf aA)" else
if c="Q" then"A upd H1
B PySem.strKind prog
C zaa (pv 3)
D Fun K
E onN (row (rsOf es))
F EP X a5 σ
G swN r hs
H row (za9 (za9 (rsOf es) e1.1 (ins e1.2.1 (some u.1) e2.1)) e2.1 (ins e2.2.1 (some v.1) e1.1))
I upd H2
J Bs kd a₀ p
K PySem.W.fnOf x qual (zc5 st) (zch st)
L fsN (row (rsOf es)) hs e.1
M kk kf p
N Cert ns r cs
O zaz zbe
P zaa (pv 5)
Q upd H4
R Qg _
S HT.sIx xs.length
T zbi hu (pv 0)
U Cmp prog w A E s kd
V zaa (pv 4)
W exN hs
X zbk I q
Y upd (upd H5 L (.lst (as.map V.ref))) mm
Z upd H5
3 Rn kd a₀ tot
4 upd H3
5 putK (eWV es) (Sum.inr x)
6 cxOf CX P w K mg base N qual scope f
7 twN r hs x
8 zaz za6
9 SqL X.K H" else
if c="W" then"A pcl GT aj
B kk kf
C zen X sc oz M C a5 ex s
D zf0 Zw Yo Yn zcd
E Binds K
F Qj _
G Vals xs
H fpN (row (rsOf es))
I Ql _
J WAt H' C x dx d
K upd (upd H' q (.lst (e.2.1.map V.str))) t
L zaa zai
M zar X.prog
N wpAny_typeNameOfWhole_keyiter st.typeIs
O T.keep _ _ _
P OpR X (compareOp .NotEq)
Q cxOf CX0 P w K mg base N qual (zah st) f cdv A outer s H
R Conn r x
S ct cs a9
T upd (upd dD D (.lst (ds.map V.ref))) t
U PySem.W.instObj C
V HOk P w H
W D.nx σ
X zbj rfl
Y RelV x
Z wt ns r a9
0 zac ec
1 zaa (pv 6)
2 zb9 rfl
3 trN (row (rsOf es)) hs
4 PySem.W.keepIn K
5 Keep xs H
6 zbf hh.nd
7 wpAny_passesOwn hp
8 wpAny_setState_of ho hd hf
9 wpAny_typeNameOf_keyiter st.typeIs
' upd (QI D (.lst (fa.map V.ref))) d" else
if c="Y" then"A Aj3 (DrE H' d ai) (Pot H' p b' m')
B clOf sc
C RelV y
D dg r D
E SqL K H a
F SX prog w
G Qs _
H SqL K H
I PI X tg iter
J zci X
K Nf K
L zbp P w H h a
M Blk X sc M
N onN r hs x
O fsN r hs x
Q OpR X
R PI X tg
S cutV (zs.map V.str)
T za7 zcm
U wpAny_Call_method m.base m.few m.line PySem.F.plainAttrs_dict Uu PySem.F.type_dict_get
V PTs (ZL H) ifs
W Aj2 (SG st aa)
X zal 0
Y upd H6
Z DrE H' d
0 nxt (r b)
1 setE (setE es e1.1 (ins e1.2.1 (some u.1) e2.1) a1) e2.1 (ins e2.2.1 (some v.1) e1.1)
2 FpOk X a5 H
3 Vals ys
4 Room k
5 Pa a b o i
6 Conn r'
7 cutV (e.2.1.map V.str)
8 upd (upd H' n (.lst (sw.2.2.map V.str))) t
9 Loc X.env.scope
' tSeq (tAsg (tC (V.int 0)) (ze0 4)) _ _ _" else
if c="U" then"A Zs X G
B usN r (QW (QG q))
C KV kvs
D PySem.W.plainGet K C
E putK kvs
F SeqAt.EqAt A s
G BlkG X sc oz M
H Pa a b
I Ph a b
J Cyc (st r')
K C.sy _ _
L upd H7
M upd (ZR q (.lst (e.2.1.map V.str))) l1
N BindsTo s fd
O PG (ZL H)
P PE (ZL H)
Q zak zaw
R zdo hh.nd
S RelV v
T cutV (ps.map V.ref)
U setE (setE es e1.1 (ins e1.2.1 c1 e2.1) a1) e2.1 (ins e2.2.1 c2 e1.1)
V zb2 hu (pv 2)
W TrI zs m
X fpN r t (cbN r hs x L) m
Y List.replicate zs.length
Z zbp P w
0 Binds X.K fd ps
1 setO X.prog X.w
2 setE es
3 ins zs (some c)
4 Aj2 (ZD σ' H' s')
5 Qz _
6 upd H'
7 zcg prog w
8 Value.str x
9 T.obj _ _
' tw hs" else
if c="J" then"A upd (QA D (.lst (G.map V.str))) d
B dg r
C HOk X.prog X.w
D putF f v
E inner ix
F Inv Y
G StateT SortSt Sem
H zap zhb (pv 4)
I zcs zc9 (pv 0)
J zay C.nd
K Web ns r
L zcl C L
M trN r hs
N upd (QQ dx (.own x)) x
O PySem.W.fnOf name qual params body scope dV kV doc pm an cdv
P Heap.SameBut a s.heap
Q wpAny_call_entry Us st.typeIs F.entry_dict_keyiterator_next
R ins e1.2.1 (some u.1)
S ins e2.2.1 (some v.1)
T trR m
U wpAny_seqItems hS rfl
V I.cell x c
W I.hok a _
X PySem.W.codeIn K
Y Turn Y.prog Y.w Y.K tg J fp it
Z HAt H'
0 Walks prog w A.in1 I fp wr n P
1 wpAny_call_entry Kb st.typeIs F.entry_tuple_iterator_next
3 zak (zdr rfl)
4 I.freeC x c
5 valV kvs
6 dt_rd I.hok
7 wpS M A E s
8 wpAny_setField ho hd
9 Paired R
' fpN (row (rsOf ts)) T.reverse" else
if c="B" then"a I.base.free b o
b Env0 P w K mg base A outer s
c itr rs
d List.replicate sw.2.2.length
e PySem.W.hasDictIn K
f Vals (zs.map V.str)
g za7 zd2
h inV (.int n)
i zay wt.ta.nd
j Zy (Qx e)
k zjs I.hok
l Builtin.List.listExtendWith (.ref s.heap.objs.size)
m zar P
n PySem.W.methodObj (.ref f)
o I.base.there b o e
p DGet H
q wpAny_specialOf hT
r hidT s₁.heap
t List.map V.str
u T'.done Y rfl rfl rfl (o.eC.trans hc) i _ s5 τ H5
v T'.item Y rfl rfl rfl (o.eC.trans hc) i _ s5 τ H5
w row rs
x Pot H' p
y zb4 (zs.map V.str)
z C.cy c
A zal 5
B zb2 hu
C st (row (rsOf es))
D zaa (pv 7)
E zcu rfl ba
F Meth K C
G ex (zs.take i) a b
H usN r
I cbN r hs x
J Value.int i
K I.pin p
L J.yld i H x
M wpAny (model P w)
N zhg I hg hm
O wpAny_field ho hd
P zap zhb
Q zcs zc9
R Int.emod_nonneg _
S KpT wr S h0
T Rd H a
U zb0 fp
V wpAny_mono (turn n s hI)
W t_ask h0 hc P
X pe_fld (pv 0)
Y Room 1
Z zbi aq (pv 1)
4 zfq CX X
5 zek rx fx r fs w
7 ins p.2 c
8 List.replicate n
9 st r" else
if c="X" then"y C.inc hc
z zax 3
A zax 4
B zap op_ne
C PySem.W.kitOne K
D hu (q.2.2.foldl exN hs)
E I.base.keep b o e n hb
F I.base.slot b o e n hb
G zar Y.prog
H nxt zs
I tot ns
J innP zs
L outP zs
M Option.map _
N Vis X.env.scope
O wpAny_mono h₁
Q wpAny_mono h₂
R inV (.str sw.1)
S Ar n
T wpAny_setField_rec e0
U zb4 (e.2.1.map V.str)
V wpAny_loadName_local I.ok.kind hk hn hm
W wpAny_loadName_cell I.ok.kind hk hc dN
X PassesOwn (model X.prog X.w) X.A X.env
Y I1.fpOk (Qf _)
Z PySem.W.isFn K
0 Yc _ _
1 Opn X Y sc oz M ix a5 σ H s O fp D g2
2 Heap.ExtBut j s.heap
3 pidx zs.length
4 Zi (Wh _ _)
5 zal 6
6 Less r r' v
7 Zi (W.rl e he)
8 W.rl e
9 zbg (JH (pv 3) (za5 _)) (zaf ps_break)" else
if c="K" then"A stN hs
B I.hok b
C wpAny M A
D SqT K H
F I.hok p _
G zhi I.hok
H Of a₀
I Up kf p
J zgj h v x
K zap zbm
L za7 zgd
M SameM H
N zak zb5
O PS X
P PySem.W.lookIn name
Q PySem.W.plainOver K
R Rnd (row (rsOf es))
S Turn P w K tg
U Itl K
W Cls K
Y zak (zcf rfl)
Z vl r'
0 ex (sw.2.2.take i) (Z8 sw.1) sw.2.1
1 RelO (fs.lookup f)
2 Un fs ex H
3 wpAny_pyNext_list_end (I.ok.hd hc)
4 PA X
5 ObjM s.heap x dx C
6 wpAny_getItem_list_slice ht.isList
7 IntsAre vs
8 FnOk l.prog w (K w.params) mg base
9 ocl oz
' keep h' tk" else
if c="V" then"a I'.thaw e1
b nxt (r' p)
c upd H8
d zay nd
e atI qwe.cps.toList
f dg (row (rsOf es))
g SwAt B H a
h StAt B
i PySem.W.fnOf x x (zc5 st) (zch st)
j SortSt.mk' (kindOf st) (arrOf st)
k Aj3 (BAt H' b bs (row (rsOf es)))
l upd (QA S (setO P w S sw.2.2)) l2
m Gl X
n Vals vs
o J.stop i
p PySem.W.makesIn K
q Meth X.K C m
r Vals dvs
s zam N ps
t start N
u KT H kvs
v I7.pinned (fN n7)
w ItX w h it a tp L
x RAt H d
y zal 4
z za7 zha
A zap (zd3 e9)
B bk m
C inV (.str z)
D Alike items.toList items2.toList
E Un (frs X.stack) ch H H' s.heap
F SqT X.K H
G HT.sIx a7.length
H kV doc
I wpAny_mono h₁'
J Turn X.prog X.w X.K tg J fp it
L T.self _ 0 _ _ _
M Yf PySem.F.plain_proto_collect
N List.replicate i
O zaj (zal 1 ndPA)
P zf0 Zw Xp Xo zjf
Q zac hz
R upd H9 fl
S Room 2
T Lk (st r)
U PutI d es e1 e2 c1 c2 H' a1 a2
W Zi (D8.row e he)
X zay C8.nd
Y pcl GH
Z I.ok.bs b o
0 zjh I hg hm
1 hf it
2 Value.str y
3 zen X sc oz M g2.objs.size a5
4 lc2_block B hc oW am cq hg ht
5 Wc (Uy _ _)
6 ins e.2.1 c
7 trF m
8 zaa (pcl GX bh (ZS (BD zae)))
9 zie W hh.nd
' P.foldl stN" else
if c="M" then"a PySem.Within mA
b X.s₀.heap.FunFrames X.base
c I.ok.cab x c uw
d PT X
e Int.fdiv_eq_ediv_of_nonneg i
f Int.fmod_eq_emod_of_nonneg i
g wpAny_mono h₃
h Ya _
i fin _ R.kind R.failed R.perm
j wpAny_setEntries_of ho hd hf
l PI (ZL H) bV bj
m C.one_lab bG cX
n putK (eWV es) (Sum.inr e0.1)
o SP X a5
p zec K C
q Cls X.K
r PySem.F.args_dict_get_3 _ _
s zj5 B.g I T h0 hf hD gY rfl
t za7 zh8
u putK (marks ks) (Sum.inr x)
v hueV hs
w CmpT prog w A.in1 wr S h0 P
x putK (cnt ks F) (Sum.inr x)
y goB t m
z TP X a5 σ
A PSs X
B Wo PySem.W.kitx_list I.kIn
C Wo PySem.W.kitx_dict I.kIn
D Inv (Q6 cdv A outer s H E)
E FpOk Y
F tLC ix wi g tc
G ze1 hc I
H next_of hh st.2 st.1 na nt
I Yf F.plain_set_update_loop
J At s.heap d es
K za9 rs
L zal 2
M Lk f
N C.la p
O C.inc bG
P zac T.dc
Q zbi hu
R del_ne C
S lk_del C L
T Pre ns r
U cnt ks
V us_is wt.ta.nd
X cbN (row (rsOf es)) hs e.1
Y SwsOk r hs
Z zgp op_le op_lt zai (pv 0)
0 FunD K
3 Ka X G
4 hf v u s2 x y H2 I2 r1 r2
5 wpAny_pyNext_list_item st
6 PySem.F.args_dict_get_2 _
7 List.set_append_right _ _
8 Bs kd a₀ (pendingOf bq)
9 List.replicate z.cps.size
' I.ok.noex b o" else
if c="N" then"y F.len _ _ _ _
z ixN xs.length
A List.Perm.append_right _
B Jd _
C zbc (zdd rfl)
D zaj (YX ndPA)
E row (rsOf ts)
F W.frame _ _ _
G zbi aq (pv 0)
H fpN r xs hs m
I zcc aq (pv 3)
J List.replicate hs.length
K zjm I.hok
L dropK kvs
M wpAny_dictEntries og ic
N Pot H p b
O zal 3
P zap op_lt
Q zax 1
R T.keep k1
S zax 5
T zax 6
U zax 2
V Turned ts
W zdv B H l
X zbj (decide_eq_true h1)
Y Prp r
Z List.mem_cons_of_mem _
0 wpAny_mono h
3 IsTup s.heap
4 Inv (X.wish E) a5 σ H
5 PG X (.Tuple es k pos)
6 J.go i
7 binT ha hb I
8 cutV xs
9 F.args_list_append_2 _
' PySem.call f" else
if c="D" then"a och oz
b O.kle (QM i)
c Dn kf p
d Vals.perm p1
e dk_at I
f Heap.SameBut it s.heap
g fin s.heap s.drawn _ a
h dc_block B hc hg ht hk
i inClass sWeb
j zb6 hc
k C.ro x
l leaf_mem C hp hx h1 h3
m zcc hu
o za8 h1
p Conn (row (rsOf es)) x
q zcq GP hr rfl mP FP.kp
r zcq GF hr rfl mF FF.kp
s DrE H d
t zcb D8.ra.nd
u upd H0
v vl r
w Conn.symm sy
x wrd b s
y hf _ _
z PySem.W.KeqHits A s ja
B zaa (WA (ZU (WL zae)))
C kp b o hw hs
D wpAny_updateSeq cv rfl
E ResAt H H' t
F zcq GE jo rfl mR FR.kp
G F.run X.A X.stack s H
H tMeth C m sp dvs E ta
I KBinds X.K fd ps ks g
J fin a7 r' hz h' c' kp
K Heap.SameBut j s.heap
L Heap.ExtBut it s.heap
M ocl none g2.objs.size
O tLC2 ix wi g1 fO g tc
P wpAny_dictEpoch og ic
Q DGet H4 d (.str e0.1)
R sum_exch h1 a9 (vl r)
S Conn (r2 es hs h o) s
T RelV p.2
U zac q
V Zi I.ok.bsz
W tOp r ta
X zf6 I1 ea c
Y PySem.W.kitOne X.K t
Z CE outer P w H s Q u" else
if c="F" then"a RelV (kV k)
b SeqAt.EqAt.int_int a
c zac e
d wpAny_seqItems hp hk
e wpAny_pyIter_enum he
f wpAny_pyIter_slot hT
g wpAny_fieldsOf ho hd
h zgg C hp hx h1 h3 hm
i zgb C.nd
j Aj2 (YZ ai)
k Conn (trF m) (tr0 m)
l hu_in nd
m WRt r hs
n PySem.W.takerIn K C
o Vals (ns.map V.int)
p BOk X sc ix e tg mk
q beyondT left ky arr
r zf1 B.g.one B.g.psh
s Rnd (row (rsOf ai))
t Vals (ws.map V.str)
u rLC g tAll te Q (KU a) τ
v hueV (KA q)
w I.stkSub b
x PG X (.Name x pos)
y Itr lo
z zbt hb
A Ua _
B PySem.W.keepIn X.K
C call (.builtin id)
D pairO strO
E zgj s.heap
G rowV H
H kvP s.heap
I Rd H d
J Thaw X
K ItX w h' it a tp L
M R.ro e
Q nxt (U3 n)
U ins (r p) (some c)
V nd_ins hc (C.rn p)
W Paired (zdt H') fa
X zfc Zd
Y zav k1
Z nxt_erase (C.rn b)
' nxt (r' b)" else
if c="G" then"a del_st C L
b bitF f
c zaz ix_str
d st (trF m)
e ordP m
f zbf nd
g zaa (pv 8)
h PGs X
i Itt K
j Vals zs
k d_getItem hu I2 g
m SG st
n Itd d o
o SetTable.below xs
p tDC ix wi g tc tk
q zeg _
r SqB b K
s ItB b K
u pg_sub (pv 0) zai
v zal 7
w zaa zh5
x Flat ns
y ct D a9
z zal 8
D zbc zc8
J SwAt B'
K fpN r t (BI L1) m
M inV (.int (Z8 z))
Q Qz s.heap
V PPs X pos
Y step x H7
Z O.blt b.1
' Yf plain_eq_loop" else
if c="H" then"a I.hok d _
b rNil true
c RowAt knd s.heap
d ins p.2 (some c)
e ct (cs.erase c1)
f zat R3.ts
g nxt e.2.1
h zap op_gt
i pcl GI aj
j D6.pot bo
k wrd bg st
l ord_lt h7
m T5.kp _ _
n T7.kp _ _
o IspRounds K vs H
q ex zs a b
r zea bt hi ht k j
s IspSwapOf C vs H
t PSI H' as
u pcl GS hr
v zaj (Vy scFs.nd)
w RdOk r hs
x IspClosed C vs H
y IspIsFree C vs H
z zby q.2.2
C some (.ref $a)
K .ref $a
L SqL.of $a
Q .lst (e.2.1.map V.str)
R .lst $a
U model X.prog X.w
V Keep.new $a
W some $a
Y .ref s.heap.objs.size" else
if c="R" then"b model prog w
f Qf _
o ZA H s
q .inl $a
r eval $a X.env
v .int $a
x SqT.of $a
y .dK (eWV es)
z pv 1
D V.str (ZW $a)
E decide_eq_true $a
J beq_iff_eq.mpr z
K wpAny_pure $a
O .dK kvs
Q pv 0
S ha a5 s σ H _ I h
Z row (rsOf es)" else
if c="S" then"a zaa $a zae
b zbg $a (zaf zcy) zao
d wpAny_bind $a
e HR (ws.map V.str)
f Rq rfl
g HK a
i .str e.1
j zs.map V.str
k pendingOf $a
l HR (as.map V.ref)
m he a5 s σ H _ I h
n pv 3
o if_neg $a
r .inl (HL $a)
s pv 2
u I.tok _
v List.range $a
w za5 _
x if_pos $a
y pv 4
z Classical.propDecidable _
A .cons $a .nil
C envOfC qual scope s.heap.objs.size f $a
D Keep.wr HA
E pv 5
F Sum.inr $a
H starEach es X.env
I congrArg Prod.snd e
J .inr $a
K Sum.inr e.1
L HW (.int $a)
M ForInStep.yield $a
N ha pos a5 s σ H _ I h
O HK l
Q ZS zae
R ZU zae
S HK it
T zs.getD $a Str.empty
U sw.2.2.map V.str
V ho a5 s σ H _ I h
W Zc _
Y Rc Qa
Z .int sw.2.1
0 I.hok.fresh $a
1 List $a
2 .bl true
3 congrArg Prod.fst e
4 HW (.str $a)
5 .int $a $b
6 decide_eq_false $a
7 I.ok.hd hc
8 Or.inr rfl
9 SetTable.grown aB.size
' A.deeper (envOfC qual (zah st) s.heap.objs.size f cdv)" else
if c="T" then"a ZP zae
b .tup xs
c QX HA
d HK D
e zaj $a zba
f .ref e.2.2
g HG 2
h zbi (RY hu) Rz RQ
i tupleKind_room_in1 hu
j HR xs
k Qd.mpr rfl
l .frz o' u'
n of_decide_eq_true $a
o U5 rfl
p .fresh 0 0 led
q zbs zae
r Option Value
s arrOf $a
t .str x
u .Name y py
v .str e1.1
w QC zae
x Qi.mpr hy
y WL zae
z .int q.2.1
B HK p
C YB X.env
D w.params.setOrder a ep
F QW (ZO q)
H V.int $a
J Qu.mp $a
K keywordEach kws X.env
L .bool true
M zah st
N .dK (marks $a)
Q QV zae
U Z8 sw.1
V zs.idxOf z
W Qe.mpr $a
X k1.trans $a
Y k _ _ Sf e
Z .frz o $a" else
if c="L" then"a .dT kvs
b HC d
c ZR $a (HR $b)
d HK f
e .str e2.1
f q.2.2.take $a
g .Name x $a
h hh.keep $a HA
i hi a5 s σ H _ I h
j WM X.w
l HK t
m HR (ini.map V.str)
n .dK RC
o ZQ e.1
p HR (T.reverse.map V.str)
q pairsOf vs
r .Slice none none (HW (.UnaryOp .USub (.Constant (.int 1) k p4) p3)) p2
s HL zab
u QF Q
v .Attribute $a m apos
w HV ht
x HR (us.map V.str)
y HR (lF.map V.str)
z Z9 a ta
A hb a5 s1 σ H1 _ I1 q1
B hi a5 s1 σ H1 _ I1 q1
C k3.trans $a
D i1 _ _
E argBest bt $a
F assignEach $a X.env
G bH _ _ $a
H Builtin.SmallTypes.nextOf (HK j)
I pv 6
J Q8 (QT Sn) (WA (ZS (zaa (UQ Rg ae Yd (Sa (QT (pv 3)))) zae))) HX
K pv 7
L ps.zip us
M Z' $a (failedOf aA)
N V.bl true
O h a5 s σ H $a I $b
P .bl false
Q rsOf $a
R .Subscript $a $b pos
S I1.hok.fresh Rf
T .ins C dx fs
U .tup (k.map kV)
V eqU x
W ns.map V.int
X C.rn p
Y k2.trans $a
Z V.ref $a
0 RY aq
4 Keep.wr Qc
5 .str q.1
6 backTo pos $a
7 WU s.heap.objs.size
8 keyKind' vs.toArray
9 WI (WI (Fz e))
' zaf zcy" else
if c="C" then"a .builtin id
b Z6 HX
c hl a5 s σ H _ I h
d letOwnedTupleGo target it v
e k2 _ _ $a HA
f KN Rg bd Yl $a
g Pp.take $a
h Pv 0 σ H
i eval $a env
j Z9 e te
k Bm w
l Zj (Qx e)
m HG 0
n pv 3
o QR hx
p HR (dP.map V.ref)
q HR (us.map V.int)
r HR (ms.map V.int)
s QR hy
u QR hb
v HC u
w wpAny_load hS (RK (h g tk ag hk (Ud (Qx hS)) ha))
y Sum.inr q.1
z RH H
A QO $a zai HX
B pv 8
C W1 zae
D k5.trans $a
F HR (G.map V.str)
G k4.trans $a
H k1 c o ec HA
I Qd.mp $a
J HR (S.map V.str)
K rawInt $a
L JE σ
M HK I
N .str sw.1
O model P w
P .str k tk
Q e.2.1.map V.str
S plainId_quiet $a _
T ho a5 s1 σ H1 _ I1 q1
U zs.take $a
V .dK (Q5 Sg)
W HC l
Y .type T
Z .ok (.ret $a)
0 HK d
1 C.inn' $a
2 Sx rfl
4 hh.2 _ _ $a $b
5 Z8 w.1
7 Qt.mpr $a
9 i0 _ _" else
if c="E" then"a HW (zbv $a)
b Rr e
c g i j
d h1.trans z
e .compLoop $a $b it $c env
f HK j
g Ri ks
i W2 (zaj $a $b)
j Q8 $a (WA (ZS (Sa (UQ Rg ae Yd $b)))) HX
k pcl $a $b (ZP $c)
l .compLoop e k SS Td Y.env
m Sb (PW.pt (zde $a $b))
n zas (zbq $a)
o backToKw pos $a
p QK TM .none kV doc pm an cdv ct
r sgm _
s Eh pv 0
t zc2 (zcw $a)
u WA (ZP Ty)
v compEnvC sc $a g2.objs.size X.env
w jH.map V.str
x compEnvC sc TC C X.env
y tupleKind $a
z Q8 $a $b HX
A q _ (S0 Rf)
B .str $a
C zbg (zbr $a) (zaf $b) zao
D xs.take $a
E Bj I.ok.above
F l.map $a
G zbr (zff $a $b Rz)
H HW (iV $a)
I f (S5 i t) (S5 j u)
J .cons $a $b
K HK b
L Q9 p ys
M .int ys.length
N assign target env v
O .Tuple elts kk tpos
Q zbn (WD $a $b)
R WI Qc
S SF z
T Z9 o td
U zan $a
V Wq _ ho (Obj.isFreed_of_fields (Xq hd _))
W HW Si
X plainId_quiet PySem.F.plain_extend_loop _
Y beq_eq_false_iff_ne.mpr $a
Z .own a
1 neC b o e hx
2 Rv i
3 tn i s'.heap
4 ho a5 s2 σ H2 x y v u _ I2 r1 r2 q2
5 zji ry
6 .ok .next
7 RR Td g2.objs.size
8 as.map V.ref
9 r.ro e he" else
if c="I" then"a pv 2
b pv 4
c C.rn o
d .dT (Ru $a)
e k6.sub HA
g .dK (eWV $a)
h row (LQ $a)
i k9.sub HA
k ns.map V.str
l beq_self_eq_true $a
m BH (Z3 hs) x
o zbi L0 Rz RQ
p Sum.inr sw.1
q ze0 i
r .tup ys
u Q (.bl $a) H
v HR Sj
w HV hq
x Sa (zbc (zfn rfl) Rg kr PyProof.Rows.boot_set $a)
y HE hz
z L.getD $a sp
A .str sp.1
B .str sp.2
C xs.map $a
D getMethod ov m pl
E WF e
F Array.Perm.refl _
G wpAny_newObj_type (RK $a)
H SF x
I es.take $a
J e0.2.1.erase e1.1
K Builtin.List.listLengthHint (HK r)
L HC x
M bs.map V.bl
N k5 _ _ $a HA
O Rc aN
P Z9 b tb
Q HW v
R F.args_dict_keyiterator_next_1 _
S hn.mem_iff.mp hx
T HW (.ref en.2.2)
U HW (.ref e0.2.2)
V HW (.ref e1.2.2)
W UK L.tie
X .dK (putK $a (SF (ZW $b)) (HK $c))
Z YQ (compareOp op) r" else
if c="O" then"a s.heap.IsTuple t xs
b h.Ns mainGlobals mg
c Vi TM .none kV doc pm an cdv ct
d ZR a o
e .own x
g Zj (Bj (Mc hc))
h Lg pos
i .bool $a
j pyIter $a
l eval iter X.env
m Rq (PyProof.noPylong_small HB)
n Vt vs
o HK fa
p Or.inl rfl
q Option Nat
s List.mem_of_mem_drop $a
t vs.getD i .none
u .ret .none
v F.args_tuple_iterator_next_1 _
w .DictComp kx vx gens scope pos
x LQ es
y List.not_lt.mp $a
z C.cm $a
A C.inn $a
B zd1 RQ
C none' b m H3 cG D3 (fV.sub HA)
D HE nlp
E YY $a (HR $b)
F .lst xs.reverse
G zc1 C
H HK S
I k6.trans $a
J zeo lE
L relabel $a env
M k _ _ e
N strValues $a
O Qq ap
P s.heap.IsKeyIter j d i es.size ep
Q SJ (Rx $a)
R HE e
S We _
T W i n ys τ H'
U HG 1
V pv 5
W pv 9
X hu hs
Y Z9 l tl
Z Z9 i ty
0 QD x qual st f fd
1 Zf.mp $a
2 nt c xs q
3 cw.mem_iff.mp $a
4 k _ _ $a HA
5 k7.sub HA
6 k5.sub HA
7 List Swap
8 binaryOp .Add
9 compareOp .Eq" else
if c="P" then"b HK C
c hr pos a5 s1 σ H1 _ I1 q1
e keyLt' kd x y
f wpAny_bind $a
g k3 _ _ $a HA
i HW Tf
j Zf.mpr $a
k hd σ H p
l S5 0 0
n V.ref e.2
o S5 $a t
q Zm hb
r vs.toArray.zip vs.toArray
s Zj lt
t HV hD
u za5 _
w HV h2
x HV h3
y TZ Ry
z HV h4
B pv 11
F V.ref e.2.2
H zbz _
J Rx r1
M QP zae
N UQ Rg ae Yd $a
P ZR s.heap.objs.size $a
Q wpAny_attempt $a
R zak $a Rg aD Yw $b
U Ez RQ zai
V zbq (zaa $a $b)
X .cons (ze9 rfl) (EJ (ze9 rfl) (SA $a))
Y Wg q
Z HK x
0 TZ u
3 truthy v
4 Rq h
5 HC f
6 gV vs zs
7 WC H
8 no c _ q
9 BX rfl" else
if c="A" then"a HP aN hj
b k1 c u ec HA
c ZR fo RM
d zas Ss
e BD zae
f zas SE
g Z5 m
h spFree C
i ZR pl RM
j Cf (ZP (Sa $a))
k aOf 0 (eOf (sAt sLRt 1))
l storeName X.env x $a
m .Constant .none j $a
n letOwnedTupleGo tg SS u
o S5 $a tk
p compareOp .Lt $a $b
q Qq am
s none' b8 m8 H8 bY D8 iz
u HL bX
v HL g3
w S5 hi u
x σ.set i IQ
y pyNext $a
z h pos a5 s σ H _ I hq
A he a5 s1 σ H1 _ I1 q1
B .Attribute o name apos
C wpAny_askSetting $a
D ND (VO zba)
E hp.mem_iff.mpr (QR Cs)
F Em (zbr $a) (zde $b $c)
G HW 1
H Bp a y o
I UI o na nb
J YF s.heap a zs
K RN Qa
L HC t
M .tbl ps
N hs.2 b $a
O sb.2 b $a
Q .int $a s.toks
R KG eb
S dk_empty s.heap I.big
T backTo cpos $a
U keyOf e
V .compStart $a 1 $b ag env
W YT $a zai
X Ek $a $b (ZS $c)
Y QI l R6
Z Rv h0
0 HL av
3 BH hs x
4 DU hn
5 f v u
6 Lg p
7 List.of_mem_zip $a
8 UE p.1 p.2
9 .Slice lo hi none p2" else
if c="z" then"a .ref s3.heap.objs.size
b K w.params
e .compLoop $a 0 $b Td $c
f SJ hy
g Ts st
h p.getD i 0
i Qx e
j TZ RO
k fits_of_scanBound HB
m B7 x
o .inr (SJ h)
p a9 y
q HE hy
r kP e.1
t HV hl
u QQ $a (HR $b)
w HG 3
A NB HH
B Ri kf
C UB x
E QG q
F En (Gw TQ)
G .ref s4.heap.objs.size
H z.sameBut hs (cne y c e)
I s.heap.IsTupleIter j t i
J k _ _ r.dc hd
K HC p
L .UnaryOp .Not a pos
M intBits_le_64 h1 h2
N A.under $a
O .Attribute $a f $b
P starEach args X.env
Q hn b hb
R List.toArray (Sv n)
S PySem.W.kdl_dict lo
T RK (Sd $a)
U ZU (Sa $a)
V U2 e1.1 (ins e1.2.1 $a e2.1) a1
W Sd (wpAny_letGo Rw)
Z HL ha
3 Rx fX
4 f s.1
6 f s.2
7 Ba e n hx
8 .Constant $a j pos
9 ha a5 s σ H Q I h" else
if c="y" then"a hc a5 s σ H _ I h
b LR o i
c hv a5 s σ H _ I h
d Q6 $a A outer s H E
e x.above y c (Wu h)
f UE k v
g ks.map kV
h zch st
i a.extract $a $b
j failedOf $a
k sgk Er
l LG (h n _ B n1 n2)
m P.rev 0 m
n bs.all id
p zac $a $b
q pickOrder $a $b
r W.sub _ h
t hh.1 _ _ $a HA
u SqL.of R.ls
w zck Rz
x HZ fS zab
y h s Sf
z Zv.mpr $a
A row rs
B kP s
C Paired $a $b $c
D HZ ndD hz
E Zm ndD
F L.take $a
G KY Rg aD Yw $a
H za7 op_pow zai zai
I ZP (zaa (CA $a) (zaa (CA $a) (zaa $b $c)))
J Xw _ _
K hf _ y
L Bg LK zai
M GD Rg aO Uj $a
N spTries C
O Z0 TF e.1
P ck.trans $a
Q ZO q
R q.2.2.foldl exN hs
S S5 1 v
T zag hb
U Md a tA
V .ref s1.heap.objs.size
W RT j
X HW 0
Y UW H3 d c H'
Z M0 x qual st f fd T a7
6 .tup (p.1.map kV)
8 HP Qa $a
9 .Subscript o i tpos" else
if c="x" then"a HR (fa.map V.ref)
b PW.pt (zh4 $a $b)
c HW u
f Rr a
g .bl b
h Rr o
i Lg aP
j PIE X a5 σ tg R
l Yy _
m richCompare .Lt $a $b
n HW i
o EB z
q ns.map WData.int
r Y5 k
t QM i
u pm.mem_iff.mp hv
w Obj.putSet ai t'
x And.intro rfl h'
y WI (YG (WI hpD))
z HR (r.map V.str)
B HW a
C gp.mem_iff.mp $a
D HL (IN df)
E Rv b
F .dK (Mn (HK l6))
G QW w
H zah sLaw
I I.kIn $a o hk
J Z9 value tv
K .bool false
L .str r.1
M .str r.2
N Qb ad
O k5.trans Lw
P at_rg hi
Q Rv TU
S DW tb
T HE hi
U h1.symm.trans e
V getItem $a $b
W .Subscript o i aP
X HE hw
Y  SqT X.K H p ys" else
if c="w" then"b HE hk
c WI hp
d HW Tu
e assign Tu X.env
f LM m'
g Q3 be
j seqEpoch_at $a rfl $b
o QR hv
q S0 le
u rows.take $a
w Value.ref $a
x WN Rw
z W9 Rw
A zgm C
B T τ2
C EU RQ
D RH H2
E RH H1
F SJ Tx
H Qq hi
J HE az
K UV SE pe_bl rfl
L TN ks
M EU Rz
N Ig ts
O HK t0
P QI $a (HR $b)
R zck (Vz zai Rz)
S eOf (sAt zh3 4)
T EU SE
U q b o hw (DC z)
V HR SU
W .cons r3 (EJ r1 r4)
X List (S1 $a)
Y Sr (D8.ra.ro e1 bu)
Z zaa (Ez $a LK) (zaa (Ez $a $b) (Sa (Ez $c $b)))
6 zbr (Dm $a $b)
8 k1 _ _ $a HA" else
if c="v" then"p zbg $a $b zao
q K9 g2.objs.size TC
t wpAny_pure $a
w zbc zc7 Rg ao Wl $a
y ZS zae
z wpAny_holding $a
A EU (AX GT bh SR)
B HR ys
C Bz hc
F QP CC" else
""
def zK(s:String):List String:=(s.toList.foldr (λc l=>if "() ".contains c then ""::(if c=' ' then l else String.singleton c::l) else match l with|x::t=>(String.singleton c++x)::t|[]=>[]) [""]).filter (·≠"")
open Lean in
def zI(g:Array Syntax)(t:String):Syntax:=
 if t="_" then .node .none ``Parser.Term.hole #[.atom .none "_"] else if t.toNat?.isSome then Syntax.mkNumLit t else
 if t.startsWith "." then .node .none ``Parser.Term.dotIdent #[.atom .none ".",mkIdent (t.drop 1).toString.toName] else
 ((t.splitOn ".").foldl (λo p=>some (match o with
  |none=>if p.startsWith "$" then g.getD ((p.toList.getD 1 'a').toNat-97) .missing else mkIdent (.mkSimple p)
  |some x=>if p.toNat?.isSome then .node .none ``Parser.Term.proj #[x,.atom .none ".",Syntax.mkLit `fieldIdx p] else if x.isIdent then mkIdent (x.getId.str p) else .node .none ``Parser.Term.proj #[x,.atom .none ".",mkIdent (.mkSimple p)])) none).getD .missing
open Lean in
def zC(a:Array Syntax):Syntax:=if a.size≤1 then a.getD 0 .missing else let x:=a.getD 0 .missing; if x.isOfKind ``Parser.Term.app then .node .none ``Parser.Term.app #[x[0],mkNullNode (x[1].getArgs++a.extract 1 a.size)] else .node .none ``Parser.Term.app #[x,mkNullNode (a.extract 1 a.size)]
open Lean in
def zR(g:Array Syntax):Nat→List String→Array Syntax→Syntax×List String
 |n+1,"("::t,a=>let(x,r):=zR g n t #[];zR g n r (a.push x)
 |_,")"::t,a=>(zC a,t)
 |n+1,x::t,a=>zR g n t (a.push (zI g x))
 |_,t,a=>(zC a,t)
open Lean in
def zW(f:Name)(a:Array Syntax):MacroM Term:=do
 let .str .anonymous s:=f|Macro.throwUnsupported
 if s.length<2∨s.length>3 then Macro.throwUnsupported
 let some r:=((zS (s.take 1).toString).splitOn "\n").find? (·.startsWith ((s.drop 1).toString++" "))|Macro.throwUnsupported
 let t:=(zK r).tail
 let n:=t.foldl (λm x=>if x.startsWith "$" then max m ((x.toList.getD 1 'a').toNat-96) else m) 0
 if a.size<n then Macro.throwUnsupported
 return ⟨zC (#[(zR a 999 t #[]).1]++a.extract n a.size)⟩
set_option hygiene false
local macro_rules
|`(HA)=>`(by simp)
|`(HB)=>`(by lia)
|`(HE $a)=>`(by simpa using $a)
|`(HG $a)=>`(by show $a≤sizeLine;decide)
|`(HH)=>`(by decide)
|`(HI)=>`(((Sum.inr e.1:Key),V.int e.2))
|`(HJ)=>`(by intro z;cases z)
|`(HM)=>`(λcdv A outer s H vs Q E hr h=>?_)
|`(HN)=>`(λcdv A outer s0 H vs Q E hr h=>?_)
|`(HP $a $b)=>`(by rw[$a:term];exact $b)
|`(HS)=>`((∀b o,s.heap.get? b=some o→g.get? b=some o))
|`(HX)=>`(λ_ _=>rfl)
|`(HZ $a $b)=>`(by rw[zag $a:term];exact $b)
|`(Ra)=>`(by exact zar1 ‹_›)
|`(Rc $a)=>`(by rw[$a:term];lia)
|`(Re)=>`(Str×Int)
|`(Rg)=>`(by rfl)
|`(Rh)=>`(by decide +kernel)
|`(Ri $a)=>`(.dK (cnt $a λy=>((dg r D y:Nat):Int)))
|`(Rj)=>`(s.heap.objs.size+1)
|`(Rk)=>`((∀σ' H',N σ' H'→∃m',m'<m∧W (i+1) m' σ' H'))
|`(Rm)=>`(i+1)
|`(Rp)=>`(.ListComp elt [⟨target,iter,[],0⟩,⟨bV,bj,ifs,0⟩] scope pos)
|`(Ru $a)=>`((gs++L.take $a).map λs=>(kP s,V.bl true))
|`(Rw)=>`(wpAny_pure ?_)
|`(RA)=>`(λ_ _=>by simp)
|`(RC)=>`(hs.map λe=>HI)
|`(RG)=>`((∀b∈ch,(b∈X.ex∨X.s₀.heap.objs.size≤b)∧b≠X.env.locals∧(∀x c,X.env.cells.lookup x=some c→c≠b)∧∀p∈X.pn++a5,p.1≠b))
|`(RH $a)=>`(Keep [] $a H')
|`(RI)=>`((λcs y=>if(y.2==NameKind.free)=true then(y.1,(env.cells.lookup y.1).getD 0)::cs else cs))
|`(RM)=>`(.lst [])
|`(RN $a)=>`(by rw[$a:term];exact Qf _)
|`(RP)=>`(x==("__debug__" : Str))
|`(RT $a)=>`(pidx es[i].2.1.length $a)
|`(RU)=>`(.ListComp elt [⟨tg,iter,[],0⟩,⟨bV,bj,ifs,0⟩] sc pos)
|`(RV)=>`(a.toList++b.toList)
|`(RX)=>`(((Sum.inr e.1:Key),V.ref e.2.2))
|`(RY $a)=>`(by exact $a)
|`(R6)=>`(HR ((es.map (·.1)).map V.str))
|`(Sc)=>`(Ex2 λres r=>Aj2 (c=(HW res,r)) (res.toList.Perm RV))
|`(Sh $a)=>`(HR (((L.take $a).map (·.1)).map V.str))
|`(Eh $a $b)=>`(λC a5 ex s H=>$a $b)
|`(⟨$xs,*⟩)=>do
 let mut o:Array Lean.Term:=#[]
 for x in xs.getElems do
  if x.raw.getId==`vG then o:=(o.push (← `(_))).push (← `(rfl)) else o:=o.push x
 if o.size==xs.getElems.size then Lean.Macro.throwUnsupported else `(⟨$o,*⟩)
|`($f:ident $a*)=>zW f.getId a.raw
|`($f:ident)=>zW f.getId #[]
section
set_option Elab.async false
set_option linter.all false
set_option maxRecDepth 100000
inductive Ex1{T0:Sort _}(P:T0→Prop):Prop
 |mk(x0:T0)(h:P x0)
inductive Ex2{T0:Sort _}{T1:Sort _}(P:T0→T1→Prop):Prop
 |mk(x0:T0)(x1:T1)(h:P x0 x1)
inductive Ex3{T0:Sort _}{T1:Sort _}{T2:Sort _}(P:T0→T1→T2→Prop):Prop
 |mk(x0:T0)(x1:T1)(x2:T2)(h:P x0 x1 x2)
inductive Ex4{T0:Sort _}{T1:Sort _}{T2:Sort _}{T3:Sort _}(P:T0→T1→T2→T3→Prop):Prop
 |mk(x0:T0)(x1:T1)(x2:T2)(x3:T3)(h:P x0 x1 x2 x3)
inductive Ex5{T0:Sort _}{T1:Sort _}{T2:Sort _}{T3:Sort _}{T4:Sort _}(P:T0→T1→T2→T3→T4→Prop):Prop
 |mk(x0:T0)(x1:T1)(x2:T2)(x3:T3)(x4:T4)(h:P x0 x1 x2 x3 x4)
inductive Ex6{T0:Sort _}{T1:Sort _}{T2:Sort _}{T3:Sort _}{T4:Sort _}{T5:Sort _}(P:T0→T1→T2→T3→T4→T5→Prop):Prop
 |mk(x0:T0)(x1:T1)(x2:T2)(x3:T3)(x4:T4)(x5:T5)(h:P x0 x1 x2 x3 x4 x5)
structure Aj2(p0 p1:Prop):Prop where
 h0:p0
 h1:p1
structure Aj3(p0 p1 p2:Prop):Prop where
 h0:p0
 h1:p1
 h2:p2
structure Aj4(p0 p1 p2 p3:Prop):Prop where
 h0:p0
 h1:p1
 h2:p2
 h3:p3
structure Aj5(p0 p1 p2 p3 p4:Prop):Prop where
 h0:p0
 h1:p1
 h2:p2
 h3:p3
 h4:p4
structure Aj6(p0 p1 p2 p3 p4 p5:Prop):Prop where
 h0:p0
 h1:p1
 h2:p2
 h3:p3
 h4:p4
 h5:p5
structure Aj7(p0 p1 p2 p3 p4 p5 p6:Prop):Prop where
 h0:p0
 h1:p1
 h2:p2
 h3:p3
 h4:p4
 h5:p5
 h6:p6
structure Aj8(p0 p1 p2 p3 p4 p5 p6 p7:Prop):Prop where
 h0:p0
 h1:p1
 h2:p2
 h3:p3
 h4:p4
 h5:p5
 h6:p6
 h7:p7
structure Aj9(p0 p1 p2 p3 p4 p5 p6 p7 p8:Prop):Prop where
 h0:p0
 h1:p1
 h2:p2
 h3:p3
 h4:p4
 h5:p5
 h6:p6
 h7:p7
 h8:p8
def zar1{a b:Nat}(h:a<b):b-(a+1)<b-a:=Nat.sub_lt_sub_left h (Yy a)
def zar3{a b:Nat}(h:a≤b)(k:¬a<b):a=b:=Nat.le_antisymm h (Xr k)
def zar4{a b:Nat}(h:a≤b):a+1≤b+1:=Nat.succ_le_succ h
def zar6{a b c:Nat}(e:a=b)(h:c<b):c<a:=e▸h
def zar7{a b c:Nat}(e:a=b)(h:c<a):c<b:=e▸h
def zar9{a b:Nat}(h:a<b):(a:Int)<(b:Int):=Int.ofNat_lt.mpr h
def zar10{a b:Nat}(h:a<b)(k:b≤a):False:=We _ (Zy h k)
def zfr{a b c:Nat}(h:a≤b)(e:a=c):c≤b:=e▸h
def zar16{a b:Nat}(h:a≤b):a≤b+1:=Nat.le_succ_of_le h
namespace L2
open PySem PySem.Spec PyProof.Rows
abbrev Key:=Sum Int Str
def keyIs:Key→Value→Bool
 |.inl k,v=>Value.isInt k v
 |.inr x,v=>Value.isStrOf x v
def keyH(w:Nl):Key→Int
 |.inl k=>hashInt k
 |.inr x=>hashStr w x
theorem zbo:∀{k:Key} {v:Value},keyIs k v=true→(∃i t,k=Sum.inl i∧v=BJ t)∨(∃x t,k=Sum.inr x∧v=U8 t)
 |.inl i,v,h=>by obtain⟨t,e⟩:=Value.isInt_shape (k:=i) (v:=v) h;exact .inl ⟨i,t,rfl,e⟩
 |.inr x,v,h=>by obtain⟨t,e⟩:=Value.isStrOf_shape (x:=x) (v:=v) h;exact .inr ⟨x,t,rfl,e⟩
def keyIs_int(i:Int)(t:Tok):keyIs (Rq i) (Po i)=true:=by simp[keyIs,Value.isInt]
def keyIs_str(x:Str)(t:Tok):keyIs (SJ x) (.str x t)=true:=by simp[keyIs,Value.isStrOf]
def key_ll(a b:Int):decide ((Sum.inl a:Key)=Sum.inl b)=(a==b):=by
 by_cases e:a=b
 ·subst e;simp
 have h:¬ (Sum.inl a:Key)=Sum.inl b:=λq=>e (Sum.inl.inj q);rw[decide_eq_false h];exact(EY e).symm
def key_rr(a b:Str):decide ((Sum.inr a:Key)=Sum.inr b)=decide (a=b):=by
 by_cases e:a=b
 ·subst e;simp
 have h:¬ (Sum.inr a:Key)=Sum.inr b:=λq=>e PY;rw[decide_eq_false h,decide_eq_false e]
def key_lr(a:Int)(b:Str):decide ((Sum.inl a:Key)=Sum.inr b)=false:=decide_eq_false (λq=>nomatch q)
def key_rl(a:Str)(b:Int):decide ((Sum.inr a:Key)=Sum.inl b)=false:=decide_eq_false (λq=>nomatch q)
def zar(prog:Nk)(w:Nl):PySem.KeyKind prog w Key where
 is:=keyIs
 hash:=keyH w
 inj:=λv a b ha hb=>by
  rcases zbo ha with⟨i,t,rfl,rfl⟩|⟨x,t,rfl,rfl⟩
  ·rcases zbo hb with⟨j,u,rfl,e⟩|⟨y,u,rfl,e⟩
   ·injection e with e1 _;rw[e1]
   exact nomatch e
  rcases zbo hb with⟨j,u,rfl,e⟩|⟨y,u,rfl,e⟩
  ·exact nomatch e
  injection e with e1 _;rw[e1]
 byValue:=λk v h=>by rcases zbo h with⟨i,t,rfl,rfl⟩|⟨x,t,rfl,rfl⟩<;>rfl
 pyHash:=λhv h=>by
  rcases zbo hv with⟨i,t,rfl,rfl⟩|⟨x,t,rfl,rfl⟩
  ·exact wpAny_pyHash_int h
  exact wpAny_pyHash_str h
 eqBool:=λhu hv h=>by
  rcases zbo hu with⟨i,t,rfl,rfl⟩|⟨x,t,rfl,rfl⟩
  ·rcases zbo hv with⟨j,u,rfl,rfl⟩|⟨y,u,rfl,rfl⟩
   ·rw[key_ll]at h;exact wpAny_eqBool_int h
   rw[key_lr]at h;exact SeqAt.EqAt.int_str i t y u _ _ _ _ h
  rcases zbo hv with⟨j,u,rfl,rfl⟩|⟨y,u,rfl,rfl⟩
  ·rw[key_rl]at h;exact SeqAt.EqAt.str_int x t j u _ _ _ _ h
  rw[key_rr]at h;exact wpAny_eqBool_str h
 «strs»:=λk x t v h=>by
  rcases zbo h with⟨i,u,rfl,e⟩|⟨y,u,rfl,e⟩
  ·exact nomatch e
  injection e with e1 _;subst e1;cases v<;>rfl
def mixKind_int(prog:Nk)(w:Nl)(i:Int)(t:Tok):(zar prog w).is (Rq i) (Po i)=true:=keyIs_int i t
def zhd(prog:Nk)(w:Nl)(x:Str)(t:Tok):(zar prog w).is (SJ x) (.str x t)=true:=keyIs_str x t
inductive V where
 |non|bl (b:Bool)|int (i:Int)|str (x:Str)|byt (b:Array UInt8)|flt (b:UInt64)|ref (a:Nb)|ty (n:String)
 deriving DecidableEq
def RelV:V→Value→Prop
 |.non,u=>u=Value.none
 |.bl b,u=>u=Value.bool b
 |.int i,u=>∃t,u=BJ t
 |.str x,u=>∃t,u=U8 t
 |.byt b,u=>∃t,u=Value.bytes b t
 |.flt b,u=>∃t,u=Value.float b t
 |.ref a,u=>u=Value.ref a
 |.ty n,u=>u=Value.type n
abbrev Vals:List V→List Value→Prop:=Paired RelV
def Vals.length{xs:List V}{us:Nj}(r:WG us):xs.length=us.length:=Zr r
theorem Vals.get:∀{xs:List V} {us:Nj} {i:Nat} {x:V},WG us→xs[i]?=some x→∃u,us[i]?=some u∧WY u
 |_,_,_,_,.nil,e=>by simp at e
 |_,_,0,_,.cons r _,e=>by simp at e;subst e;exact⟨vG,r⟩
 |_,_,i+1,x,.cons _ t,e=>by obtain⟨u,h1,h2⟩:=Vals.get (i:=i) (x:=x) t OR;exact⟨u,HE h1,h2⟩
theorem Vals.set(r:WY u):∀{xs:List V} {us:Nj} (i:Nat),WG us→Vals (xs.set i x) (us.set i u)
 |_,_,_,.nil=>.nil
 |_,_,0,.cons _ t=>.cons r t
 |_,_,i+1,.cons q t=>.cons q (Vals.set r i t)
theorem Vals.append:∀{xs ys:List V} {us ws:Nj},WG us→Y3 ws→Vals (xs++ys) (us++ws)
 |_,_,_,_,.nil,s=>s
 |_,_,_,_,.cons r t,s=>.cons r (Vals.append t s)
theorem Vals.take:∀{xs:List V} {us:Nj} (n:Nat),WG us→Vals (ED n) (us.take n)
 |_,_,0,_=>.nil
 |_,_,_+1,.nil=>.nil
 |_,_,n+1,.cons r t=>.cons r (Vals.take n t)
theorem Vals.drop:∀{xs:List V} {us:Nj} (n:Nat),WG us→Vals (xs.drop n) (us.drop n)
 |_,_,0,r=>r
 |_,_,_+1,.nil=>.nil
 |_,_,n+1,.cons _ t=>Vals.drop n t
def RelO:Option V→Option Value→Prop
 |some v,some u=>US u
 |none,none=>True
 |_,_=>False
def KV{κ:Type}:List (κ×V)→List (κ×Value)→Prop:=Paired λ(p:κ×V) (q:κ×Value)=>p.1=q.1∧DT q.2
def kV:Key→V
 |.inl i=>.int i
 |.inr x=>.str x
inductive HO where
 /-- a list -/
 |lst (xs:List V)
 /-- a tuple (never changes) -/
 |tup (xs:List V)
 /-- a dict whose keys are ints and texts;one whose keys are tuples of ints and texts (the empty one is both) -/
 |dK (kvs:List (Key×V))|dT (kvs:List (List Key×V))
 /-- a set of ints: a7 members,a7 size -/
 |set (S:Int→Bool) (n:Nat)
 /-- an instance of the class at C,a7 dict at dx,a7 attributes -/
 |ins (C dx:Nb) (fs:List (Str×V))
 /-- the dict of the instance at x -/
 |own (x:Nb)
 /-- the dict of an exception -/
 |xd (fs:List (Str×V))
 /-- a bound method,f of x -/
 |met (f x:Nb)
 /-- a range object lo,lo+1,.. below hi -/
 |rng (lo hi:Int)
 /-- a thing that is known to the object (the script;a dict while a loop walks it): read,never written while it is so -/
 |frz (o:Obj) (u:HO)
 /-- a code object's table -/
 |tbl (ps:Array Value)
 /-- any other thing,by what is true of a7 one object (a def of one's own: SetO a S n:=HO.ext λh=>..) -/
 |ext (φ:Heap→Prop)
abbrev Hp:=Addr→Option HO
def upd(H:Hp)(a:Nb)(o:HO):Hp:=λb=>if b=a then some o else H b
def zab{H:Hp}{a:Nb}{o:HO}:ZR a o a=some o:=by unfold upd;rw[if_pos rfl]
def zag{H:Hp}{a b:Nb}{o:HO}(h:b≠a):ZR a o b=H b:=by unfold upd;rw[if_neg h]
def upd_upd:upd Od a u=ZR a u:=by funext b;unfold upd;split<;>rfl
def za8{H:Hp}{a b:Nb}{o u:HO}(h:H a=some o)(h':H b=some u)(d:o≠u):a≠b:=by intro e;subst e;rw[h]at h';exact d (Qo h')
def zac{H:Hp}{a b:Nb}{o:HO}(h:H a=some o)(h':H b=none):a≠b:=by intro e;subst e;rw[h]at h';cases h'
section
variable(P:Nk)(w:Nl)
def zbp(H:Hp)(h:Nn)(a:Nb):HO→Prop
 |.lst xs=>xs.length≤sizeLine∧∃(a7:Nj) (n:Nat),WG a7∧h.get? a=some {cls:=.type "list",data:=.seq a7.toArray n}
 |.tup xs=>xs.length≤sizeLine∧∃a7:List Value,WG a7∧IsTup h a a7.toArray
 |.dK kvs=>kvs.length≤sizeLine∧(a==sysModules)=false∧∃vs,UC vs∧h.DictOf Ck a vs
 | .dT kvs=>kvs.length≤sizeLine∧(a == sysModules)=false∧∃ xs:List (List Key×Addr×Value),
   Paired (λ(p:List Key×V) (q:List Key×Addr×Value)=>p.1=q.1∧H q.2.1=some y6∧DT q.2.2) kvs xs ∧
   ∃o es ep,h.get? a=some o∧o.ExactDict∧o.data=.dict es ep∧es.toList=xs.map (entryOfKey (Ey Ck))∧(IC (·.1)).Nodup
 |.set S n=>h.SetOf (intKind P w) a S n
 | .ins C dx fs=>H dx=some EZ∧fs.length≤1000∧dx≠a∧h.get? a=some (WU dx) ∧
   ∃mA,h.Ns1 dx mA∧(∀f,K1 (mA f))∧Ma (fs.map (·.1))
 |.own _=>∃o,h.get? a=some o
 |.xd fs=>∃mA,h.Ns1 a mA∧∀f,K1 (mA f)
 |.rng lo hi=>∃t u v,h.get? a=some {cls:=.type "range",data:=.fields #[Po lo,Aw,yS]}
 |.frz o u=>h.get? a=some o∧zbp H h a u
 |.tbl ps=>h.get? a=some {cls:=.none,data:=.fields ps}
 |.met f x=>h.get? a=some (Bn PZ)
 |.ext φ=>φ h∧(∃o,h.get? a=some o)∧∀h1 h2:Heap,φ h1→(∀o,h1.get? a=some o→h2.get? a=some o)→φ h2
def HOk(H:Hp)(h:Nn):Prop:=∀a o,H a=some o→YL o
end
section
variable{P:Nk}{w:Nl}{H H':Hp}{h h':Nn}{a:Nb}{o:HO}
def zbp.lt(x:YL o):a<h.objs.size:=by
 cases o with
 |lst xs=>obtain⟨_,_,_,_,e⟩:=x;exact Qx e
 |tup xs=>obtain⟨_,_,_,p⟩:=x;exact p.lt
 |dK kvs=>obtain⟨_,_,_,_,o,_,_,e,_⟩:=x;exact Qx e
 |dT kvs=>obtain⟨_,_,_,_,o,_,_,e,_⟩:=x;exact Qx e
 |set S n=>obtain⟨o,_,_,_,e,_⟩:=x;exact Qx e
 |ins C dx fs=>obtain⟨_,_,_,e,_⟩:=x;exact Qx e
 |own y=>obtain⟨_,e⟩:=x;exact Qx e
 |xd fs=>obtain⟨_,⟨_,_,_,e,_⟩,_⟩:=x;exact Qx e
 |rng lo hi=>obtain⟨_,_,_,e⟩:=x;exact Qx e
 |frz ob u=>obtain⟨e,_⟩:=x;exact Qx e
 |tbl ps=>exact Qx (show h.get? a=some _ from x)
 |met f y=>exact Qx (show h.get? a=some _ from x)
 |ext φ=>obtain⟨_,⟨_,e⟩,_⟩:=x;exact Qx e
theorem Paired.mapP{α β:Type}{F G:α→β→Prop}:∀{l₁:List α} {l₂:List β},Paired F l₁ l₂→(∀a b,F a b→G a b)→Paired G l₁ l₂
 |_,_,.nil,_=>.nil
 |_,_,.cons r t,f=>.cons (f _ _ r) (Paired.mapP t f)
def Paired.imp'{α β:Type}{F G:α→β→Prop}(f:∀a b,F a b→G a b){l₁:List α}{l₂:List β}(r:yC F l₁ l₂):Paired G l₁ l₂:=Paired.mapP r f
def zbp.stay(x:YL o)(k:∀b u,(b=a∨H b=some EZ)→h.get? b=some u→h'.get? b=some u)(ho:∀b,H b=some EZ→H' b=some EZ)(ht:∀b xs,H b=some Tb→H' b=some Tb):UZ H' h' a o:=by
 induction o with
 |lst xs=>obtain⟨z,a7,n,r,e⟩:=x;exact⟨z,a7,n,r,TY⟩
 |tup xs=>obtain⟨z,a7,r,ob,e,c⟩:=x;exact⟨z,a7,r,ob,TY,c⟩
 |dK kvs=>obtain⟨z,y,vs,r,ob,es,ep,e,c⟩:=x;exact⟨z,y,vs,r,ob,es,ep,TY,c⟩
 |dT kvs=>obtain⟨z,y,xs,r,ob,es,ep,e,c⟩:=x;exact⟨z,y,xs,Paired.mapP r λp q z=>⟨z.1,ht _ _ z.2.1,z.2.2⟩,ob,es,ep,TY,c⟩
 |set S n=>obtain⟨ob,es,ep,t,e,c⟩:=x;exact⟨ob,es,ep,t,TY,c⟩
 |ins C dx fs=>obtain⟨d,z,ne,e,mA,⟨od,es,ep,e2,c⟩,r⟩:=x;exact⟨ho _ d,z,ne,TY,mA,⟨od,es,ep,k _ _ (SJ d) e2,c⟩,r⟩
 |own y=>obtain⟨ob,e⟩:=x;exact⟨ob,TY⟩
 |xd fs=>obtain⟨mA,⟨od,es,ep,e,c⟩,r⟩:=x;exact⟨mA,⟨od,es,ep,TY,c⟩,r⟩
 |rng lo hi=>obtain⟨t,u,v,e⟩:=x;exact⟨t,u,v,TY⟩
 |frz ob u ih=>obtain⟨e,q⟩:=x;exact⟨TY,ih q⟩
 |tbl ps=>have e:h.get? a=some {cls:=.none,data:=.fields ps}:=x;show h'.get? a=some {cls:=.none,data:=.fields ps};exact k a _ Sf e
 |met f y=>have e:h.get? a=some (Bn (HK y)):=x;show h'.get? a=some (Bn (HK y));exact k a _ Sf e
 |ext φ=>obtain⟨p,⟨o,e⟩,st⟩:=x;exact⟨st _ _ p λo q=>k _ _ Sf q,⟨o,TY⟩,st⟩
def HOk.lt(x:WV h)(e:H a=some o):a<h.objs.size:=(x a o e).lt
def HOk.fresh(x:WV h)(e:h.objs.size≤a):H a=none:=by
 cases q:H a with
 |none=>rfl
 |some u=>exact absurd (Zy (x.lt q) e) OS
def HOk.kept(x:WV h)(k:∀b u,h.get? b=some u→h'.get? b=some u):WV h':=λa o e=>(x a o e).stay (λb u _ q=>k b u q) (λ_ q=>q) λ_ _ q=>q
def HOk.laid(x:WV h)(k:∀b u,h.get? b=some u→h'.get? b=some u)(hp:h.objs.size≤a)(new:UZ Od h' a o):HOk P w Od h':=λb u e=>by
 have hn:=x.fresh hp;by_cases hb:b=a
 ·subst hb;rw[zab]at e;cases e;exact new
 rw[yT]at e;exact(x b u e).stay (λc v _ q=>k c v q) (λc q=>by rw[zag A4];exact q) λc xs q=>by rw[zag A4];exact q
def Rd(H:Hp)(a:Nb)(u:HO):Prop:=H a=some u∨∃o,H a=some P0
def Rd.ok{P:Nk}{w:Nl}{H:Hp}{h:Nn}{a:Nb}{u:HO}(r:BT u)(x:WV h):YL u:=by
 rcases r with r|⟨o,r⟩
 ·exact x a u r
 obtain⟨_,q⟩:=x a _ r;exact q
def Mut:Option HO→Prop
 |some (.lst _)=>True
 |some (.dK _)=>True
 |some (.dT _)=>True
 |some (.set _ _)=>True
 |some (.ins _ _ _)=>True
 |some (.ext _)=>True
 |_=>False
variable{x e:Nb}{o':HO}
def HOk.write(ok:WV h)(mu:Mut (H x))(he:e=x∨H e=some Oe)(k:∀ b u,b≠e→h.get? b=some u→h'.get? b=some u)(mq:∃ u,h'.get? e=some u)(new:UZ (ZR x o') h' x o'):HOk P w (ZR x o') h':=λb u q=>by
 have nown:∀c y,H c=some (.own y)→c≠x:=λc y r z=>by subst z;rw[r]at mu;exact mu
 have ntup:∀c xs,H c=some Tb→c≠x:=λc xs r z=>by subst z;rw[r]at mu;exact mu
 by_cases hb:b=x
 ·subst hb;rw[zab]at q;cases q;exact new
 rw[yT]at q;by_cases lq:b=e
 ·have q':H b=some Oe:=by
   rcases he with z|z
   ·exact absurd (lq.trans z) hb
   rw[lq];exact z
  rw[q]at q';cases q';obtain⟨v,hv⟩:=mq;exact⟨v,HP lq hv⟩
 refine (ok b u q).stay (λc v hc r=>k c v ?_ r) (λc r=>by rw[zag (nown c b r)];exact r) λc xs r=>by rw[zag (ntup c xs r)];exact r
 rcases hc with rfl|hc
 ·exact lq
 rintro rfl;rcases he with z|z
 ·exact nown c b hc z
 rw[hc]at z;cases z;exact hb rfl
end
structure Un(fs ex:No)(H H':Hp)(h h':Nn):Prop where
 keep:∀b o,h.get? b=some o→H b=none→b∉fs→b∉ex→h'.get? b=some o
 slot:∀b o,h.get? b=some o→H b=none→b∈fs→b∉ex→∃sl,h'.get? b=some {o with slots:=sl}
 free:∀b o,h.get? b=some o→H b=none→b∉ex→H' b=none
 there:∀b o,h.get? b=some o→b∉ex→∃o',h'.get? b=some o'
 tups:∀b xs,H b=some Tb→H' b=some Tb
 frzs:∀b o u,H b=some P0→H' b=some P0
 tbls:∀b ps,H b=some AM→∃more,H' b=some (.tbl (ps++more))
section
variable{fs fs' ex ex':No}{H H1 H2:Hp}{h h1 h2 h':Nn}{a x e:Nb}{o:HO}
def Un.any(u:K2 H1 h h1){b:Nb}{ob:Obj}(q:h.get? b=some ob)(n:H b=none)(hx:b∉ex):∃sl,h1.get? b=some {ob with slots:=sl}:=by
 by_cases hb:b∈fs
 ·exact u.slot b ob q n hb hx
 exact⟨ob.slots,u.keep b ob q n hb hx⟩
def Un.kept(k:∀b u,h.get? b=some u→h'.get? b=some u):K2 H h h':=
 ⟨λb ob q _ _ _=>k b ob q,λb ob q _ _ _=>⟨ob.slots,k b ob q⟩,λ_ _ _ n _=>n,λb ob q _=>⟨ob,k b ob q⟩,λ_ _ q=>q,λ_ _ _ q=>q,λ_ ps q=>⟨#[],by rw[q];simp⟩⟩
def Un.refl:K2 H h h:=Un.kept λ_ _ q=>q
theorem Un.laid(k:∀b u,h.get? b=some u→h'.get? b=some u)(hp:h.objs.size≤a)(hn:H a=none):K2 Od h h' where
 keep:=λb u q _ _ _=>k b u q
 slot:=λb u q _ _ _=>⟨u.slots,k b u q⟩
 free:=λb u q n _=>by rw[zag (Zj (Zy (Qx q) hp))];exact n
 there:=λb u q _=>⟨u,k b u q⟩
 tups:=λb xs q=>by rw[zag A4];exact q
 frzs:=λb u xs q=>by rw[zag A4];exact q
 tbls:=λb ps q=>⟨#[],by rw[zag A4,q];simp⟩
def Un.write(mu:Mut (H x))(he:e=x∨H e=some Oe)(k:∀b u,b≠e→h.get? b=some u→h'.get? b=some u)(mq:∃u,h'.get? e=some u):K2 (ZR x o) h h':=by
 have hx:∀b,H b=none→b≠x:=λb n z=>by subst z;rw[n]at mu;exact mu
 have hb:∀b,H b=none→b≠e:=λb n z=>by
  subst z;rcases he with r|r
  ·exact hx b n r
  rw[n]at r;cases r
 have hm:∀b u,H b=some u→¬Mut xc→b≠x:=λb u q nm z=>by subst z;rw[q]at mu;exact nm mu
 refine⟨λb u q n _ _=>k b u (hb b n) q,λb u q n _ _=>⟨u.slots,k b u (hb b n) q⟩,λb u q n _=>by rw[zag (hx b n)];exact n,λb u q _=>?_,
  λb xs q=>by rw[zag (hm b _ q λz=>z)];exact q,λb u xs q=>by rw[zag (hm b _ q λz=>z)];exact q,λb ps q=>⟨#[],by rw[zag (hm b _ q λz=>z),q];simp⟩⟩
 by_cases lq:b=e
 ·subst lq;exact mq
 exact⟨u,k b u lq q⟩
def trk(h:Nn)(H:Hp):List Addr:=(List.range h.objs.size).filter λa=>(H a).isSome
def hidT(h:Nn)(H:Hp):Heap:=PySem.W.hideAll h (trk h H)
def hidT_size(h:Nn)(H:Hp):(hidT h H).objs.size=h.objs.size:=PySem.W.hideAll_size _ _
def hidT_get{h:Nn}{H:Hp}{b:Nb}{o:Obj}(e:h.get? b=some o)(n:H b=none):(hidT h H).get? b=some o:=
 PySem.W.hideAll_get _ e λhm=>by have q:(H b).isSome=true:=(O1 hm).2;rw[n]at q;simp at q
def of_hidT{h:Nn}{H:Hp}{b:Nb}{o:Obj}(e:(hidT h H).get? b=some o):h.get? b=some o∧H b=none:=by
 have e':h.get? b=some o:=PySem.W.of_hideAll (trk h H) e;refine⟨e',?_⟩;cases q:H b with
 |none=>rfl
 |some x=>have hm:b∈trk h H:=Zf.mpr ⟨Yz.mpr (Qx e'),by simp[q]⟩;have z:(hidT h H).get? b=none:=PySem.W.hideAll_none (trk h H) hm;rw[z]at e;cases e
end
structure Mod(K:Na)(mg:Nd)(base:Nn):Prop where
 kin:K.In base
 glob:base.Ns mainGlobals mg
 blt:∃mb,base.Ns builtinsNs mb∧∀x:Str,x ≠ "__name__" → mb x=bootBuiltins x
 nolimit:base.NoLimit
structure Cx where
 prog:Program
 w:World
 K:PySem.W.Frag
 mg:Str→Option Value
 base:Heap
 A:Around
 N:List Str
 s₀:Shared
 H₀:Hp
 env:Env
 outer:List Env
 stack:List Env
 ex:List Addr
 fn:Str→Bool
 calm:Bool
 pn:List (Addr×Obj)
 xe:Value→Shared→Prop
def frs(l:List Env):List Addr:=l.filterMap (·.frame)
abbrev Cx.fs(X:Cx):List Addr:=frs X.outer
def Vis(sc:Scope)(x:Str):Prop:=sc.names.lookup x=some .local∨sc.names.lookup x=some .cell∨sc.names.lookup x=some .free
def Loc(sc:Scope)(x:Str):Prop:=sc.names.lookup x=some .local∨sc.names.lookup x=some .cell
def Look(env:Env)(h:Nn)(m:Nd)(x:Str)(u:Value):Prop:=
 (env.kindOf x=some .local∧m x=some u)∨((env.kindOf x=some .cell∨env.kindOf x=some .free)∧∃c,env.cells.lookup x=some c∧h.IsCell c xc)
structure Cx.Ok(X:Cx):Prop where
 mod:Mod X.K X.mg X.base
 kind:X.env.scope.kind=.function
 glob:X.env.globals=mainGlobals
 blt:X.env.builtins=builtinsNs
 above:X.s₀.heap.objs.size≤X.env.locals
 inj:∀x y c,X.env.cells.lookup x=some c→X.env.cells.lookup y=some c→x=y
 has:∀x,(X.env.kindOf x=some .cell∨X.env.kindOf x=some .free)→∃c,X.env.cells.lookup x=some c
 cab:∀x c,X.fn x=true→X.env.cells.lookup x=some c→X.s₀.heap.objs.size≤c
 hd:X.calm=true→X.A.handled=none
 frames:X.A.frames=some X.stack
 stk:X.stack=X.outer∨(X.stack=X.env::X.outer∧X.env.frame=some X.env.locals)
 exf:∀b∈X.ex,b≠X.env.locals∧∀x c,X.env.cells.lookup x=some c→c≠b
 bs:∀b o,X.base.get? b=some o→X.s₀.heap.get? b=some o∧X.H₀ b=none
 bsz:X.base.objs.size≤X.s₀.heap.objs.size
 noex:∀b o,X.base.get? b=some o→b∉X.ex
 exfs:∀b∈X.ex,b∉X.fs
 funs:Mb X.outer
 frf:∀b∈X.fs,X.H₀ b=none
structure Inv(X:Cx)(a5:Nh)(σ:List (Option V))(H:Hp)(s:Ni):Prop where
 ok:X.Ok
 os:s.os=X.s₀.os
 bare:AllBare s.gens
 base:Un X.fs X.ex X.H₀ H X.s₀.heap s.heap
 loc:∃m,s.heap.Ns X.env.locals m∧∀(i:Nat) (x:Str) (v:V),X.N[i]?=some x→σ[i]?=some IQ→XN x→∃u,US u∧Look X.env s.heap m x u
 cell:∀x c,X.env.cells.lookup x=some c→∃v,s.heap.IsCell c v
 free:H X.env.locals=none
 freeC:∀x c,X.env.cells.lookup x=some c→H c=none
 pin:∀p∈X.pn++a5,s.heap.get? p.1=some p.2∧H p.1=none∧p.1≠X.env.locals∧p.1∉X.fs∧∀v,p.2.data≠.cell v
 hok:JC H s.heap
 len:σ.length=X.N.length
section
variable{X:Cx}{a5:Nh}{σ:List (Option V)}{H H':Hp}{s:Ni}{h':Nn}
def Cx.Ok.nofr(ok:X.Ok)(e:X.base.get? b=some o):b∉X.fs:=λhb=>by have:=(ok.funs.mem hb).1;rw[e]at this;cases this
def Inv.bs(I:Ro):∀b o,X.base.get? b=some o→s.heap.get? b=some o∧H b=none:=λb o e=>⟨I.base.keep b o (VZ e).1 (VZ e).2 (I.ok.nofr e) (M' e),Ba (VZ e).1 (VZ e).2 (M' e)⟩
def Inv.bk(I:Ro):∀b o,X.base.get? b=some o→s.heap.get? b=some o:=λb o e=>(I.bs b o e).1
def Inv.mod(I:Ro):Mod X.K X.mg X.base:=I.ok.mod
def Inv.kIn(I:Ro):X.K.In s.heap:=I.ok.mod.kin.keeps I.bk
def Inv.lt(I:Ro):X.env.locals<s.heap.objs.size:=let⟨_,hn,_⟩:=I.loc;hn.lt
def Inv.sz(I:Ro):X.s₀.heap.objs.size≤s.heap.objs.size:=Zi I.ok.above (Ud I.lt)
def Inv.nofs(I:Ro)(h:s.heap.objs.size≤a):a∉X.fs:=λhb=>by obtain⟨_,o,ho,_⟩:=I.ok.funs.mem hb;exact absurd (Zy (Qx ho) (Zi I.sz h)) OS
def Inv.cne(I:Ro):∀x c,X.env.cells.lookup x=some c→c≠X.env.locals:=λx c e z=>by obtain⟨v,o,ho,hd⟩:=JV e;obtain⟨m,⟨o',es,ep,dz,iX,_⟩,_⟩:=I.loc;rw[z,dz]at ho;cases ho;rw[iX]at hd;cases hd
def Inv.funs(I:Ro):s.heap.FunFrames X.base X.outer:=by
 have all:∀(l:List Env),(∀b∈frs l,b∈X.fs)→Mb l→s.heap.FunFrames X.base l:=by
  intro l;induction l with
  |nil=>intro _ _;trivial
  |cons env r ih=>intro hs hl;obtain⟨hk,⟨L,o,hf,hn,ho,hd⟩,hr⟩:=hl;have hL:L∈X.fs:=hs L (by unfold frs;rw[List.filterMap_cons,hf];exact List.mem_cons_self);obtain⟨sl,e⟩:=I.base.slot L o ho (I.ok.frf L hL) hL λz=>I.ok.exfs L z hL;exact⟨hk,⟨L,_,hf,hn,e,hd⟩,ih (λb hb=>hs b (by unfold frs;rw[List.filterMap_cons,hf];exact NZ hb)) hr⟩
 exact all X.outer (λ_ hb=>hb) I.ok.funs
def Inv.stack(I:Ro):s.heap.FunFrames X.base X.stack:=by
 rcases I.ok.stk with e|⟨e,hf⟩
 ·rw[e];exact I.funs
 rw[e];obtain⟨m,hn,_⟩:=I.loc;refine .cons (by rw[I.ok.kind];decide) hf hn ?_ I.funs;exact Heap.get?_none_of_le (DV I.ok.above)
def Inv.stkSub(I:Ro):∀b∈frs X.stack,b∈X.env.locals::X.fs:=λb hb=>by
 rcases I.ok.stk with e|⟨e,hf⟩
 ·rw[e]at hb;exact QR hb
 rw[e]at hb;unfold frs at hb;rw[List.filterMap_cons,hf]at hb;exact hb
def Inv.stkFree(I:Ro):∀b∈frs X.stack,H b=none:=λb hb=>by
 rcases Qi.mp (Fw hb) with e|hb
 ·rw[e];exact I.free
 obtain⟨_,o,ho,_⟩:=I.ok.funs.mem hb;exact Ba ho (I.ok.frf b hb) λz=>I.ok.exfs b z hb
def Inv.step{g':Array GenState}{t':Nat}{d':Drawn}{ch:No}(I:Ro)(ie:RG)(keep:∀b o,b≠X.env.locals→b∉X.fs→b∉ch→s.heap.get? b=some o→H b=none→h'.get? b=some o)(slot:∀b o,b≠X.env.locals→b∈X.fs→b∉ch→s.heap.get? b=some o→H b=none→∃sl,h'.get? b=some {o with slots:=sl})(free:∀b o,b∉ch→s.heap.get? b=some o→H b=none→H' b=none)(there:∀b o,b∉ch→s.heap.get? b=some o→∃o',h'.get? b=some o')(tups:∀b xs,H b=some Tb→H' b=some Tb)(frzs:∀b o u,H b=some P0→H' b=some P0)(tbls:∀b ps,H b=some AM→∃more,H' b=some (.tbl (ps++more)))(ns:∀m,s.heap.Ns X.env.locals m→h'.Ns X.env.locals m)(hok:JC H' h')(hg:AllBare g') :
  Inv X a5 σ H' {s with heap:=h',gens:=g',drawn:=d',toks:=t'}:=by
 have neL:∀b o,X.s₀.heap.get? b=some o→b≠X.env.locals:=λb o e=>Zj EE;have neC:∀b o,X.s₀.heap.get? b=some o→b∉X.ex→b∉ch:=λb o e hx hb=>by
  rcases(ie b hb).1 with z|z
  ·exact hx z
  exact absurd (Bj z) OS
 have cellK:∀x c,X.env.cells.lookup x=some c→∀v,s.heap.IsCell c v→h'.IsCell c v:=λx c e v ⟨o,ho,hd⟩=>by
  have nch:c∉ch:=λz=>(ie c z).2.2.1 x c e rfl;by_cases hc:c∈X.fs
  ·obtain⟨sl,q⟩:=slot c o (I.cne x c e) hc nch ho (J4 e);exact⟨_,q,hd⟩
  exact⟨o,keep c o (I.cne x c e) hc nch ho (J4 e),hd⟩
 refine⟨I.ok,I.os,hg,⟨λb o e n hb hx=>?_,λb o e n hb hx=>?_,λb o e n hx=>?_,λb o e hx=>?_,λb xs e=>tups b xs (I.base.tups b xs e),λb o xs e=>frzs b o xs (I.base.frzs b o xs e),λb ps e=>?_⟩,?_,λx c e=>?_,?_,λx c e=>?_,λp hp=>?_,hok,I.len⟩
 ·exact keep b o (neL b o e) hb E1 (XE hx) z7
 ·obtain⟨sl,e1⟩:=XF hx;obtain⟨sl',e2⟩:=slot b _ (neL b o e) hb E1 e1 z7;exact⟨sl',e2⟩
 ·obtain⟨o',e1⟩:=Bo hx;exact free b o' E1 e1 z7
 ·obtain⟨o',e1⟩:=Bo hx;exact there b o' E1 e1
 ·obtain⟨m1,e1⟩:=I.base.tbls b ps e;obtain⟨m2,e2⟩:=tbls b _ e1;exact⟨m1++m2,by rw[e2,Array.append_assoc]⟩
 ·obtain⟨m,hn,hl⟩:=I.loc;refine⟨m,ns m hn,λi x v e1 e2 e3=>?_⟩;obtain⟨u,r,l⟩:=hl i x v e1 e2 e3;refine⟨u,r,?_⟩;rcases l with l|⟨k,c,e,z⟩
  ·exact .inl l
  exact .inr ⟨k,c,e,cellK x c e _ z⟩
 ·obtain⟨v,z⟩:=JV e;exact⟨v,cellK x c e v z⟩
 ·obtain⟨m,⟨o,_,_,ho,_⟩,_⟩:=I.loc;exact free _ o (λz=>(ie _ z).2.1 rfl) ho I.free
 ·obtain⟨v,o,ho,hd⟩:=JV e;exact free c o (λz=>(ie c z).2.2.1 x c e rfl) ho (J4 e)
 obtain⟨e,n,ne,nf,d⟩:=BK hp;have nch:p.1∉ch:=λz=>(ie p.1 z).2.2.2 p hp rfl;exact⟨keep p.1 p.2 ne nf nch e n,free p.1 p.2 nch e n,ne,nf,d⟩
def Inv.un{t':Nat}(I:Ro)(u:Un X.fs [] H H' s.heap h')(hok:JC H' h'):ZA H' {s with heap:=h',toks:=t'}:=by obtain⟨m,⟨o,es,ep,ho,r⟩,_⟩:=id I.loc;obtain⟨sl,hL⟩:=u.any ho I.free HA;exact I.step (g':=s.gens) (d':=s.drawn) (ch:=[]) (λ_ z=>nomatch z) (λb o _ hb _ e n=>u.keep b o e n hb HA) (λb o _ hb _ e n=>u.slot b o e n hb HA) (λb o _ e n=>u.free b o e n HA) (λb o _ e=>u.there b o e HA) u.tups u.frzs u.tbls (λm' hm=>by obtain⟨o',ai,ep',dz,r'⟩:=hm;rw[ho]at dz;cases dz;exact⟨_,ai,ep',hL,r'⟩) hok I.bare
def Inv.call{g':Array GenState}{t':Nat}{d':Drawn}{ch:No}(I:Ro)(u:VE h')(hok:JC H' h')(hg:AllBare g')(ie:RG) :
  Inv X a5 σ H' {s with heap:=h',gens:=g',drawn:=d',toks:=t'}:=by
 obtain⟨m,⟨o,es,ep,ho,r⟩,_⟩:=id I.loc;obtain⟨sl,hL⟩:=u.any ho I.free λz=>(ie _ z).2.1 rfl;exact I.step (ch:=ch) ie (λb o hL hb hc e n=>u.keep b o e n (λz=>(Qi.mp (Fw z)).elim hL hb) hc) (λb o _ _ hc e n=>u.any e n hc) (λb o hc e n=>u.free b o e n hc) (λb o hc e=>u.there b o e hc) u.tups u.frzs u.tbls (λm' hm=>by obtain⟨o',ai,ep',dz,r'⟩:=hm;rw[ho]at dz;cases dz;exact⟨_,ai,ep',hL,r'⟩) hok hg
def Inv.turned{t':Nat}{it:Nb}(I:Ro)(k:∀b o,b≠it→s.heap.get? b=some o→h'.get? b=some o)(hn:H it=none)(hL:it≠X.env.locals)(h1:it∈X.ex∨X.s₀.heap.objs.size≤it)(h2:∀x c,X.env.cells.lookup x=some c→c≠it)(h3:∀p∈X.pn++a5,p.1≠it):ZA H {s with heap:=h',toks:=t'}:=by
 have nit:∀b u,H b=some u→b≠it:=λb u e z=>by rw[z,hn]at e;cases e
 refine I.step (g':=s.gens) (d':=s.drawn) (ch:=[it]) (λb hb=>?_) (λb o _ _ hc e _=>k b o (λz=>hc (by simp[z])) e) (λb o _ _ hc e _=>⟨o.slots,k b o (λz=>hc (by simp[z])) e⟩) (λ_ _ _ _ n=>n)
  (λb o hc e=>⟨o,k b o (λz=>hc (by simp[z])) e⟩) (λ_ _ e=>e) (λ_ _ _ e=>e) (λb ps e=>⟨#[],by rw[e];simp⟩) (λm hm=>?_) (λb u e=>?_) I.bare
 ·have e:b=it:=by simpa using hb
  subst e;exact⟨h1,hL,h2,h3⟩
 ·obtain⟨o,es,ep,ho,r⟩:=hm;exact⟨o,es,ep,k _ o (Zm hL) ho,r⟩
 refine (KB u e).stay (λc v hc q=>k c v ?_ q) (λ_ q=>q) λ_ _ q=>q;rcases hc with z|z
 ·rw[z];exact nit b u e
 exact nit c _ z
def Inv.tok(I:Ro)(t:Nat):ZA H {s with toks:=t}:=I.un (h':=s.heap) (t':=t) Un.refl I.hok
def Inv.kept{t':Nat}(I:Ro)(k:∀b u,s.heap.get? b=some u→h'.get? b=some u):ZA H {s with heap:=h',toks:=t'}:=I.un (Un.kept k) (I.hok.kept k)
def Inv.laid(I:Ro)(k:∀b u,s.heap.get? b=some u→h'.get? b=some u)(hp:s.heap.objs.size≤a)(new:Z1 Od h' a o) :
  Inv X a5 σ Od {s with heap:=h',toks:=t'}:=I.un (Un.laid k hp (S0 hp)) (I.hok.laid k hp new)
def Inv.write(I:Ro)(mu:Mut (H x))(he:e=x∨H e=some Oe)(k:∀b u,b≠e→s.heap.get? b=some u→h'.get? b=some u)(mq:∃u,h'.get? e=some u)(new:Z1 (ZR x o) h' x o):ZA (ZR x o) {s with heap:=h',toks:=t'}:=I.un (Un.write mu he k mq) (I.hok.write mu he k mq new)
def Inv.pins_of(I:Ro)(h:∀p∈pins',s.heap.get? p.1=some p.2∧H p.1=none∧p.1≠X.env.locals∧p.1∉X.fs∧∀v,p.2.data≠.cell v):Inv X pins' σ H s:=
 ⟨I.ok,I.os,I.bare,I.base,I.loc,I.cell,I.free,I.freeC,λp hp=>(Qm.mp hp).elim (λz=>BK (YG z)) (h p),I.hok,I.len⟩
def nodup_ix{N:Ng}(hN:N.Nodup){i j:Nat}{x:Str}(a:N[i]?=some x)(b:N[j]?=some x):i=j:=by obtain⟨h1,e1⟩:=Qu.mp a;obtain⟨h2,e2⟩:=Qu.mp b;exact(Wf hN).mp (e1.trans e2.symm)
def store_ok2{M:Model}{A:Np}{E:Nc}{i:Nat}{x:Str}{v:V}{u:Value}{Q:Unit→Shared→Prop}(I:Ro)(hN:X.N.Nodup)(hi:X.N[i]?=some x)(hx:Y9 x)(r:US u)(h:∀s',ZD Ax H s'→(∃a,JP s'.heap∧(a=X.env.locals∨X.env.cells.lookup x=some a))→Q () s')(hf:X.fn x=true∨X.env.scope.names.lookup x=some .local:=by first|exact .inl rfl|exact .inr rfl|assumption):KC (Al u) Q E s:=by
 obtain⟨m,hn,hl⟩:=id I.loc;have uI:(X.env.scope.kind==.class||(X.env.scope.kind==.module&&X.env.locals != X.env.globals))=false:=by rw[I.ok.kind];rfl
 have hiσ:i<σ.length:=by rw[I.len];exact(TJ hi).1
 have cne:=I.cne;have tracked:∀{a:Nb} {h':Nn},(∃o,s.heap.get? a=some o∧H a=none)→JP h'→JC H h':=λ{a h'} ha hs b ob e=>by
  obtain⟨_,_,bx⟩:=ha;refine(KB ob e).stay (λc w' hc q=>(hs.2 c ?_).trans q) (λ_ q=>q) λ_ _ q=>q;rintro rfl;rcases hc with rfl|hc
  ·rw[bx]at e;cases e
  rw[bx]at hc;cases hc
 rcases hx with hk|hk
 ·refine wpAny_storeName_local hk hn (λh' hn' hs=>?_) uI;obtain⟨oL,_,_,hoL,_⟩:=id hn;refine h _ ⟨I.ok,I.os,I.bare,⟨λb o e n hb hx=>?_,λb o e n hb hx=>?_,I.base.free,λb o e hx=>?_,I.base.tups,I.base.frzs,I.base.tbls⟩,⟨_,hn',λj y v' e1 e2 e3=>?_⟩,λy c e=>?_,I.free,I.freeC,λp hp=>?_,tracked ⟨oL,hoL,I.free⟩ hs,by simpa using I.len⟩ ⟨_,hs,Sf⟩
  ·exact(AN (Zj EE)).trans (XE hx)
  ·obtain⟨sl,e1⟩:=XF hx;exact⟨sl,(AN (Zj EE)).trans e1⟩
  ·obtain⟨o',e1⟩:=Bo hx;exact⟨o',(AN (Zj EE)).trans e1⟩
  ·by_cases hj:j=i
   ·subst hj;rw[hi]at e1;cases e1;rw[List.getElem?_set_self hiσ]at e2;cases e2;exact⟨u,r,Rq ⟨hk,HA⟩⟩
   rw[List.getElem?_set_ne (Zm hj)]at e2;obtain⟨u',r',q⟩:=hl j y v' e1 e2 e3;refine⟨u',r',?_⟩;rcases q with⟨k,e⟩|⟨k,c,e,z⟩
   ·refine .inl ⟨k,?_⟩;have:y≠x:=λe=>hj (nodup_ix hN e1 (e▸hi));simp[this,e]
   exact .inr ⟨k,c,e,zH⟩
  ·obtain⟨w',z⟩:=I.cell y c e;exact⟨w',zH⟩
  obtain⟨e,n,ne,nf,d⟩:=BK hp;exact⟨(hs.2 p.1 ne).trans e,n,ne,nf,d⟩
 have uw:X.fn x=true:=by
  rcases hf with z|z
  ·exact z
  rw[z]at hk;cases hk
 obtain⟨c,hc⟩:=I.ok.has x (Rq hk);obtain⟨w',z⟩:=JV hc;refine wpAny_storeName_cell I.ok.kind hk hc z (λh' cQ hs=>?_);obtain⟨oc,hoc,tZ⟩:=id z;refine h {s with heap:=h'} ⟨I.ok,I.os,I.bare,⟨λb o e n hb hx=>?_,λb o e n hb hx=>?_,I.base.free,λb o e hx=>?_,I.base.tups,I.base.frzs,I.base.tbls⟩,⟨m,hn.sameBut hs (Zm (cne x c hc)),λj y v' e1 e2 e3=>?_⟩,λy c' e=>?_,I.free,I.freeC,λp hp=>?_,tracked ⟨oc,hoc,J4 hc⟩ hs,by simpa using I.len⟩ ⟨c,hs,SJ hc⟩
 ·exact(AN Og).trans (XE hx)
 ·obtain⟨sl,e1⟩:=XF hx;exact⟨sl,(AN Og).trans e1⟩
 ·obtain⟨o',e1⟩:=Bo hx;exact⟨o',(AN Og).trans e1⟩
 ·by_cases hj:j=i
  ·subst hj;rw[hi]at e1;cases e1;rw[List.getElem?_set_self hiσ]at e2;cases e2;exact⟨u,r,SJ ⟨Rq hk,c,hc,cQ⟩⟩
  rw[List.getElem?_set_ne (Zm hj)]at e2;obtain⟨u',r',q⟩:=hl j y v' e1 e2 e3;refine⟨u',r',?_⟩;rcases q with q|⟨k,c',e,z'⟩
  ·exact .inl q
  refine .inr ⟨k,c',e,z'.sameBut hs ?_⟩;rintro rfl;exact hj (nodup_ix hN e1 (I.ok.inj _ _ _ e hc▸hi))
 ·by_cases cP:c'=c
  ·subst cP;exact⟨_,cQ⟩
  obtain⟨w2,z2⟩:=I.cell y c' e;exact⟨w2,z2.sameBut hs cP⟩
 obtain⟨e,n,ne,nf,d⟩:=BK hp;refine⟨(hs.2 p.1 ?_).trans e,n,ne,nf,d⟩;intro q;rw[q,hoc]at e;have q':oc=p.2:=Qo e;exact d w' (by rw[←q'];exact tZ)
def ziu(I:Ro)(hN:X.N.Nodup)(hi:X.N[i]?=some x)(hx:Y9 x)(r:US u)(h:∀s',ZD Ax H s'→Q () s')(hf:X.fn x=true∨X.env.scope.names.lookup x=some .local:=by first|exact .inl rfl|exact .inr rfl|assumption):KC (Al u) Q E s:=
 store_ok2 I hN hi hx r (λs' I' _=>h s' I') hf
def Inv.call'(I:Ro)(ho:s'.os=s.os)(u:VE s'.heap)(hok:JC H' s'.heap)(hg:AllBare s'.gens)(ie:RG):ZA H' s':=by obtain⟨h',g',d',t',o'⟩:=s';have e:o'=s.os:=ho;subst e;exact I.call (g':=g') (t':=t') (d':=d') u hok hg ie
abbrev XK:=Value→Option Addr→Hp→Prop
abbrev St:=List (Option V)
abbrev VK:=V→Hp→Prop
abbrev TE:=St→Hp→VK→Prop
abbrev TT:=St→Hp→(Bool→Hp→Prop)→Prop
abbrev TA:=St→Hp→(List V→Hp→Prop)→Prop
structure Ends where
 nx:St→Hp→Prop
 rt:VK
 bk:St→Hp→Prop:=λ_ _=>False
 ct:St→Hp→Prop:=λ_ _=>False
abbrev TS:=Ends→St→Hp→Prop
end
inductive EP(X:Cx)(a5:Nh)(σ:St)(Q:VK)(u:Value)(s':Ni):Prop
 |mk(v:V)(H':Hp)(i:Inv X a5 σ H' s')(r:RelV v u)(q:Q v H')
inductive TP(X:Cx)(a5:Nh)(σ:St)(Q:Bool→Hp→Prop)(b:Bool)(s':Ni):Prop
 |mk(H':Hp)(i:Inv X a5 σ H' s')(q:Q b H')
inductive AP(X:Cx)(a5:Nh)(σ:St)(Q:List V→Hp→Prop)(us:Nj)(s':Ni):Prop
 |mk(vs:List V)(H':Hp)(i:Inv X a5 σ H' s')(r:Vals vs us)(q:Q vs H')
def SP(X:Cx)(a5:Nh)(D:Ends)(f:Flow)(s':Ni):Prop:=
 match f with
 |.next=>Ex2 λ σ' H'=>U4 (D.nx σ' H')
 |.brk=>Ex2 λ σ' H'=>U4 (D.bk σ' H')
 |.cont=>Ex2 λ σ' H'=>U4 (D.ct σ' H')
 |.ret u=>Ex3 λv σ' H'=>Aj3 (ZD σ' H' s') (US u) (D.rt v H')
def PE(X:Cx)(e:Expr)(t:TE):Prop:=
 ∀(a5:Nh) (s:Ni) (σ:St) (H:Hp) (Q:VK),ZA H s→t σ H Q→ZF Eb Lu X.xe s
def PT(X:Cx)(e:Expr)(t:TT):Prop:=
 ∀(a5:Nh) (s:Ni) (σ:St) (H:Hp) (Q:Bool→Hp→Prop),ZA H s→t σ H Q→ZF (isTrue e X.env Eb) (Mz Q) X.xe s
def PW(X:Cx)(e:Expr)(t:TT):Prop:=
 ∀(whole:Sem Value) (a5:Nh) (s:Ni) (σ:St) (H:Hp) (Q:Bool→Hp→Prop),ZA H s→t σ H Q→ZF (isTrue e X.env whole) (Mz Q) X.xe s
def PW.pt(h:PW X e t):Md e t:=h _
def PA(X:Cx)(es:Nv)(t:TA):Prop:=
 ∀(pos:Pos) (a5:Nh) (s:Ni) (σ:St) (H:Hp) (Q:List V→Hp→Prop),ZA H s→t σ H Q→ZF (spliced (L6 SH)) (AP X a5 σ Q) X.xe s
def PS(X:Cx)(st:Stmt)(t:TS):Prop:=
 ∀(a5:Nh) (s:Ni) (σ:St) (H:Hp) (D:Ends),ZA H s→t D σ H→ZF (exec st X.env) (Mo D) X.xe s
def PSs(X:Cx)(st:List Stmt)(t:TS):Prop:=
 ∀(a5:Nh) (s:Ni) (σ:St) (H:Hp) (D:Ends),ZA H s→t D σ H→ZF (execs st X.env) (Mo D) X.xe s
def thn{α:Type}{t:Sem α}{Q Q':α→Shared→Prop}{M:Model}{A:Np}{E:Nc}{s:Ni}(h:KC t Q E s)(hQ:∀a s,Q a s→Q' a s):KC t Q' E s:=N0 hQ λ_ _ x=>x
section
variable{X:Cx}
def bin{a b:Expr}{ta tb:TE}(ha:Lz)(hb:IP){a5:Nh}{s:Ni}{σ:St}{H:Hp}{R:V→V→Hp→Prop}(I:Ro)(h:ta σ H λx H1=>tb σ H1 λy H2=>R x y H2){α:Type}{Q:α→Shared→Prop}{f:Value→Value→Sem α}(hf:∀v u s2 x y H2,ZA H2 s2→WY v→YC u→R x y H2→ZF A5 Q X.xe s2) :
  wpAny HU X.A xf (λv s₁=>ZF (Rr b) (λu s₂=>ZF A5 Q X.xe s₂) X.xe s₁) X.xe s:=by
 exact thn RS λv s1 ⟨x,H1,I1,r1,q1⟩=>thn LA λu s2 ⟨y,H2,I2,r2,q2⟩=>M4 q2
inductive RVar(o:Option (Option V))(H:Hp)(Q:VK):Prop
 |mk(v:V)(e:o=some (some v))(q:Q v H)
def tVar(i:Nat):TE:=λ σ H Q=>RVar σ[i]? H Q
def tC(v:V):TE:=λ_ H Q=>Q v H
def pe_var(hN:X.N[i]?=some x)(hv:XN x)(hd:RP=false:=by decide)(az:(x==("__classdict__" : Str))=false:=by decide):Z9 Oh (tVar i):=by
 intro a5 s σ H Q I h;obtain⟨v,e,h⟩:=h;obtain⟨m,hn,hl⟩:=I.loc;obtain⟨u,r,l⟩:=hl i x v hN e hv;have fin:QF Q u s:=⟨v,H,I,r,h⟩;rcases l with⟨hk,hm⟩|⟨hk,c,hc,dN⟩
 ·exact wpAny_Name (XV fin) hd
 rcases hk with hk|hk
 ·exact wpAny_Name (XW fin) hd
 exact wpAny_Name (wpAny_loadName_free I.ok.kind hk hc dN fin az) hd
def zai{i j pos}:Z9 (z8 E2) (tC E2):=λ_ _ _ H _ I h=>wpAny_Constant_int ⟨E2,H,Su,⟨_,rfl⟩,h⟩
def pe_bl{b j pos}:Z9 (z8 (Oi b)) (tC xg):=λ_ _ _ H _ I h=>Constant_bool ⟨xg,H,I,rfl,h⟩
def zh5{j pos}:Z9 (Am pos) (tC .non):=λ_ _ _ H _ I h=>Constant_none ⟨.non,H,I,rfl,h⟩
def pe_str{x j pos}:Z9 (z8 Tt) (tC Tt):=λ_ _ _ H _ I h=>Calls.Constant_str ⟨Tt,H,Su,⟨_,rfl⟩,h⟩
def Gl(X:Cx)(x:Str):Prop:=X.env.kindOf x=some .globalImplicit
def zjh(I:Ro)(hg:Vm x)(hm:X.mg x=some u)(h:Q u s)(hd:RP=false:=by decide):ZF (Rr Oh) Q E s:=
 Calls.Name_function_global I.ok.kind hg (Calls.loadGlobal_global (by rw[I.ok.glob];exact I.mod.glob.keeps I.bk) hm h) hd
def zhg(I:Ro)(hg:Vm x)(hm:X.mg x=none)(hv:bootBuiltins x=some u)(h:Q u s)(hn:x ≠ "__name__" :=by decide)(hd:RP=false:=by decide):ZF (Rr Oh) Q E s:=by obtain⟨mb,h1,h2⟩:=I.mod.blt;exact Calls.Name_function_global I.ok.kind hg (Calls.loadGlobal_builtin (by rw[I.ok.glob];exact I.mod.glob.keeps I.bk) hm (by rw[I.ok.blt];exact h1.keeps I.bk) ((h2 x hn).trans hv) h) hd
def zg7(hg:Vm x)(hm:X.mg x=some u)(r:US u)(hd:RP=false:=by decide):Z9 Oh (tC v):=
 λ_ _ _ H _ I h=>V0 ⟨v,H,I,r,h⟩ hd
variable{a b:Expr}{ta tb:TE}{pos:Pos}
def PC(X:Cx)(op:CmpOp)(a b:Expr)(t:TE):Prop:=
 ∀(a5:Nh) (s:Ni) (σ:St) (H:Hp) (Q:VK),ZA H s→t σ H Q →
  wpAny HU X.A xf (λv s₁=>ZF (Rr b) (λu s₂=>ZF (compareOp op v u) Lu X.xe s₂) X.xe s₁) X.xe s
def nobehind(b:Expr){op:CmpOp}(h:op≠.In)(h2:op≠.NotIn):behindInMarks op b=false:=by
 have e1:(op==CmpOp.In)=false:=by cases op<;>first|rfl|exact absurd rfl h
 have e2:(op==CmpOp.NotIn)=false:=by cases op<;>first|rfl|exact absurd rfl h2
 cases b<;>simp[behindInMarks,e1,e2]
def tIsN(ta:TE):TE:=λ σ H Q=>ta σ H λx H1=>Q (.bl (decide (x=.non))) H1
def tNotN(ta:TE):TE:=λ σ H Q=>ta σ H λx H1=>Q (.bl (!decide (x=.non))) H1
def RelV.none_iff{x:V}{v:Value}(r:WY v):(v==Value.none)=decide (x=.non):=by
 cases x with
 |non=>cases r;rfl
 |bl _=>cases r;rfl
 |int _=>obtain⟨t,rfl⟩:=r;rfl
 |str _=>obtain⟨t,rfl⟩:=r;rfl
 |byt _=>obtain⟨t,rfl⟩:=r;rfl
 |flt _=>obtain⟨t,rfl⟩:=r;rfl
 |ref _=>cases r;rfl
 |ty _=>cases r;rfl
def pc_isN{j aP}(ha:Lz):PC X .Is a (Am aP) (tIsN ta):=by intro a5 s σ H Q I h;exact thn RS λv s1 ⟨x,H1,I1,r1,q1⟩=>Constant_none (is_none_gen ⟨.bl _,H1,I1,by rw[r1.none_iff];rfl,q1⟩)
def zg8{j aP}(ha:Lz):PC X .IsNot a (Am aP) (tNotN ta):=by intro a5 s σ H Q I h;exact thn RS λv s1 ⟨x,H1,I1,r1,q1⟩=>Constant_none (isnot_none_gen ⟨.bl _,H1,I1,by rw[r1.none_iff];rfl,q1⟩)
inductive RB(x:V)(H:Hp)(Q:Bool→Hp→Prop):Prop
 |mk(c:Bool)(e:x=.bl c)(q:Q c H)
def tB(t:TE):TT:=λ σ H Q=>t σ H λx H1=>RB x H1 Q
def pe_cmp(h:PC X op a b t)(h1:behindInMarks op b=false:=by first|exact nobehind _ HH HH|rfl):Z9 (.Compare a [op] [b] pos) t:=λa5 s σ H Q I hw=>wpAny_Compare1 (LO Q hw) h1
def zbr{op:CmpOp}{t:TE}(h:PC X op a b t)(h1:behindInMarks op b=false:=by first|exact nobehind _ HH HH|rfl):Md (.Compare a [op] [b] pos) (tB t):=by intro a5 s σ H Q I hw;refine wpAny_isTrue_Compare1 (thn (LO _ hw) λv s1 h1=>thn h1 λu s2 h2=>thn h2 λc s3 ⟨x,H1,I1,r1,q1⟩=>?_) h1;obtain⟨d,rfl,q⟩:=q1;cases r1;exact wpAny_truthy_bool ⟨H1,I1,q⟩
def zcw{e:Expr}{t:TE}(h:Z9 e t)(he:∀whole,isTrue e X.env whole=(do let v ←whole;standAt e.pos;holding [v] P3):=by intro _;rfl):Md e (tB t):=by
 intro a5 s σ H Q I hw;refine isTrue_plain (thn (LO _ hw) λv s1 ⟨x,H1,I1,r1,q1⟩=>?_) (he _);obtain⟨d,rfl,q⟩:=q1;cases r1;exact wpAny_truthy_bool ⟨H1,I1,q⟩
variable{tA qm:TT}{rest:Nv}
def tAnd(t u:TT):TT:=λ σ H Q=>t σ H λc H1=>if c=true then u σ H1 Q else Q false H1
def tOr(t u:TT):TT:=λ σ H Q=>t σ H λc H1=>if c=true then Q true H1 else u σ H1 Q
def tNot(t:TT):TT:=λ σ H Q=>t σ H λc H1=>Q (!c) H1
def zfz(ha:yU):PW X (.BoolOp .And [a] pos) tA:=by
 intro wh a5 s σ H Q I h;refine isTrue_and (thn z9 λc s1 e=>?_);cases c with
 |true=>exact isTrue_and_nil e
 |false=>exact e
def zd0(ha:yU):PW X (.BoolOp .Or [a] pos) tA:=by
 intro wh a5 s σ H Q I h;refine isTrue_or (thn z9 λc s1 e=>?_);cases c with
 |false=>exact isTrue_or_nil e
 |true=>exact e
def zh4(ha:yU)(hb:PW X (.BoolOp .And (b::rest) pos) qm):PW X (.BoolOp .And (a::b::rest) pos) (tAnd tA qm):=by
 intro wh a5 s σ H Q I h;refine isTrue_and (thn RS λc s1 ⟨H1,I1,q1⟩=>?_);cases c with
 |true=>exact hb wh a5 s1 σ H1 Q I1 q1
 |false=>exact⟨H1,I1,q1⟩
def zde(ha:yU)(hb:PW X (.BoolOp .Or (b::rest) pos) qm):PW X (.BoolOp .Or (a::b::rest) pos) (tOr tA qm):=by
 intro wh a5 s σ H Q I h;refine isTrue_or (thn RS λc s1 ⟨H1,I1,q1⟩=>?_);cases c with
 |true=>exact⟨H1,I1,q1⟩
 |false=>exact hb wh a5 s1 σ H1 Q I1 q1
def zc2(ha:yU):Md zL (tNot tA):=by intro a5 s σ H Q I h;exact isTrue_not (wpAny_mono (ha a5 s σ H (λc H1=>Q (!c) H1) I h) (λc s2 z=>by obtain⟨a,b,d⟩:=z;exact⟨a,b,d⟩) λ_ _ e=>e)
def tAndV(ta tb:TE):TE:=λ σ H Q=>ta σ H λx H1=>RB x H1 λc H1=>if c=true then tb σ H1 Q else Q LP H1
def tNotV(ta:TE):TE:=λ σ H Q=>ta σ H λx H1=>∃c,x=.bl c∧Q (.bl (!c)) H1
def pe_one{op}(h:Z9 a t):Z9 (.BoolOp op [a] pos) t:=λa5 s σ H Q I hw=>BoolOp_one (LO Q hw)
def zgc(ha:Lz)(hb:Z9 (.BoolOp .And (b::rest) pos) tb):Z9 (.BoolOp .And (a::b::rest) pos) (tAndV ta tb):=by
 intro a5 s σ H Q I h;refine BoolOp_and (thn RS λv s1 ⟨x,H1,I1,r1,q1⟩=>?_);obtain⟨c,rfl,q1⟩:=q1;cases r1;refine wpAny_truthy_bool ?_;cases c with
 |true=>exact hb a5 s1 σ H1 Q I1 q1
 |false=>exact⟨LP,H1,I1,rfl,q1⟩
def pe_not(ha:Lz):Z9 zL (tNotV ta):=by intro a5 s σ H Q I h;refine UnaryOp_ (thn RS λv s1 ⟨x,H1,I1,r1,q1⟩=>?_);obtain⟨c,rfl,q1⟩:=q1;cases r1;exact not_of (wpAny_truthy_bool ⟨.bl (!c),H1,I1,rfl,q1⟩)
def tIf(t:TT)(ta tb:TE):TE:=λ σ H Q=>t σ H λc H1=>if c=true then ta σ H1 Q else tb σ H1 Q
def pe_ifExp{c:Expr}(hc:Md c tA)(ha:Lz)(hb:IP):Z9 (.IfExp c a b pos) (tIf tA ta tb):=by
 intro a5 s σ H Q I h;refine wpAny_IfExp (thn ya λd s1 ⟨H1,I1,q1⟩=>?_);cases d with
 |true=>exact ha a5 s1 σ H1 Q I1 q1
 |false=>exact hb a5 s1 σ H1 Q I1 q1
def SqL(K:Na)(H:Hp)(a:Nb)(xs:List V):Prop:=
 Rd H a Tj ∨
  ∃(o:Obj) (a7:Array Value) (n:Nat),K.lookup a=some o∧o.cls=.type "list" ∧ o.dict=none∧o.data=.seq a7 n∧a7.size≤sizeLine∧WG a7.toList
def SqT(K:Na)(H:Hp)(a:Nb)(xs:List V):Prop:=
 Rd H a Tb ∨
  ∃(o:Obj) (a7:Array Value) (n:Nat),K.lookup a=some o∧o.cls=.type "tuple" ∧ o.data=.seq a7 n∧a7.size≤sizeLine∧WG a7.toList
end
def absV:Value→Option V
 |.none=>some .non
 |.bool b=>some xg
 |.int i _=>some E2
 |.str x _=>some Tt
 |.bytes b _=>some (.byt b)
 |.float b _=>some (.flt b)
 |.ref a=>some Sg
 |.type n=>some (.ty n)
 |_=>none
def RelV.abs(r:WY u):absV u=some x:=by
 cases x with
 |non=>cases r;rfl
 |bl _=>cases r;rfl
 |int _=>obtain⟨t,rfl⟩:=r;rfl
 |str _=>obtain⟨t,rfl⟩:=r;rfl
 |byt _=>obtain⟨t,rfl⟩:=r;rfl
 |flt _=>obtain⟨t,rfl⟩:=r;rfl
 |ref _=>cases r;rfl
 |ty _=>cases r;rfl
def RelV.inj{x y:V}{u:Value}(r:WY u)(q:YC u):x=y:=Qo (r.abs.symm.trans q.abs)
theorem Vals.inj:∀{xs ys:List V} {us:Nj},WG us→Y3 us→xs=ys
 |_,_,_,.nil,.nil=>rfl
 |_,_,_,.cons r t,.cons r' t'=>by rw[r.inj r',Vals.inj t t']
section
variable{X:Cx}{a5:Nh}{σ:St}{H:Hp}{s:Ni}{a:Nb}{xs ys:List V}
def SqL.of{K:Na}(h:H a=some Tj):YE xs:=.inl P4
def SqT.of{K:Na}(h:H a=some Tb):KD a xs:=.inl P4
def Inv.list(I:Ro)(h:Q9 a xs):∃a7:List Value,WG a7∧PlainL s.heap a a7.toArray∧xs.length≤sizeLine:=by
 rcases h with h|⟨o,a7,n,hk,hc,hd,hs,hz,r⟩
 ·obtain⟨z,a7,n,r,e⟩:=h.ok I.hok;exact⟨a7,r,⟨_,n,e,rfl,rfl,rfl⟩,z⟩
 refine⟨a7.toList,r,⟨o,n,xI a,hc,hd,HE hs⟩,?_⟩;have e:=r.length;simp only[Zz]at e;lia
def Inv.tuple(I:Ro)(h:VF a xs):∃a7:List Value,WG a7∧N3 a a7.toArray∧xs.length≤sizeLine:=by
 rcases h with h|⟨o,a7,n,hk,hc,hs,hz,r⟩
 ·obtain⟨z,a7,r,p⟩:=h.ok I.hok;exact⟨a7,r,p,z⟩
 refine⟨a7.toList,r,⟨o,xI a,hc,n,HE hs⟩,?_⟩;have e:=r.length;simp only[Zz]at e;lia
def Inv.list_inj(I:Ro)(h:Q9 a xs)(h':Q9 a ys):xs=ys:=by
 obtain⟨a7,r,⟨o,n,e,_,_,d⟩,_⟩:=I.list h;obtain⟨its',r',⟨o',n',e',_,_,d'⟩,_⟩:=I.list h';rw[e]at e';cases e';rw[d]at d';injection d' with d1 _;have:a7=its':=by simpa using congrArg Array.toList d1
 subst this;exact r.inj r'
def Inv.tuple_inj(I:Ro)(h:VF a xs)(h':VF a ys):xs=ys:=by
 obtain⟨a7,r,⟨o,e,_,n,d⟩,_⟩:=I.tuple h;obtain⟨its',r',⟨o',e',_,n',d'⟩,_⟩:=I.tuple h';rw[e]at e';cases e';rw[d]at d';injection d' with d1 _;have:a7=its':=by simpa using congrArg Array.toList d1
 subst this;exact r.inj r'
end
abbrev Cx.wish(X:Cx)(E:Nc):Cx:={X with xe:=E}
abbrev Cx.nox(X:Cx):Cx:=X.wish λ_ _=>False
def Cx.Ok.wish{X:Cx}(ok:X.Ok)(E:Nc):(X.wish E).Ok:=
 ⟨ok.mod,ok.kind,ok.glob,ok.blt,ok.above,ok.inj,ok.has,ok.cab,ok.hd,ok.frames,ok.stk,ok.exf,ok.bs,ok.bsz,ok.noex,ok.exfs,ok.funs,ok.frf⟩
def Cx.Ok.unwish{X:Cx}{E:Nc}(ok:(X.wish E).Ok):X.Ok:=
 ⟨ok.mod,ok.kind,ok.glob,ok.blt,ok.above,ok.inj,ok.has,ok.cab,ok.hd,ok.frames,ok.stk,ok.exf,ok.bs,ok.bsz,ok.noex,ok.exfs,ok.funs,ok.frf⟩
section
variable{X:Cx}{a5:Nh}{σ:St}{H:Hp}{s:Ni}{E:Nc}
def Inv.wish(I:Ro)(E:Nc):N4 s:=⟨I.ok.wish E,I.os,I.bare,I.base,I.loc,I.cell,I.free,I.freeC,I.pin,I.hok,I.len⟩
def Inv.unwish(I:N4 s):ZA H s:=⟨I.ok.unwish,I.os,I.bare,I.base,I.loc,I.cell,I.free,I.freeC,I.pin,I.hok,I.len⟩
def SP.unwish(h:SP (X.wish E) a5 D f s'):Mo D f s':=by
 cases f with
 |next=>obtain⟨σ',H',I,q⟩:=h;exact⟨σ',H',I.unwish,q⟩
 |brk=>obtain⟨σ',H',I,q⟩:=h;exact⟨σ',H',I.unwish,q⟩
 |cont=>obtain⟨σ',H',I,q⟩:=h;exact⟨σ',H',I.unwish,q⟩
 |ret u=>obtain⟨v,σ',H',I,r,q⟩:=h;exact⟨v,σ',H',I.unwish,r,q⟩
def PSs.nox{st:List Stmt}{t:TS}(h:PSs X.nox st t):MA st t:=λa5 s σ H D I hw=>wpAny_mono (h a5 s σ H D (I.wish _) hw) (λ_ _ q=>q.unwish) λ_ _ z=>False.elim z
variable{st:Stmt}{rest:List Stmt}{t u:TS}{e:Expr}{te:TE}{pos:Pos}
def tNext:TS:=λD σ H=>WW H
def tSeq(t u:TS):TS:=λD σ H=>t {D with nx:=u D} σ H
def zao:MA [] tNext:=λ_ _ σ H _ I h=>wpAny_execs_nil ⟨σ,H,I,h⟩
def zad(h1:KO st t)(h2:MA rest u):MA (st::rest) (tSeq t u):=by
 intro a5 s σ H D I h;refine wpAny_execs_cons (thn (h1 a5 s σ H {D with nx:=u D} I h) λf s1 q=>?_);cases f with
 |next=>obtain⟨σ',H',I',q⟩:=q;exact h2 a5 s1 σ' H' D I' q
 |ret v=>exact q
 |brk=>exact q
 |cont=>exact q
def zaf(h1:KO st t):MA [st] t:=by
 intro a5 s σ H D I h;refine wpAny_execs_cons (thn (h1 a5 s σ H D I h) λf s1 q=>?_);cases f with
 |next=>exact wpAny_execs_nil q
 |ret v=>exact q
 |brk=>exact q
 |cont=>exact q
def tBreak:TS:=λD σ H=>D.bk σ H
def ps_break:KO (.Break pos) tBreak:=λ_ _ σ H _ I h=>wpAny_Break ⟨σ,H,I,h⟩
def Inv.quiet{a5:Nh}{σ:St}{H:Hp}{s:Ni}(I:Ro):interactive X.env=false:=by simp[interactive,I.ok.kind]
def tDrop(te:TE):TS:=λD σ H=>te σ H λ_ H1=>WW H1
def zbn(he:Cj)(hs:swapsWith e none pos.line X.env=pure false:=by rfl):KO (.Expr e pos) (tDrop te):=by intro a5 s σ H D I h;exact wpAny_Expr_any (thn Sm λv s1 ⟨x,H1,I1,r1,q1⟩=>⟨σ,H1,I1,q1⟩) I.quiet hs
def tRet(te:TE):TS:=λD σ H=>te σ H D.rt
def zas(he:Cj):KO (.Return (HW e) pos) (tRet te):=by intro a5 s σ H D I h;exact wpAny_Return_some (thn Sm λv s1 ⟨x,H1,I1,r1,q1⟩=>⟨x,σ,H1,I1,r1,q1⟩)
def tIfS(c:TT)(t u:TS):TS:=λD σ H=>c σ H λb H1=>if b=true then t D σ H1 else u D σ H1
def zbg{c:Expr}{a b:List Stmt}{tc:TT}(hc:Md c tc)(ha:MA a t)(hb:MA b u):KO (.If c a b pos) (tIfS tc t u):=by
 intro a5 s σ H D I h;refine wpAny_If (thn ya λd s1 ⟨H1,I1,q1⟩=>?_);cases d with
 |true=>exact ha a5 s1 σ H1 D I1 q1
 |false=>exact hb a5 s1 σ H1 D I1 q1
abbrev TG:=V→St→Hp→(St→Hp→Prop)→Prop
abbrev TGs:=List V→St→Hp→(St→Hp→Prop)→Prop
def PG(X:Cx)(target:Expr)(t:TG):Prop:=
 ∀(a5:Nh) (s:Ni) (σ:St) (H:Hp) (v:V) (u:Value) (Q:St→Hp→Prop),ZA H s→US u→t v σ H Q →
  wpAny HU X.A (assign target X.env u) (λ_ s'=>Ex2 λ σ' H'=>U4 (Q σ' H')) X.xe s
def PGs(X:Cx)(ts:Nv)(t:TGs):Prop:=
 ∀(a5:Nh) (s:Ni) (σ:St) (H:Hp) (vs:List V) (us:Nj) (Q:St→Hp→Prop),ZA H s→Vn us→t vs σ H Q →
  wpAny HU X.A (assignInOrder ((LF ts).map (·.2)) us) (λ_ s'=>Ex2 λ σ' H'=>U4 (Q σ' H')) X.xe s
abbrev TSet:=V→V→V→Hp→(Hp→Prop)→Prop
def PSet(X:Cx)(t:TSet):Prop:=
 ∀(a5:Nh) (s:Ni) (σ:St) (H:Hp) (o i v:V) (ov iv u:Value) (Q:Hp→Prop),ZA H s→RelV o ov→RelV i iv→US u→t o i v H Q →
  wpAny HU X.A (setItem ov iv u) (λ_ s'=>∃H',ZA H' s'∧Q H') X.xe s
abbrev TIp:=V→V→Hp→VK→Prop
def PIp(X:Cx)(op:Operator)(t:TIp):Prop:=
 ∀(a5:Nh) (s:Ni) (σ:St) (H:Hp) (x y:V) (v u:Value) (Q:VK),ZA H s→WY v→YC u→t x y H Q →
  wpAny HU X.A (inplaceOp op v u) Lu X.xe s
def ze0(i:Nat):TG:=λv σ H Q=>Q Ax H
def zi8(hN:X.N.Nodup)(hi:X.N[i]?=some x)(hx:Y9 x)(hf:X.fn x=true∨X.env.scope.names.lookup x=some .local:=by first|exact .inl rfl|exact .inr rfl|assumption):Fx Iq:=by intro a5 s σ H v u Q I r h;exact wpAny_assign_Name (ziu I hN hi hx r (λs' I'=>⟨_,H,I',h⟩) hf)
def gNil:TGs:=λvs σ H Q=>vs=[]∧Q σ H
end
section
variable{X:Cx}{pos:Pos}
inductive RGC(vs:List V)(R:V→List V→Prop):Prop
 |mk(v:V)(r:List V)(e:vs=v::r)(q:R v r)
def gCons(t:TG)(u:TGs):TGs:=λvs σ H Q=>RGC vs λv r=>t v σ H λ σ' H'=>u r σ' H' Q
def zba:Gh [] gNil:=by intro a5 s σ H vs us Q I r h;obtain⟨e,h⟩:=h;subst e;cases r;exact assignInOrder_nil ⟨σ,H,I,h⟩
def zaj{e:Expr}{es:Nv}{t:TG}{u:TGs}(h1:PG X e t)(h2:Gh es u)(hs:(assignEach (e::es) X.env).map (·.2)=assign e X.env::(LF es).map (·.2):=by rfl):Gh (e::es) (gCons t u):=by
 intro a5 s σ H vs us Q I r h;obtain⟨v,vr,e1,h⟩:=h;subst e1;cases r with
 |cons r rr=>rw[hs];exact assignInOrder_cons (thn (h1 a5 s σ H _ _ _ I r h) λ_ s1 ⟨σ1,H1,I1,q1⟩=>h2 a5 s1 σ1 H1 _ _ Q I1 rr q1)
inductive RGT(K:Na)(n:Nat)(v:V)(H:Hp)(R:List V→Prop):Prop
 |mk(a:Nb)(xs:List V)(e:v=.ref a)(s:SqT K H a xs)(l:xs.length=n)(q:R xs)
def gTup(K:Na)(n:Nat)(t:TGs):TG:=λv σ H Q=>RGT K n v H λxs=>t xs σ H Q
def zb9(hc:X.calm=true)(h:Gh es t)(hn:(LF es).length=n:=by rfl)(ay:(LF es).findIdx? (·.1)=none:=by rfl):N5 (gTup X.K n t):=by intro a5 s σ H v u Q I r hw;obtain⟨a,xs,e1,hq,hl,hw⟩:=hw;subst e1;cases r;obtain⟨a7,rv,ht,hz⟩:=I.tuple hq;refine assign_Tuple_tuple S7 ht (by simp[hn,←hl,rv.length]) ay λh' hx=>?_;have I1:ZA H {s with heap:=h'}:=I.kept (t':=s.toks) λb o e=>hx b o Cl e;exact h a5 _ σ H xs _ Q I1 (HE rv) hw
def gSub(to ti:TE)(t:TSet):TG:=λv σ H Q=>to σ H λo H1=>ti σ H1 λi H2=>t o i v H2 λH3=>Q σ H3
def pg_sub{o i:Expr}{to ti:TE}{t:TSet}(ho:Z9 o to)(hi:Z9 i ti)(hs:PSet X t)(ha:∀ v,assign yb X.env v=(do
   let ov ←holding [v] xh;let iv ←holding [v,ov] (Rr i)
   standAt pos
   holding [v,ov,iv] (setItem ov iv v)
   release [v,ov,iv] []):=by intro _;rfl):PG X yb (gSub to ti t):=by
 intro a5 s σ H v u Q I r h;rw[ha];exact wpAny_bind (wpAny_holding (thn SV λov s1 ⟨x,H1,I1,r1,q1⟩=>wpAny_bind (wpAny_holding (thn LB λiv s2 ⟨y,H2,I2,r2,q2⟩=>wpAny_bind (wpAny_standAt (wpAny_bind (wpAny_holding (thn (hs a5 s2 σ H2 x y v ov iv u _ I2 r1 r2 r q2) λ_ s3 ⟨H3,I3,q3⟩=>wpAny_release ⟨σ,H3,I3,q3⟩))))))))
def tAsg(te:TE)(g:TG):TS:=λD σ H=>te σ H λx H1=>g x σ H1 D.nx
def zdf{tg e:Expr}{te:TE}{g:TG}(he:Cj)(hg:PG X tg g)(hs:swapsWithSole [tg] e pos.line X.env=pure false:=by rfl)(hw:swappedStores [tg] e X.env=pure none:=by rfl)(h1:(assignEach [tg] X.env).map (·.2)=[assign tg X.env]:=by rfl):KO (.Assign [tg] e pos) (tAsg te g):=by intro a5 s σ H D I h;refine wpAny_Assign_stores (thn Sm λv s1 ⟨x,H1,I1,r1,q1⟩=>?_) hs hw;rw[h1];exact thn (hg a5 s1 σ H1 x v _ I1 r1 q1) λ_ s2 q=>q
def zfd{i:Nat}{x:Str}{e:Expr}{te:TE}{aP:Pos}(hN:X.N.Nodup)(hi:X.N[i]?=some x)(hx:Y9 x)(he:Cj)(hs:swapsWith e (HW xi) pos.line X.env=pure false:=by rfl)(hf:X.fn x=true∨X.env.scope.names.lookup x=some .local:=by first|exact .inl rfl|exact .inr rfl|assumption) :
  PS X (.Assign [xi] e pos) (tAsg te Iq):=by
 intro a5 s σ H D I h;refine wpAny_Assign_Name (thn Sm λv s1 ⟨y,H1,I1,r1,q1⟩=>?_) hs;exact ziu I1 hN hi hx r1 (λs2 I2=>⟨_,H1,I2,q1⟩) hf
def tAug(i:Nat)(te:TE)(ti:TIp):TS:=λD σ H=>∃x,σ[i]?=some (HW x)∧te σ H λy H1=>ti x y H1 λz H2=>D.nx (σ.set i (HW z)) H2
def ps_aug(hN:X.N.Nodup)(hi:X.N[i]?=some x)(hx:Y9 x)(he:Cj)(ho:PIp X op ti)(hf:X.fn x=true∨X.env.scope.names.lookup x=some .local:=by first|exact .inl rfl|exact .inr rfl|assumption) :
  PS X (.AugAssign xi op e pos) (tAug i te ti):=by
 intro a5 s σ H D I h;obtain⟨v,e1,h⟩:=h;obtain⟨m,hn,hl⟩:=I.loc;have vis:XN x:=by rcases hx with k|k;exact .inl k;exact .inr (Rq k)
 obtain⟨u,r,l⟩:=hl i x v hi e1 vis;refine wpAny_AugAssign_Name ?_;have go:ZF Eb (λw s₂=>ZF (inplaceOp op u w) (λr s₃=>ZF (Al r) (λ_=>Mo D .next) X.xe s₃) X.xe s₂) X.xe s:=by refine thn Sm λw s1 ⟨y,H1,I1,r1,q1⟩=>?_;exact thn (ho a5 s1 σ H1 v y u w _ I1 r r1 q1) λz s2 ⟨zv,H2,I2,r2,q2⟩=>ziu I2 hN hi hx r2 (λs3 I3=>⟨_,H2,I3,q2⟩) hf
 rcases l with⟨hk,hm⟩|⟨hk,c,hc,dN⟩
 ·exact XV go
 rcases hk with hk|hk
 ·exact XW go
 rcases hx with k|k
 ·have:X.env.scope.names.lookup x=some .free:=hk;rw[k]at this;cases this
 have:X.env.scope.names.lookup x=some .free:=hk;rw[k]at this;cases this
def ipI(f:Int→Int→Int):TIp:=λx y H Q=>∃i j,x=.int i∧y=.int j∧Q (Rv (f i j)) H
def ip_add:PIp X .Add (ipI λi j=>i+j):=by intro a5 s σ H x y v u Q I r1 r2 h;obtain⟨i,j,e1,e2,q⟩:=h;subst e1;subst e2;obtain⟨t,rfl⟩:=r1;obtain⟨t',rfl⟩:=r2;exact iadd_int ⟨Rv _,H,Su,⟨_,rfl⟩,q⟩
def tWhile(c:TT)(tb:TS):TS:=λD σ H=>∃W:Nat→St→Hp→Prop,(∃m,W m σ H)∧∀m σ H,W m σ H →
 c σ H λb H1=>if b=true then ∃N:St→Hp→Prop,(∀σ' H',N σ' H'→∃m',m'<m∧W m' σ' H')∧tb {D with nx:=N,ct:=N,bk:=D.nx} σ H1 else WW H1
def zfc(hp:XX X.xe)(hc:Md c tc)(hb:MA body tb):KO (.While c body [] pos) (tWhile tc tb):=by
 intro a5 s σ H D I h;obtain⟨W,⟨m0,w0⟩,turn⟩:=h;refine wpAny_While (codeAny_whileLoop (λn s'=>∃σ' H',ZD σ' H' s'∧W n σ' H') ?_ m0 ⟨σ,H,I,w0⟩);rintro n s1 ⟨σ1,H1,I1,w1⟩;refine W7 (thn (hc a5 s1 σ1 H1 _ I1 (turn n σ1 H1 w1)) λb s2 ⟨H2,I2,q2⟩=>?_);cases b with
 |true=>
  obtain⟨N,hN,q2⟩:=q2;rw[if_pos rfl];refine W7 (thn (hb a5 s2 σ1 H2 _ I2 q2) λf s3 q3=>?_);cases f with
  |next=>obtain⟨σ3,H3,I3,n3⟩:=q3;obtain⟨m',hm,w3⟩:=hN σ3 H3 n3;exact⟨m',hm,σ3,H3,I3,w3⟩
  |cont=>obtain⟨σ3,H3,I3,n3⟩:=q3;obtain⟨m',hm,w3⟩:=hN σ3 H3 n3;exact⟨m',hm,σ3,H3,I3,w3⟩
  |brk=>exact q3
  |ret v=>exact q3
 |false=>rw[if_neg Zh];exact wpAny_execs_nil ⟨σ1,H2,I2,q2⟩
structure It where
 go:Nat→Hp→Prop
 yld:Nat→Hp→V→Hp→Prop
 stop:Nat→Hp→Prop
def FpOk(X:Cx)(a5:Nh)(H:Hp)(b:Nb):Prop:=
 H b=none∧b≠X.env.locals∧b∉X.fs∧(b∈X.ex∨X.s₀.heap.objs.size≤b)∧(∀x c,X.env.cells.lookup x=some c→c≠b)∧∀p∈X.pn++a5,p.1≠b
def Inv.fpOk{X:Cx}{a5:Nh}{σ:St}{H H':Hp}{s:Ni}{b:Nb}(I:Ro)(hb:s.heap.objs.size≤b)(hn:H' b=none):FpOk X a5 H' b:=by
 refine⟨hn,Wa (Zy I.lt hb),I.nofs hb,SJ (Zi I.sz hb),λx c e z=>?_,λp hp z=>?_⟩
 ·obtain⟨v,q⟩:=JV e;exact absurd (Zy q.lt (HP z hb)) OS
 exact absurd (Zy (Qx (BK hp).1) (HP z hb)) OS
end
structure Turn(P:Nk)(w:Nl)(K:Na)(tg:Expr)(J:It)(fp:No)(it:Nb)(tn:Nat→Heap→Prop):Prop where
 mem:it∈fp
 obj:∀i h,tn i h→∀b∈fp,∃o,h.get? b=some o∧∀v,o.data≠.cell v
 keep:∀i h h',tn i h→(∀b∈fp,∀o,h.get? b=some o→h'.get? b=some o)→tn i h'
 item:∀(X:Cx),X.prog=P→X.w=w→X.K=K→X.calm=true→∀(i:Nat) (a5:Nh) (s:Ni) (σ:St) (H:Hp) (E:Nc),ZA H s→(∀b∈fp,Y2 b)→tn i s.heap→N6 H →
  wpAny CO X.A (Ay SS) (λr s1=>∃u,r=some u ∧
   wpAny CO X.A An (λ_ s2=>∃x H',ZA H' s2∧WY u∧BL H'∧tn Rm s2.heap∧∀b∈fp,H' b=none) E s1) E s
 done:∀(X:Cx),X.prog=P→X.w=w→X.K=K→X.calm=true→∀(i:Nat) (a5:Nh) (s:Ni) (σ:St) (H:Hp) (E:Nc),ZA H s→(∀b∈fp,Y2 b)→tn i s.heap→Vo H →
  wpAny CO X.A (Ay SS) (λr s1=>r=none∧ZA H s1) E s
 self:∀(A:Np) (i:Nat) (s:Ni) (Q:Nc) (E:Nc),tn i s.heap→Q SS s→BM A (Oj SS) Q E s
abbrev TI:=St→Hp→(It→Hp→Prop)→Prop
inductive PIE(X:Cx)(a5:Nh)(σ:St)(tg:Expr)(R:It→Hp→Prop)(itv:Value)(s2:Ni):Prop
 |mk(it:Nb)(fp:No)(tn:Nat→Heap→Prop)(J:It)(H':Hp)(h0:itv=.ref it)(h1:Inv X a5 σ H' s2)(h2:Turn X.prog X.w X.K tg J fp it tn)(h3:tn 0 s2.heap)(h4:(∀b∈fp,FpOk X a5 H' b))(h5:R J H')
def PI(X:Cx)(tg iter:Expr)(wi:TI):Prop:=
 ∀(a5:Nh) (s:Ni) (σ:St) (H:Hp) (R:It→Hp→Prop),ZA H s→wi σ H R →
  wpAny HU X.A Ol (λv s1=>ZF (Oj v) xj X.xe s1) X.xe s
def go_of(ho:s.heap.get? it=some o)(hc:o.cls=.type n)(hd:o.data=.fields vs)(hn:["enumerate", "zip", "dict_itemiterator", "dict_reverseitemiterator", "odict_iterator", "itertools.zip_longest", "itertools.pairwise"].contains n=false)(hQ:Q () s):KC An Q E s:=by
 unfold letOwnedTupleGo;cases tg <;> first
  |exact wpAny_pure hQ
  | (cases u <;> first
    |exact wpAny_pure hQ
    | (refine wpAny_bind (wpAny_load ho ?_)
       rw[hc,hd];show KC (if(["enumerate", "zip", "dict_itemiterator", "dict_reverseitemiterator", "odict_iterator", "itertools.zip_longest", "itertools.pairwise"].contains n&&vs[0]?==some (CK _))=true then _ else _) Q E s;rw[if_neg (by intro h;rw[hn,Bool.false_and]at h;cases h)];exact wpAny_pure hQ))
def Itl(K:Na)(a:Nb):It:=
 ⟨λi H=>∃xs x,YE xs∧xs[i]?=some x,λi H x H'=>H'=H∧∀xs,YE xs→xs[i]?=some x,λi H=>∃xs,YE xs∧xs.length≤i⟩
def Itt(K:Na)(a:Nb):It:=
 ⟨λi H=>∃xs x,KD a xs∧xs[i]?=some x,λi H x H'=>H'=H∧∀xs,KD a xs→xs[i]?=some x,λi H=>∃xs,KD a xs∧xs.length≤i⟩
def Itr(lo:Int)(n:Nat):It:=⟨λi _=>i<n,λi H x H'=>H'=H∧x=.int (lo+i),λi _=>n≤i⟩
theorem turn_list{P:Nk}{w:Nl}{K:Na}{tg:Expr}(a it:Nb):KS (KU a) [it] it (λi h=>h.IsListIter it a i) where
 mem:=by simp
 obj:=λi h st b hb=>by
  have e:b=it:=by simpa using hb
  subst e;obtain⟨o,e,c,d⟩:=st;exact⟨o,e,λv z=>by rw[d]at z;cases z⟩
 keep:=λi h h' st k=>st.at λo e=>k it HA o e
 item:=by intro X hP hw hK hc i a5 s σ H E I hf st hg;subst hP hw hK;obtain⟨xs,x,hq,hx⟩:=hg;obtain⟨a7,rv,p,hz⟩:=I.list hq;obtain⟨u,hu,ru⟩:=rv.get hx;obtain⟨f0,f1,f2,f3,f4,f5⟩:=V1 HA;refine M5 p.isList (x:=u) (HE hu) λh' aa sb=>?_;have I1:ZA H {s with heap:=h'}:=I.turned (t':=s.toks) (λb o hb e=>(AO hb).trans e) f0 f1 f3 f4 f5;obtain⟨o,e,c,d⟩:=id aa;exact⟨u,rfl,go_of (s:={s with heap:=h'}) e c d HH ⟨x,H,I1,ru,⟨rfl,λys hy=>by rw[I.list_inj hy hq];exact hx⟩,aa,λb hb=>(hf b hb).1⟩⟩
 done:=by intro X hP hw hK hc i a5 s σ H E I hf st hg;subst hP hw hK;obtain⟨xs,hq,hx⟩:=hg;obtain⟨a7,rv,p,hz⟩:=I.list hq;obtain⟨f0,f1,f2,f3,f4,f5⟩:=V1 HA;have hl:=rv.length;exact K3 st p.isList (by simp;exact zfr ‹_› ‹_›) λh' eb=>⟨rfl,I.turned (t':=s.toks) (λb o hb e=>eb b o hb e) f0 f1 f3 f4 f5⟩
 self:=λ_ _ _ _ _ st h=>wpAny_pyIter_listiter st h
theorem turn_tuple{P:Nk}{w:Nl}{K:Na}{tg:Expr}(a it:Nb):KS (Gi a) [it] it (λi h=>h.IsTupleIter it a i) where
 mem:=by simp
 obj:=λi h st b hb=>by
  have e:b=it:=by simpa using hb
  subst e;obtain⟨o,e,c,d⟩:=st;exact⟨o,e,λv z=>by rw[d]at z;cases z⟩
 keep:=λi h h' st k=>st.at λo e=>k it HA o e
 item:=by intro X hP hw hK hc i a5 s σ H E I hf st hg;subst hP hw hK;obtain⟨xs,x,hq,hx⟩:=hg;obtain⟨a7,rv,p,hz⟩:=I.tuple hq;obtain⟨u,hu,ru⟩:=rv.get hx;obtain⟨f0,f1,f2,f3,f4,f5⟩:=V1 HA;refine wpAny_pyNext_tuple_item st (show s.heap.IsTuple a a7.toArray from p) (x:=u) (HE hu) λh' aa sb=>?_;have I1:ZA H {s with heap:=h'}:=I.turned (t':=s.toks) (λb o hb e=>(AO hb).trans e) f0 f1 f3 f4 f5;obtain⟨o,e,c,d⟩:=id aa;exact⟨u,rfl,go_of (s:={s with heap:=h'}) e c d HH ⟨x,H,I1,ru,⟨rfl,λys hy=>by rw[I.tuple_inj hy hq];exact hx⟩,aa,λb hb=>(hf b hb).1⟩⟩
 done:=by intro X hP hw hK hc i a5 s σ H E I hf st hg;subst hP hw hK;obtain⟨xs,hq,hx⟩:=hg;obtain⟨a7,rv,p,hz⟩:=I.tuple hq;obtain⟨f0,f1,f2,f3,f4,f5⟩:=V1 HA;have hl:=rv.length;exact wpAny_pyNext_tuple_end S7 st (show s.heap.IsTuple a a7.toArray from p) (by simp;exact zfr ‹_› ‹_›) λh' eb=>⟨rfl,I.turned (t':=s.toks) (λb o hb e=>eb b o hb e) f0 f1 f3 f4 f5⟩
 self:=λ_ _ _ _ _ st h=>wpAny_pyIter_tupleiter st h
theorem turn_range{P:Nk}{w:Nl}{K:Na}{tg:Expr}(it:Nb)(lo:Int)(n:Nat):KS (Fy n) [it] it (λi h=>IsRangeIter h it (lo+(i:Nat)*1) ((n:Int)-(i:Nat)) 1) where
 mem:=by simp
 obj:=λi h st b hb=>by
  have e:b=it:=by simpa using hb
  subst e;exact⟨_,st,λv z=>by have z':Data.fields _=Data.cell v:=z;cases z'⟩
 keep:=λi h h' st k=>k it HA _ st
 item:=by intro X hP hw hK hc i a5 s σ H E I hf st hg;subst hP hw hK;obtain⟨f0,f1,f2,f3,f4,f5⟩:=V1 HA;have W:=Walks.range (prog:=X.prog) (w:=X.w) S7 it lo 1 n;refine W.item i s _ _ hg st λv h' tk hv aa kk=>?_;obtain⟨t,rfl⟩:=hv;have I1:ZA H {s with heap:=h',toks:=tk}:=I.turned (λb o hb e=>kk b o (HE hb) e) f0 f1 f3 f4 f5;refine⟨vG,go_of (s:={s with heap:=h',toks:=tk}) (n:= "range_iterator") aa rfl rfl HH ⟨Rv (lo+i),H,I1,⟨t,?_⟩,⟨rfl,rfl⟩,aa,λb hb=>(hf b hb).1⟩⟩;rw[Int.mul_one]
 done:=by intro X hP hw hK hc i a5 s σ H E I hf st hg;subst hP hw hK;obtain⟨f0,f1,f2,f3,f4,f5⟩:=V1 HA;exact wpAny_pyNext_range_end S7 st (by have:n≤i:=hg;lia) λh' eb=>⟨rfl,I.turned (t':=s.toks) (λb o hb e=>eb b o hb e) f0 f1 f3 f4 f5⟩
 self:=λ_ _ _ _ _ st h=>wpAny_pyIter_rangeiter st h
section
variable{X:Cx}{tg:Expr}
inductive RI1(x:V)(S R:Addr→Prop):Prop
 |mk(a:Nb)(e:x=.ref a)(s:S a)(q:R a)
def iList(K:Na)(tl:TE):TI:=λ σ H R=>tl σ H λx H1=>RI1 x (λa=>∃xs,SqL K H1 a xs) λa=>R (KU a) H1
def iTup(K:Na)(tl:TE):TI:=λ σ H R=>tl σ H λx H1=>RI1 x (λa=>∃xs,SqT K H1 a xs) λa=>R (Gi a) H1
def zan{l:Expr}{tl:TE}(hl:OY):YR l (iList X.K tl):=by
 intro a5 s σ H R I h;refine thn Cc λv s1 ⟨x,H1,I1,r1,q1⟩=>?_;obtain⟨a,e,⟨xs,hq⟩,q⟩:=q1;subst e;cases r1;obtain⟨a7,rv,p,hz⟩:=I1.list hq;refine wpAny_pyIter_list p.isList ⟨s1.heap.objs.size,[s1.heap.objs.size],_,_,H1,rfl,I1.kept (t':=s1.toks) λb o e=>WF e,turn_list a _,⟨_,To,rfl,rfl⟩,λb hb=>?_,q⟩;have e:b=s1.heap.objs.size:=by simpa using hb
 subst e;exact XY LS
def pi_tup{l:Expr}{tl:TE}(hl:OY):YR l (iTup X.K tl):=by
 intro a5 s σ H R I h;refine thn Cc λv s1 ⟨x,H1,I1,r1,q1⟩=>?_;obtain⟨a,e,⟨xs,hq⟩,q⟩:=q1;subst e;cases r1;obtain⟨a7,rv,p,hz⟩:=I1.tuple hq;refine wpAny_pyIter_tuple (show s1.heap.IsTuple a a7.toArray from p) ⟨s1.heap.objs.size,[s1.heap.objs.size],_,_,H1,rfl,I1.kept (t':=s1.toks) λb o e=>WF e,turn_tuple a _,⟨_,To,rfl,rfl⟩,λb hb=>?_,q⟩;have e:b=s1.heap.objs.size:=by simpa using hb
 subst e;exact XY LS
def range_it{a5:Nh}{σ:St}{H:Hp}{s:Ni}{R:It→Hp→Prop}{E:Nc}{lo hi:Int}{t u v:Tok}{tk:Nat}(I:Ro)(h1:-(2 ^ 62)≤lo)(h2:lo<2 ^ 62)(h3:-(2 ^ 62)≤hi)(h4:hi<2 ^ 62)(q:R (Fy (hi-lo).toNat) H):ZF (Oj HY) xj E {s with heap:=s.heap.push {cls:=.type "range",data:=.fields #[Po lo,Aw,yS]},toks:=tk}:=by
 refine wpAny_pyIter_range (IsRange.new ..) (small_one h1 h2 h3 h4) ?_;have I1:ZA H {s with heap:=s.heap.push {cls:=.type "range",data:=.fields #[Po lo,Aw,yS]},toks:=tk}:=I.kept λb o e=>WF e;refine⟨(s.heap.push {cls:=.type "range",data:=.fields #[Po lo,Aw,yS]}).objs.size,[(s.heap.push {cls:=.type "range",data:=.fields #[Po lo,Aw,yS]}).objs.size],_,_,H,rfl,
  I1.kept (t':=tk) λb o e=>WF e,turn_range _ lo (hi-lo).toNat,?_,λb hb=>?_,q⟩
 ·have e1:lo+((0:Nat):Int)*1=lo:=by simp
  have e2:(((hi-lo).toNat:Nat):Int)-((0:Nat):Int)=Builtin.Range.rangeSize lo hi 1:=by rw[rangeSize_one];split<;>lia
  show IsRangeIter _ _ (lo+((0:Nat):Int)*1) ((((hi-lo).toNat:Nat):Int)-((0:Nat):Int)) 1;rw[e1,e2];exact U5 rfl
 have e:b=(s.heap.push { cls:=.type "range",data:=.fields #[Po lo,Aw,yS] }).objs.size:=by simpa using hb
 subst e;exact XY LS
inductive RR1(vs:List V)(R:Int→Prop):Prop
 |mk(j:Int)(e:vs=[.int j])(l:-(2 ^ 62)≤j)(u:j<2 ^ 62)(q:R j)
def iRng1(ta:TA):TI:=λ σ H R=>ta σ H λvs H1=>RR1 vs λj=>R (Itr 0 j.toNat) H1
def zcu{a:Expr}{ta:TA}{p pos:Pos}(hg:Vm "range")(hm:X.mg "range" = none)(ha:K4 [a] ta)(hs:starEach [a] X.env=[(false,xf)]:=by rfl):YR (.Call (.Name "range" p) [a] [] pos) (iRng1 ta):=by
 intro a5 s σ H R I h;refine Call_ (BN boot_range (Ui (thn SN λus s1 ⟨vs,H1,I1,r1,q1⟩=>?_) hs rfl));obtain⟨j,e,q1,q2,q⟩:=q1;subst e;cases r1 with
 |cons r rr=>cases rr;obtain⟨t,rfl⟩:=r;exact call_range_1 (range_it I1 HB HB q1 q2 (HE q))
def tFor(wi:TI)(g:TG)(tb:TS):TS:=λD σ H=>wi σ H λJ H1=>∃W:Nat→Nat→St→Hp→Prop,(∃m,W 0 m σ H1)∧∀i m σ H,W i m σ H →
 (Vo H∧WW H)∨(N6 H∧∃N:St→Hp→Prop,Rk∧∀x H',BL H'→g x σ H' λ σ2 H2=>tb {D with nx:=N,ct:=N,bk:=D.nx} σ2 H2)
def zb0(fp:No)(h:Nn):List (Addr×Obj):=fp.filterMap λb=>(h.get? b).map λo=>(b,o)
def zbt(hb:b∈fp)(e:h.get? b=some o):(b,o)∈BU h:=List.mem_filterMap.mpr ⟨b,hb,by rw[e];rfl⟩
def zd4(hp:p∈BU h):p.1∈fp∧h.get? p.1=some p.2:=by
 obtain⟨b,hb,e⟩:=List.mem_filterMap.mp hp;cases q:h.get? b with
 |none=>rw[q]at e;cases e
 |some o=>rw[q]at e;have e':(b,o)=p:=Qo e;subst e';exact⟨hb,q⟩
def Inv.pinned(I:Ro)(hf:∀b∈fp,Y2 b)(ho:∀b∈fp,∃o,s.heap.get? b=some o∧∀v,o.data≠.cell v):Inv X (a5++BU s.heap) σ H s:=
 I.pins_of λp hp=>(Qm.mp hp).elim (λz=>BK (WI z)) λz=>by obtain⟨hb,e⟩:=zd4 z;obtain⟨f0,f1,f2,_⟩:=hf p.1 hb;obtain⟨o,e',d⟩:=ho p.1 hb;rw[e]at e';cases e';exact⟨e,f0,f1,f2,d⟩
def Inv.unpinned(I:Inv X (a5++pl) σ H s):ZA H s:=I.pins_of λp hp=>BK (WI (YG hp))
def za4(hp:XX X.xe)(hc:X.calm=true)(hi:YI wi)(hg:PG X tg g)(hb:MA body tb)(hs:∀x,foldedSetIterable iter X.env x=pure x:=by intro _;rfl):KO (.For tg iter body [] pos) (tFor wi g tb):=by
 intro a5 s σ H D I h;refine wpAny_For (thn Li λv s1 h1=>thn h1 λitv s2 h2=>?_) hs;obtain⟨it,fp,tn,J,H2,e,I2,T,cj,f2,W,⟨m0,w0⟩,turn⟩:=h2;subst e;have stat:∀{H':Hp},(∀b∈fp,H' b=none)→∀b∈fp,FpOk X a5 H' b:=λhn b hb=>⟨zQ,(f2 b hb).2⟩;refine codeAny_forLoop_any (λn s'=>Ex3 λi σ' H'=>Aj4 (ZD σ' H' s') E3 (∀b∈fp,H' b=none) (W i n σ' H')) ?_ m0 ⟨0,σ,H2,I2,cj,λb hb=>(f2 b hb).1,w0⟩;rintro n s3 ⟨i,σ3,H3,I3,aA,fr3,w3⟩;rcases turn i n σ3 H3 w3 with⟨stop,qn⟩|⟨go,N,hN,step⟩
 ·refine W7 (thn (T.done X rfl rfl rfl hc i a5 s3 σ3 H3 X.xe I3 (stat fr3) aA stop) λr s4 ⟨hr,I4⟩=>?_);subst hr;exact wpAny_execs_nil ⟨σ3,H3,I4,qn⟩
 refine W7 (thn (T.item X rfl rfl rfl hc i a5 s3 σ3 H3 X.xe I3 (stat fr3) aA go) λr s4 ⟨u,hr,h4⟩=>?_);subst hr;refine W7 (thn h4 λ_ s5 ⟨x,H5,I5,r5,y5,dQ,fr5⟩=>?_);have im:=I5.pinned (stat fr5) (U9 dQ);refine W7 (thn (hg _ s5 σ3 H5 x u _ im r5 (step x H5 y5)) λ_ s6 ⟨σ6,H6,I6,q6⟩=>W7 (thn (hb _ s6 σ6 H6 _ I6 q6) λf s7 q7=>?_));have again:∀{σ7:St} {H7:Hp},Inv X (a5++BU s5.heap) σ7 H7 s7→N σ7 H7→∃m,m<n∧Ex3 λi σ' H'=>Aj4 (ZD σ' H' s7) (tn i s7.heap) (∀b∈fp,H' b=none) (W i m σ' H'):=λ{σ7 H7} I7 n7=>by obtain⟨m',hm,w7⟩:=hN σ7 H7 n7;refine⟨m',hm,i+1,σ7,H7,I7.unpinned,WO dQ λb hb o e=>(I7.pin (b,o) L9).1,λb hb=>?_,w7⟩;obtain⟨o,e,d⟩:=U9 dQ b hb;exact(I7.pin (b,o) L9).2.1
 cases f with
 |next=>obtain⟨σ7,H7,I7,n7⟩:=q7;exact again I7 n7
 |cont=>obtain⟨σ7,H7,I7,n7⟩:=q7;exact again I7 n7
 |brk=>obtain⟨σ7,H7,I7,q7⟩:=q7;exact⟨σ7,H7,I7.unpinned,q7⟩
 |ret v=>obtain⟨x7,σ7,H7,I7,r7,q7⟩:=q7;exact⟨x7,σ7,H7,I7.unpinned,r7,q7⟩
def za2{K:Na}{a:Nb}{xs:List V}{g:TG}{tb:TS}{D:Ends}{σ:St}{H:Hp}(Pv:Nat→St→Hp→Prop)(h0:Ch)(hl:∀i σ H,i≤xs.length→Pv i σ H→YE xs)(hs:∀i x σ H,xs[i]?=some x→Pv i σ H→g x σ H λ σ2 H2=>tb {D with nx:=Pv Rm,ct:=Pv Rm,bk:=D.nx} σ2 H2)(hd:∀σ H,Pv xs.length σ H→WW H) :
  ∃W:Nat→Nat→St→Hp→Prop,(∃m,W 0 m σ H)∧∀i m σ H,W i m σ H →
   ((KU a).stop i H∧WW H)∨((KU a).go i H∧∃N:St→Hp→Prop,Rk∧∀x H',(KU a).yld i H x H'→g x σ H' λ σ2 H2=>tb {D with nx:=N,ct:=N,bk:=D.nx} σ2 H2):=by
 refine⟨λi m σ H=>m=xs.length-i∧i≤xs.length∧Pv i σ H,⟨xs.length,HA,SW,h0⟩,?_⟩;rintro i m σ H ⟨rfl,hi,p⟩;have q:=hl i σ H hi p;by_cases ad:i<xs.length
 ·refine .inr ⟨⟨xs,xs[i],q,by simp[ad]⟩,Pv Rm,fun σ' H' p'=>⟨xs.length - Rm,Ra,rfl,ad,p'⟩,λx H' y=>?_⟩;obtain⟨e,y⟩:=y;subst e;exact hs i x σ _ (y xs q) p
 have e:i=xs.length:=by exact zar3 ‹_› ‹_›
 subst e;exact .inl ⟨⟨xs,q,Rf⟩,Pk⟩
def for_tup{K:Na}{a:Nb}{xs:List V}{g:TG}{tb:TS}{D:Ends}{σ:St}{H:Hp}(Pv:Nat→St→Hp→Prop)(h0:Ch)(hl:∀i σ H,i≤xs.length→Pv i σ H→KD a xs)(hs:∀i x σ H,xs[i]?=some x→Pv i σ H→g x σ H λ σ2 H2=>tb {D with nx:=Pv Rm,ct:=Pv Rm,bk:=D.nx} σ2 H2)(hd:∀σ H,Pv xs.length σ H→WW H) :
  ∃W:Nat→Nat→St→Hp→Prop,(∃m,W 0 m σ H)∧∀i m σ H,W i m σ H →
   ((Gi a).stop i H∧WW H)∨((Gi a).go i H∧∃N:St→Hp→Prop,Rk∧∀x H',(Gi a).yld i H x H'→g x σ H' λ σ2 H2=>tb {D with nx:=N,ct:=N,bk:=D.nx} σ2 H2):=by
 refine⟨λi m σ H=>m=xs.length-i∧i≤xs.length∧Pv i σ H,⟨xs.length,HA,SW,h0⟩,?_⟩;rintro i m σ H ⟨rfl,hi,p⟩;have q:=hl i σ H hi p;by_cases ad:i<xs.length
 ·refine .inr ⟨⟨xs,xs[i],q,by simp[ad]⟩,Pv Rm,fun σ' H' p'=>⟨xs.length - Rm,Ra,rfl,ad,p'⟩,λx H' y=>?_⟩;obtain⟨e,y⟩:=y;subst e;exact hs i x σ _ (y xs q) p
 have e:i=xs.length:=by exact zar3 ‹_› ‹_›
 subst e;exact .inl ⟨⟨xs,q,Rf⟩,Pk⟩
def zc3{lo:Int}{n:Nat}{g:TG}{tb:TS}{D:Ends}{σ:St}{H:Hp}(Pv:Nat→St→Hp→Prop)(h0:Ch)(hs:∀i σ H,i<n→Pv i σ H→g (Rv (lo+i)) σ H λ σ2 H2=>tb {D with nx:=Pv Rm,ct:=Pv Rm,bk:=D.nx} σ2 H2)(hd:∀σ H,Pv n σ H→WW H) :
  ∃W:Nat→Nat→St→Hp→Prop,(∃m,W 0 m σ H)∧∀i m σ H,W i m σ H →
   ((Fy n).stop i H∧WW H)∨((Fy n).go i H∧∃N:St→Hp→Prop,Rk∧∀x H',(Fy n).yld i H x H'→g x σ H' λ σ2 H2=>tb {D with nx:=N,ct:=N,bk:=D.nx} σ2 H2):=by
 refine⟨λi m σ H=>m=n-i∧i≤n∧Pv i σ H,⟨n,HA,SW,h0⟩,?_⟩;rintro i m σ H ⟨rfl,hi,p⟩;by_cases ad:i<n
 ·refine .inr ⟨ad,Pv Rm,fun σ' H' p'=>⟨n - Rm,Ra,rfl,ad,p'⟩,λx H' y=>?_⟩;obtain⟨e,y⟩:=y;subst e y;exact hs i σ _ ad p
 have e:i=n:=by exact zar3 ‹_› ‹_›
 subst e;exact .inl ⟨Rf,Pk⟩
abbrev R2:=V→V→Hp→VK→Prop
def OpR(X:Cx)(f:Value→Value→Sem Value)(r:R2):Prop:=
 ∀(a5:Nh) (s:Ni) (σ:St) (H:Hp) (x y:V) (v u:Value) (Q:VK),ZA H s→WY v→YC u→r x y H Q →
  wpAny HU X.A A5 Lu X.xe s
def UnR(X:Cx)(f:Value→Sem Value)(r:V→Hp→VK→Prop):Prop:=
 ∀(a5:Nh) (s:Ni) (σ:St) (H:Hp) (x:V) (v:Value) (Q:VK),ZA H s→WY v→r x H Q →
  wpAny HU X.A (f v) Lu X.xe s
def zci(X:Cx)(f:Value)(r:List V→Hp→VK→Prop):Prop:=
 ∀(a5:Nh) (s:Ni) (σ:St) (H:Hp) (xs:List V) (us:Nj) (Q:VK),ZA H s→WG us→r xs H Q →
  wpAny HU X.A (call f us) Lu X.xe s
def TruR(X:Cx)(r:V→Hp→(Bool→Hp→Prop)→Prop):Prop:=
 ∀(a5:Nh) (s:Ni) (σ:St) (H:Hp) (x:V) (v:Value) (Q:Bool→Hp→Prop),ZA H s→WY v→r x H Q →
  wpAny HU X.A P3 (Mz Q) X.xe s
def tOp(r:R2)(ta tb:TE):TE:=λ σ H Q=>ta σ H λx H1=>tb σ H1 λy H2=>r x y H2 Q
def tUn(r:V→Hp→VK→Prop)(ta:TE):TE:=λ σ H Q=>ta σ H λx H1=>r x H1 Q
inductive RrI(C:Int→Int→Prop)(g:Int→Int→V)(x:V)(y:V)(H:Hp)(Q:VK):Prop
 |mk(i:_)(j:_)(h0:x=.int i)(h1:y=.int j)(h2:C i j)(h3:Q (g i j) H)
def rI(C:Int→Int→Prop)(g:Int→Int→V):R2:=λx y H Q=>RrI C g x y H Q
inductive RrI0(g:Int→Int→V)(x:V)(y:V)(H:Hp)(Q:VK):Prop
 |mk(i:_)(j:_)(h0:x=.int i)(h1:y=.int j)(h2:Q (g i j) H)
def rI0(g:Int→Int→V):R2:=λx y H Q=>RrI0 g x y H Q
def rU(g:Int→V):V→Hp→VK→Prop:=λx H Q=>∃i,x=.int i∧Q (g i) H
variable{a b c:Expr}{ta tb tc:TE}{pos:Pos}
def binT(ha:Lz)(hb:IP){a5:Nh}{s:Ni}{σ:St}{H:Hp}{R:V→V→Hp→Prop}(I:Ro)(h:ta σ H λx H1=>tb σ H1 λy H2=>R x y H2){Q:Nc}{f:Value→Value→Sem Value}(hf:∀v u s2 x y H2,ZA H2 s2→WY v→YC u→R x y H2→ZF A5 Q X.xe s2) :
  wpAny HU X.A xf (λv s₁=>ZF (Rr b) (λu s₂=>ZF A5 Q X.xe s₂) X.xe s₁) X.xe s:=by
 exact thn RS λv s1 ⟨x,H1,I1,r1,q1⟩=>thn LA λu s2 ⟨y,H2,I2,r2,q2⟩=>M4 q2
def za7{op:Operator}{r:R2}(ho:YQ (binaryOp op) r)(ha:Lz)(hb:IP):Z9 (.BinOp a op b pos) xS:=by intro a5 s σ H Q I h;exact wpAny_BinOp (N7 h λv u s2 x y H2 I2 rx ry q=>ho a5 s2 σ H2 x y v u Q I2 rx ry q)
def pe_un(ho:UnR X (unaryOp op) r)(ha:Lz):Z9 (.UnaryOp op a pos) (tUn r ta):=by intro a5 s σ H Q I h;exact UnaryOp_ (thn RS λv s1 ⟨x,H1,I1,r1,q1⟩=>ho a5 s1 σ H1 x v Q I1 r1 q1)
def opI{f:Value→Value→Sem Value}{C:Int→Int→Prop}{g:Int→Int→Int}(rule:∀(i j:Int) (t u:Tok) (s:Ni) (Q:Nc) (E:Nc),C i j→Q (AQ Ec) {s with toks:=s.toks+1}→ZF EI Q E s) :
  OpR X f (rI C λi j=>.int Ec):=by
 intro a5 s σ H x y v u Q I rx ry h;obtain⟨i,j,rfl,rfl,hc,q⟩:=h;obtain⟨t,rfl⟩:=rx;obtain⟨t',rfl⟩:=ry;exact rule i j t t' s _ _ hc ⟨Rv Ec,H,Su,⟨_,rfl⟩,q⟩
def opI0{f:Value→Value→Sem Value}{g:Int→Int→Int}(rule:∀(i j:Int) (t u:Tok) (s:Ni) (Q:Nc) (E:Nc),Q (AQ Ec) {s with toks:=s.toks+1}→ZF EI Q E s) :
  OpR X f (rI0 λi j=>.int Ec):=by
 intro a5 s σ H x y v u Q I rx ry h;obtain⟨i,j,rfl,rfl,q⟩:=h;obtain⟨t,rfl⟩:=rx;obtain⟨t',rfl⟩:=ry;exact rule i j t t' s _ _ ⟨Rv Ec,H,Su,⟨_,rfl⟩,q⟩
def opB0{f:Value→Value→Sem Value}{g:Int→Int→Bool}(rule:∀(i j:Int) (t u:Tok) (s:Ni) (Q:Nc) (E:Nc),Q (Oi Ec) s→ZF EI Q E s) :
  OpR X f (rI0 λi j=>.bl Ec):=by
 intro a5 s σ H x y v u Q I rx ry h;obtain⟨i,j,rfl,rfl,q⟩:=h;obtain⟨t,rfl⟩:=rx;obtain⟨t',rfl⟩:=ry;exact rule i j t t' s _ _ ⟨.bl Ec,H,I,rfl,q⟩
def CDiv(i j:Int):Prop:=0<j∧j<1073741824
def CPow(i j:Int):Prop:=0≤j∧j≤1000000∧i.natAbs<2 ^ 64
def CMul(i j:Int):Prop:=(-(2 ^ 64)<i∧i<2 ^ 64)∨(-(2 ^ 64)<j∧j<2 ^ 64)
def CMul.ok{i j:Int}(h:CMul i j):IntMulOk i j:=by
 rcases h with⟨h1,h2⟩|⟨h1,h2⟩
 ·exact .of_left zM
 exact .of_right zM
def zcm:YQ O8 (rI0 λi j=>.int (i+j)):=opI0 λ_ _ _ _ _ _ _ q=>add_int q
def zd2:YQ (binaryOp .Sub) (rI0 λi j=>.int (i-j)):=opI0 λ_ _ _ _ _ _ _ q=>sub_int q
def zha:YQ (binaryOp .Mult) (rI CMul λi j=>.int (i*j)):=opI λ_ _ _ _ _ _ _ hc q=>mul_int q hc.ok
def op_fdiv:YQ (binaryOp .FloorDiv) (rI CDiv λi j=>.int (i/j)):=opI λi j _ _ _ _ _ hc q=>by have h1:(0:Int)<j:=hc.1;have h2:j<1073741824:=hc.2;exact floordiv_int HB (by rw[Me HB];exact q) Om
def zgd:YQ (binaryOp .Mod) (rI (λ_ j=>0<j) λi j=>.int (i%j)):=opI λi j _ _ _ _ _ hc q=>by have h1:(0:Int)<j:=hc;exact mod_int' HB (by rw[Mf HB];exact q)
def op_pow:YQ (binaryOp .Pow) (rI CPow λi j=>.int (i ^ j.toNat)):=opI λ_ _ _ _ _ _ _ hc q=>pow_int_small hc.1 hc.2.1 hc.2.2 q
def unI{f:Value→Sem Value}{g:Int→Int}(rule:∀(i:Int) (t:Tok) (s:Ni) (Q:Nc) (E:Nc),Q (AQ (g i)) {s with toks:=s.toks+1}→ZF (f (Po i)) Q E s) :
  UnR X f (rU λi=>.int (g i)):=by
 intro a5 s σ H x v Q I rx h;obtain⟨i,rfl,q⟩:=h;obtain⟨t,rfl⟩:=rx;exact rule i t s _ _ ⟨Rv (g i),H,Su,⟨_,rfl⟩,q⟩
def un_neg:UnR X (unaryOp .USub) (rU λi=>.int (-i)):=unI λ_ _ _ _ _ q=>neg_int q
def scal:V→V→Bool
 |.non,.non=>true | .non,.int _=>true | .int _,.non=>true | .non,.bl _=>true | .bl _,.non=>true | .non,.str _=>true | .str _,.non=>true
 |.int _,.int _=>true | .bl _,.bl _=>true | .str _,.str _=>true | .byt _,.byt _=>true
 |.int _,.str _=>true | .str _,.int _=>true | .bl _,.str _=>true | .str _,.bl _=>true
 |_,_=>false
def rEq:R2:=λx y H Q=>scal x y=true∧Q (.bl (decide (x=y))) H
def rNe:R2:=λx y H Q=>scal x y=true∧Q (.bl (!decide (x=y))) H
def dec_int:decide (V.int i=V.int j)=(i==j):=by rw[Wd];simp
def dec_bl:decide (V.bl i=V.bl j)=(i==j):=by rw[Wd];simp
def dec_str:decide (V.str i=V.str j)=(i==j):=by rw[Wd];simp
def dec_byt:decide (V.byt i=V.byt j)=(i.toList==j.toList):=by rw[Wd];cases i;cases j;simp
def zbk(I:Ro)(q:Iu k)(e:k=k'):QF Q (Oi k') s:=by subst e;exact⟨.bl k,H,I,rfl,q⟩
def zhb:YQ O9 rEq:=by
 intro a5 s σ H x y v u Q I rx ry h;obtain⟨hs,q⟩:=h;cases x with
 |non=>
  cases rx;cases y with
  |non=>cases ry;exact PySem.EqNone.eq_none_none Tc
  |bl j=>cases ry;exact PySem.EqNone.eq_none_bool Tc
  |int j=>obtain⟨t',rfl⟩:=ry;exact PySem.EqNone.eq_none_int Tc
  |str j=>obtain⟨t',rfl⟩:=ry;exact PySem.EqNone.eq_none_str Tc
  |_=>exact absurd (show false=true from hs) Zh
 |bl i=>
  cases rx;cases y with
  |non=>cases ry;exact PySem.EqNone.eq_bool_none Tc
  |bl j=>cases ry;exact eq_bool (QX dec_bl)
  |str j=>obtain⟨t',rfl⟩:=ry;exact PySem.EqMixed.eq_bool_str Tc
  |_=>exact absurd (show false=true from hs) Zh
 |int i=>
  obtain⟨t,rfl⟩:=rx;cases y with
  |non=>cases ry;exact PySem.EqNone.eq_int_none Tc
  |int j=>obtain⟨t',rfl⟩:=ry;exact eq_int (QX dec_int)
  |str j=>obtain⟨t',rfl⟩:=ry;exact PySem.EqMixed.eq_int_str Tc
  |_=>exact absurd (show false=true from hs) Zh
 |str i=>
  obtain⟨t,rfl⟩:=rx;cases y with
  |non=>cases ry;exact PySem.EqNone.eq_str_none Tc
  |bl j=>cases ry;exact PySem.EqMixed.eq_str_bool Tc
  |int j=>obtain⟨t',rfl⟩:=ry;exact PySem.EqMixed.eq_str_int Tc
  |str j=>obtain⟨t',rfl⟩:=ry;exact eq_str (QX dec_str)
  |_=>exact absurd (show false=true from hs) Zh
 |byt i=>
  obtain⟨t,rfl⟩:=rx;cases y with
  |byt j=>obtain⟨t',rfl⟩:=ry;exact PySem.W.eq_bytes (QX dec_byt)
  |_=>exact absurd (show false=true from hs) Zh
 |_=>cases y<;>exact absurd (show false=true from hs) Zh
def op_ne:WP rNe:=by
 intro a5 s σ H x y v u Q I rx ry h;obtain⟨hs,q⟩:=h;cases x with
 |non=>
  cases rx;cases y with
  |non=>cases ry;exact PySem.EqNone.ne_none_none Tc
  |bl j=>cases ry;exact PySem.EqNone.ne_none_bool Tc
  |int j=>obtain⟨t',rfl⟩:=ry;exact PySem.EqNone.ne_none_int Tc
  |str j=>obtain⟨t',rfl⟩:=ry;exact PySem.EqNone.ne_none_str Tc
  |_=>exact absurd (show false=true from hs) Zh
 |bl i=>
  cases rx;cases y with
  |non=>cases ry;exact PySem.EqNone.ne_bool_none Tc
  |bl j=>cases ry;exact ne_bool (QX (congrArg not dec_bl))
  |str j=>obtain⟨t',rfl⟩:=ry;exact PySem.EqMixed.ne_bool_str Tc
  |_=>exact absurd (show false=true from hs) Zh
 |int i=>
  obtain⟨t,rfl⟩:=rx;cases y with
  |non=>cases ry;exact PySem.EqNone.ne_int_none Tc
  |int j=>obtain⟨t',rfl⟩:=ry;exact ne_int (QX (congrArg not dec_int))
  |str j=>obtain⟨t',rfl⟩:=ry;exact PySem.EqMixed.ne_int_str Tc
  |_=>exact absurd (show false=true from hs) Zh
 |str i=>
  obtain⟨t,rfl⟩:=rx;cases y with
  |non=>cases ry;exact PySem.EqNone.ne_str_none Tc
  |bl j=>cases ry;exact PySem.EqMixed.ne_str_bool Tc
  |int j=>obtain⟨t',rfl⟩:=ry;exact PySem.EqMixed.ne_str_int Tc
  |str j=>obtain⟨t',rfl⟩:=ry;exact ne_str (QX (congrArg not dec_str))
  |_=>exact absurd (show false=true from hs) Zh
 |byt i=>
  obtain⟨t,rfl⟩:=rx;cases y with
  |byt j=>obtain⟨t',rfl⟩:=ry;exact PySem.W.ne_bytes (QX (congrArg not dec_byt))
  |_=>exact absurd (show false=true from hs) Zh
 |_=>cases y<;>exact absurd (show false=true from hs) Zh
def op_lt:YQ (compareOp .Lt) (rI0 λi j=>.bl (decide (i<j))):=opB0 λ_ _ _ _ _ _ _ q=>lt_int q
def op_le:YQ (compareOp .LtE) (rI0 λi j=>.bl (decide (i≤j))):=opB0 λ_ _ _ _ _ _ _ q=>le_int q
def op_gt:YQ (compareOp .Gt) (rI0 λi j=>.bl (decide (j<i))):=opB0 λ_ _ _ _ _ _ _ q=>gt_int q
def za5(b:Expr)(h:op≠.In:=by decide)(h2:op≠.NotIn:=by decide):behindInMarks op b=false:=by
 have e1:(op==CmpOp.In)=false:=by cases op<;>first|rfl|exact absurd rfl h
 have e2:(op==CmpOp.NotIn)=false:=by cases op<;>first|rfl|exact absurd rfl h2
 cases b<;>simp[behindInMarks,e1,e2]
def zdn{op:CmpOp}{r:R2}(ho:IZ)(ha:Lz)(hb:IP)(hm:behindInMarks op b=false):Z9 (.Compare a [op] [b] pos) xS:=by intro a5 s σ H Q I h;exact wpAny_Compare1 (N7 h λv u s2 x y H2 I2 rx ry q=>ho a5 s2 σ H2 x y v u Q I2 rx ry q) hm
def tTest(t:TE):TT:=λ σ H Q=>t σ H λx H'=>RB x H' Q
def zap(ho:IZ)(ha:Lz)(hb:IP)(hm:behindInMarks op b=false):Md (.Compare a [op] [b] pos) (tTest xS):=by intro a5 s σ H Q I h;refine wpAny_isTrue_Compare1 (thn RS λv s1 ⟨x,H1,I1,r1,q1⟩=>thn LA λu s2 ⟨y,H2,I2,r2,q2⟩=>thn E4 λc s3 ⟨z,H3,I3,r3,k,e,q3⟩=>?_) hm;subst e;cases r3;exact wpAny_truthy_bool ⟨H3,I3,q3⟩
def tChain(r r':R2)(ta tb tc:TE):TE:=λ σ H Q=>ta σ H λx H1=>tb σ H1 λy H2=>r x y H2 λz H3=>RB z H3 λk H3=>(if k=true then tc σ H3 λw' H4=>r' y w' H4 Q else Q LP H3)
def zgp(ho:IZ)(dz:YQ (compareOp op') r')(ha:Lz)(hb:IP)(hc:Z9 c tc)(hm:lastMarks [op,op'] [b,c]=false:=by with_unfolding_all rfl):Z9 (.Compare a [op,op'] [b,c] pos) (tChain r r' ta tb tc):=by
 intro a5 s σ H Q I h;refine Compare_chain (thn RS λv s1 ⟨x,H1,I1,r1,q1⟩=>chain_link (thn LA λu s2 ⟨y,H2,I2,r2,q2⟩=>thn E4 λd s3 ⟨z,H3,I3,r3,k,e,q3⟩=>?_)) hm;subst e;cases r3;refine wpAny_truthy_bool ?_;cases k with
 |false=>exact ite_ff ⟨LP,H3,I3,rfl,q3⟩
 |true=>exact ite_tt (chain_last (thn (hc a5 s3 σ H3 _ I3 q3) λw' s4 ⟨z',H4,I4,r4,q4⟩=>dz a5 s4 σ H4 y z' u w' Q I4 r2 r4 q4))
def TruV(K:Na)(x:V)(H:Hp)(k:Bool):Prop:=
 match x with
 |.non=>k=false
 |.bl b=>k=b
 |.int i=>k=(i != 0)
 |.str y=>y.length≤sizeLine∧k=((y.length:Int) != 0)
 |.byt y=>y.size≤sizeLine∧k=((y.size:Int) != 0)
 |.ref p=>(∃xs,YH p xs∧k=!xs.isEmpty)∨(∃xs,KD p xs∧k=!xs.isEmpty)∨∃kvs,H p=some RO∧k=!kvs.isEmpty
 |_=>False
def isEmpty_kv{κ:Type}{kvs:List (κ×V)}{vs:List (κ×Value)}(r:UC vs):(!vs.isEmpty)=!kvs.isEmpty:=by cases r<;>rfl
def zid{xs:List V}{a7:Nj}(r:WG a7):(!a7.toArray.isEmpty)=!xs.isEmpty:=by cases r<;>simp
def zgf:(sizeLine:Nat)<2 ^ 63:=by rw[sizeLine_eq];decide
inductive RTr(K:Na)(x:V)(H:Hp)(Q:Bool→Hp→Prop):Prop
 |mk(k:Bool)(t:TruV K x H k)(q:Q k H)
def tru_ok:TruR X (λx H Q=>RTr X.K x H Q):=by
 intro a5 s σ H x v Q I rx h;obtain⟨k,e,q⟩:=h;have hl:=zgf;have hs:sizeLine=16777216:=sizeLine_eq;cases x with
 |non=>cases rx;have e':k=false:=e;subst e';exact truthy_none ⟨H,I,q⟩
 |bl b=>cases rx;have e':k=b:=e;subst e';exact wpAny_truthy_bool ⟨H,I,q⟩
 |int i=>obtain⟨t,rfl⟩:=rx;have e':k=(i != 0):=e;subst e';exact PySem.P.truthy_int ⟨H,I,q⟩
 |str y=>obtain⟨t,rfl⟩:=rx;obtain⟨hy,e'⟩:y.length≤sizeLine∧k=((y.length:Int) != 0):=e;subst e';exact PySem.P.truthy_str HB ⟨H,Su,q⟩
 |byt y=>obtain⟨t,rfl⟩:=rx;obtain⟨hy,e'⟩:y.size≤sizeLine∧k=((y.size:Int) != 0):=e;subst e';exact PySem.W.truthy_bytes HB ⟨H,Su,q⟩
 |ref p=>
  cases rx;have e':(∃xs,Q9 p xs∧k=!xs.isEmpty)∨(∃xs,VF p xs∧k=!xs.isEmpty)∨∃kvs,H p=some RO∧k=!kvs.isEmpty:=e;rcases e' with⟨xs,hx,e'⟩|⟨xs,hx,e'⟩|⟨kvs,hx,e'⟩
  ·subst e';obtain⟨a7,r,pl,hz⟩:=I.list hx;have ae:=r.length;exact wpAny_truthy_list pl.isList (by simp only[Qv];lia) ⟨H,Su,by rw[zid r];exact q⟩
  ·subst e';obtain⟨a7,r,pl,hz⟩:=I.tuple hx;have ae:=r.length;exact truthy_tuple pl (by simp only[Qv];lia) ⟨H,Su,by rw[zid r];exact q⟩
  subst e';obtain⟨hz,hS,vs,r,m⟩:kvs.length≤sizeLine∧(p==sysModules)=false∧∃vs,UC vs∧s.heap.DictOf Lj p vs:=KF hx;have ae:kvs.length=vs.length:=Zr r;exact wpAny_truthy_dict hS m HB ⟨H,Su,by rw[isEmpty_kv r];exact q⟩
 |_=>exact(show False from e).elim
def zfb(ha:Lz)(he:∀whole,isTrue a X.env whole=(do let v ←whole;standAt a.pos;holding [v] P3)) :
  PT X a (λ σ H Q=>ta σ H λx H'=>RTr X.K x H' Q):=by
 intro a5 s σ H Q I h;exact isTrue_plain (thn RS λv s1 ⟨x,H1,I1,r1,q1⟩=>tru_ok a5 s1 σ H1 x v Q I1 r1 q1) (he _)
def zh9:YQ O8 (λx y H Q=>Ex2 λi j=>Aj4 (x=.str i) (y=.str j) (i.length+j.length≤sizeLine) (Q (EB (i++j)) H)):=by intro a5 s σ H x y v u Q I rx ry h;obtain⟨i,j,rfl,rfl,hz,q⟩:=h;obtain⟨t,rfl⟩:=rx;obtain⟨t',rfl⟩:=ry;exact add_str (λt' tk=>⟨EB (i++j),H,Su,⟨_,rfl⟩,q⟩) hz
def vals1(r:Vals [x] us):∃u,us=[u]∧WY u:=by
 cases r with
 |cons r1 r2=>cases r2;exact⟨vG,r1⟩
def vals2(r:Vals [x,y] us):∃u w',us=[u,w']∧WY u∧YC w':=by
 cases r with
 |cons r1 r2=>
  cases r2 with
  |cons r3 r4=>cases r4;exact⟨_,vG,r1,r3⟩
def call_abs:YJ (.builtin "abs") (λxs H Q=>Ex1 λi=>Aj2 (xs=[E2]) (Q (Rv (if i<0 then -i else i)) H)):=by intro a5 s σ H xs us Q I r h;obtain⟨i,rfl,q⟩:=h;obtain⟨u,rfl,t,rfl⟩:=vals1 r;exact call_abs_int λu tk=>⟨Rv (if i<0 then -i else i),H,Su,⟨_,rfl⟩,q⟩
def call_max2(hc:X.calm=true):YJ (.builtin "max") (λxs H Q=>Ex2 λi j=>Aj2 (xs=[E2,Rv j]) (Q (Rv (if j>i then j else i)) H)):=by
 intro a5 s σ H xs us Q I r h;obtain⟨i,j,rfl,q⟩:=h;obtain⟨u,w',rfl,⟨t,rfl⟩,⟨t',rfl⟩⟩:=vals2 r;refine max_two_ints S7 λh' tk k=>⟨_,H,I.kept k,?_,q⟩;by_cases hj:j>i
 ·rw[if_pos hj,if_pos hj];exact⟨vG⟩
 rw[if_neg hj,if_neg hj];exact⟨vG⟩
def zhr:YJ (.builtin "divmod") (λxs H Q=>Ex2 λi j=>Aj3 (xs=[E2,Rv j]) (CDiv i j) (∀p,H p=none→Q TB (ZR p (.tup [Rv (i/j),Rv (i%j)])))):=by intro a5 s σ H xs us Q I r h;obtain⟨i,j,rfl,⟨h1,h2⟩,q⟩:=h;obtain⟨u,w',rfl,⟨t,rfl⟩,⟨t',rfl⟩⟩:=vals2 r;refine divmod_int HB ?_ Om;rw[Me HB,Mf HB];have hn:H s.heap.objs.size=none:=I.hok.fresh Rf;refine⟨HY,_,?_,rfl,q _ hn⟩;exact I.laid (λb o e=>WF e) Rf ⟨by simp only[Qy,Uh];rw[sizeLine_eq];decide,[AQ (i/j),S5 (i%j) (s.toks+1)],EJ ⟨_,rfl⟩ (SA ⟨_,rfl⟩),_,GQ rfl,rfl,0,rfl⟩
structure ObjM(h:Nn)(x dx C:Nb)(mA:Nd):Prop where
 obj:h.get? x=some (WU dx)
 ns:h.Ns1 dx mA
 ne:dx≠x
def lookIn_ns{h:Nn}{mA:Nd}(n:h.Ns1 dx mA):∃od,h.get? dx=some od∧∀name,KP od=some (mA name):=by
 obtain⟨o,es,ep,ho,hd,hk,_,hm⟩:=n;refine⟨o,ho,λname=>?_⟩;have e:=hm name;unfold nsFind findBy at e;rw[←Array.find?_toList]at e;unfold PySem.W.lookIn;rw[hd];dsimp only;split
 ·rename_i y q;rw[q]at e;exact congrArg some e
 rename_i q;rw[q]at e;have a:es.toList.any (·.refKey)=false:=by rw[List.any_eq_false];intro y hy;obtain⟨z,t,ce⟩:=hk y (Array.mem_toList_iff.mp hy);simp[DictEntry.refKey,ce]
 have a':¬es.toList.any (·.refKey)=true:=by rw[a];exact Zh
 rw[if_neg a'];exact congrArg some e
def ObjM.look(I:ObjM h x dx C mA):∃od,PySem.W.InstAt h x (WU dx) C (HW od)∧∀name,KP od=some (mA name):=
 let⟨od,ho,hl⟩:=lookIn_ns I.ns
 ⟨od,⟨I.obj,rfl,rfl,ho⟩,hl⟩
variable{prog:Nk}{w:Nl}{A:Np}{E:Nc}{s:Ni}{K:Na}{x dx C f:Nb}{mA:Nd}{name:Str}{v:Value}
def get_map(X:K.In s.heap)(I:K5 mA)(hg:UD name=true)(hh:Be C=true)(ha:Z4 name=some none)(hv:mA name=some v)(aK:PySem.W.handedIn v=true)(h:Q v {s with toks:=s.toks+1}) :
  wpAny Rb A (getAttr PZ name expr) Q E s:=by
 obtain⟨od,J,hl⟩:=I.look;exact PySem.W.get_value X J (PySem.W.plainGet_of hg).1 (PySem.W.findObj_own hh ha rfl (by rw[hl,hv])) aK h
def get_meth(X:K.In s.heap)(I:K5 mA)(hg:UD name=true)(hf:Z4 name=some P5)(ht:XZ Ld=true)(hv:mA name=none)(h:Q (Ld,[PZ]) s) :
  wpAny Rb A (getMethod PZ name pl) Q E s:=by
 obtain⟨od,J,hl⟩:=I.look;exact PySem.W.method_fn X J (PySem.W.plainGet_of hg).1 (PySem.W.plainGet_of hg).2 hf (beq_iff_eq.mp ht) (by show(KP od).map (·.isSome)=some false;rw[hl,hv];rfl) h
def set_map(X:K.In s.heap)(I:K5 mA)(hs:Z4 "__setattr__" = some (HW (.builtin "object.__setattr__")))(hp:KQ C=true)(ht:Fn name=some none)(hh:Be C=true)(hw:Ma ns)(hsz:ns.length≤sizeLine)(h:∀h',ObjM h' x dx C (λy=>if y=name then some v else mA y)→Heap.SameBut dx s.heap h'→Q () {s with heap:=h',toks:=s.toks+2}) :
  wpAny Rb A (setAttr PZ name v) Q E s:=by
 obtain⟨od,J,hl⟩:=I.look;refine PySem.W.set_plain X J hs (PySem.W.osa_open (s:={s with toks:=s.toks+1}) (r:=none) X J hp ht λb=>?_);obtain⟨cd,hc,iX⟩:=PySem.W.any_some hh;have hx:s.heap.get? x=some ⟨Pb,HW dx,.plain,#[]⟩:=I.obj;refine wpAny_bind (wpAny_pure (wpAny_bind (wpAny_bind (wpAny_loadPart hx (wpAny_bind (PySem.W.Looks.here (s:={s with toks:=s.toks+1}) (PySem.W.looks_clsIn X hc) ?_))))));rw[iX];refine wpAny_pure (a:=some dx) (Sd (RK (wpAny_bind (wpAny_nsSet1 (s:={s with toks:=s.toks+1}) I.ns λh' cc cq=>?_))));obtain⟨oD,esD,epD,hoD,hdD,hcD⟩:=cc.count (PySem.Within.cons name v hw);exact wpAny_bind (wpAny_lookBehind hoD (by rw[hdD];exact pastItsLine_dict (Zi hcD (by rw[Qy];exact zar4 ‹_›))) (wpAny_pure (h _ ⟨(cq.2 _ (Zm I.ne)).trans I.obj,cc,I.ne⟩ cq)))
def make_map(X:K.In s.heap)(hm:Vp C=true)(hi:Z4 "__init__" = some P5)(hf:PySem.W.typeIn K Ld=some (.type "function"))(h:codeAny Rb (zN (.builtin "type.__call__" ⟨.ref C::vs,kw⟩)) (.call Ld ⟨.ref Rj::vs,kw⟩) (PySem.W.InitBack Rj R)
   {s with heap:=(s.heap.push PySem.W.emptyDict).push L7}) :
  codeAny Rb A (.call Pb ⟨vs,kw⟩) R s:=by
 obtain⟨hh,g,d,t,os⟩:=s;exact PySem.W.make_core (PySem.W.makes_of X hm) (PySem.W.looks_findIn X hi) (λself=>PySem.W.bind_fn X self hf) Sf h
end
def putF(f:Str)(v:V):List (Str×V)→List (Str×V)
 |[]=>[(f,v)]
 |(g,x)::r=>if g=f then(g,v)::r else(g,x)::JD r
theorem zhe(f g:Str)(v:V):∀fs:List (Str×V),(JD fs).lookup g=if g=f then some v else fs.lookup g
 |[]=>by
  show List.lookup g [(f,v)]=_;by_cases h:g=f
  ·have hb:(g == f)=true:=beq_iff_eq.mpr h;simp only[List.lookup,hb,if_pos h]
  have hb:(g == f)=false:=beq_eq_false_iff_ne.mpr h;simp only[List.lookup,hb,if_neg h]
 | (k,x)::r=>by
  have ih:=zhe f g v r;rw[show JD ((k,x)::r)=(if k=f then(k,v)::r else(k,x)::JD r) from rfl];by_cases hk:k=f
  ·rw[Sx hk];by_cases h:g=k
   ·have hb:(g == k)=true:=beq_iff_eq.mpr h;simp only[List.lookup,hb,if_pos (h.trans hk)]
   have hb:(g == k)=false:=beq_eq_false_iff_ne.mpr h;simp only[List.lookup,hb,if_neg (λe:g=f=>h (e.trans hk.symm))]
  rw[So hk];by_cases h:g=k
  ·have hb:(g == k)=true:=beq_iff_eq.mpr h;simp only[List.lookup,hb,if_neg (λe:g=f=>hk (h.symm.trans e))]
  have hb:(g == k)=false:=beq_eq_false_iff_ne.mpr h;simp only[List.lookup,hb];exact ih
theorem zhh(f:Str)(v:V):∀fs:List (Str×V),f∈(JD fs).map (·.1)∧∀g,g∈fs.map (·.1)→g∈(JD fs).map (·.1)
 |[]=>⟨by simp[putF],λg h=>by simp at h⟩
 |(k,x)::r=>by
  obtain⟨i1,i2⟩:=zhh f v r;rw[show JD ((k,x)::r)=(if k=f then(k,v)::r else(k,x)::JD r) from rfl];by_cases hk:k=f
  ·rw[Sx hk];subst hk;exact⟨HA,λg h=>by simpa using h⟩
  rw[So hk];refine⟨?_,λg h=>?_⟩
  ·rw[Qn];exact QR i1
  rw[Qn]at h ⊢;rcases Qi.mp h with e|e
  ·exact Qi.mpr (Rq e)
  exact QR (i2 g e)
theorem zhf(f:Str)(v:V):∀fs:List (Str×V),(JD fs).length≤fs.length+1
 |[]=>by simp[putF]
 |(k,x)::r=>by
  have ih:=zhf f v r;rw[show JD ((k,x)::r)=(if k=f then(k,v)::r else(k,x)::JD r) from rfl];by_cases hk:k=f
  ·rw[if_pos hk,Qy,Qy];exact FA _
  rw[if_neg hk,Qy,Qy];exact zar4 ‹_›
def RelO.some_of(r:RelO IQ o):∃u,o=some u∧US u:=by
 cases o with
 |none=>exact(show False from r).elim
 |some u=>exact⟨u,rfl,r⟩
def RelO.none_of(r:RelO none o):o=none:=by
 cases o with
 |none=>rfl
 |some u=>exact(show False from r).elim
def handed_of(r:US u):PySem.W.handedIn u=true:=by
 cases v with
 |non=>cases(show u=Value.none from r);rfl
 |bl b=>cases(show u=Value.bool b from r);rfl
 |int i=>obtain⟨t,e⟩:=(show ∃t,u=BJ t from r);cases e;rfl
 |str x=>obtain⟨t,e⟩:=(show ∃t,u=U8 t from r);cases e;rfl
 |byt b=>obtain⟨t,e⟩:=(show ∃t,u=Value.bytes b t from r);cases e;rfl
 |flt b=>obtain⟨t,e⟩:=(show ∃t,u=Value.float b t from r);cases e;rfl
 |ref a=>cases(show u=Value.ref a from r);rfl
 |ty n=>cases(show u=Value.type n from r);rfl
section
variable{P:Nk}{w:Nl}{H H':Hp}{h h':Nn}{a C dx:Nb}{fs fs':List (Str×V)}
def zjm(hok:WV h)(e:H a=some LT):∃mA,ObjM h a dx C mA∧(∀f,K1 (mA f))∧Ma (fs.map (·.1))∧fs.length≤1000∧H dx=some EZ:=by obtain⟨d,z,ne,ob,mA,n,r,q⟩:=(show YL LT from hok a _ e);exact⟨mA,⟨ob,n,ne⟩,r,q,z,d⟩
end
structure Cls(K:Na)(C:Nb):Prop where
 pg:UD Str.empty=true
 hd:Be C=true
 po:KQ C=true
 sa:Z4 "__setattr__" = some (HW (.builtin "object.__setattr__"))
def Cls.get{K:Na}{C:Nb}(c:KW C)(f:Str):UD f=true:=c.pg
def zec(K:Na)(C:Nb)(f:Str):Prop:=Z4 f=some none
def zec.taker{K:Na}{C:Nb}{f:Str}(n:Mp f):Fn f=some none:=by unfold PySem.W.takerIn;rw[show Z4 f=some none from n];rfl
structure Meth(K:Na)(C:Nb)(m:Str)(f:Nb):Prop where
 at_:Z4 m=some P5
 fn:XZ Ld=true
 kp:W4 Ld=true
section
variable{X:Cx}{a5:Nh}{σ:St}{H:Hp}{s:Ni}{a C dx:Nb}{fs:List (Str×V)}{f:Str}{v:V}{A:Np}{E:Nc}
def getattr_ok(I:Ro)(e:H a=some LT)(c:Mq C)(n:zec X.K C f)(l:fs.lookup f=some v)(h:∀u s',ZA H s'→US u→Q u s'):ZG A (getAttr Sg f b) Q E s:=by obtain⟨mA,O,r,_,_,_⟩:=NK e;obtain⟨u,hu,ru⟩:=RelO.some_of (v:=v) (o:=mA f) (by rw[←l];exact r f);exact get_map I.kIn O (c.get f) c.hd n hu (handed_of ru) (h u _ Su ru)
def zf6(I:Ro)(e:H a=some LT)(c:Mq C)(k:Vq g)(l:fs.lookup m=none)(h:Q (HK g,[Sg]) s):ZG A (getMethod Sg m pl) Q E s:=by obtain⟨mA,O,r,_,_,_⟩:=NK e;have hn:mA m=none:=RelO.none_of (by rw[←l];exact r m);exact get_meth I.kIn O (c.get m) k.at_ k.fn hn h
def setattr_ok(I:Ro)(e:H a=some LT)(c:Mq C)(n:zec X.K C f)(hl:fs.length<1000)(ry:YC u)(h:∀s',ZA (ZR a (.ins C dx (putF f y fs))) s'→Q () s'):ZG A (setAttr Sg f u) Q E s:=by
 obtain⟨mA,O,r,wi,_,ho⟩:=NK e;have hz:(fs.map (·.1)).length≤sizeLine:=by rw[Qa,sizeLine_eq];lia
 refine set_map I.kIn O c.sa c.po n.taker c.hd wi hz λh' O' sb=>h _ ?_;have hd:∃o,h'.get? dx=some o:=let⟨o,_,_,e',_⟩:=O'.ns;⟨o,e'⟩;refine I.write (x:=a) (e:=dx) (by rw[e];exact True.intro) (SJ ho) (λb q hb z=>(AO hb).trans z) hd ⟨by rw[zag O.ne];exact ho,?_,O.ne,O'.obj,_,O'.ns,λg=>?_,λg hg=>?_⟩
 ·have:=zhf f y fs;exact Zi ‹_› ‹_›
 ·show RelO ((putF f y fs).lookup g) (if g=f then some u else mA g);rw[zhe];by_cases q:g=f
  ·rw[if_pos q,if_pos q];exact ry
  rw[if_neg q,if_neg q];exact r g
 by_cases q:g=f
 ·rw[q];exact(zhh f y fs).1
 refine (zhh f y fs).2 g (wi g λz=>hg ?_);show(if g=f then some u else mA g)=none;rw[if_neg q];exact z
def Inv.made(I:Ro):ZA (upd (PP (.own Rj)) Rj (.ins C s.heap.objs.size []))
  {s with heap:=(s.heap.push PySem.W.emptyDict).push L7}:=by
 have e1:(s.heap.push PySem.W.emptyDict).get? s.heap.objs.size=some PySem.W.emptyDict:=GQ rfl;have e2:((s.heap.push PySem.W.emptyDict).push L7).get? Rj=some L7:=by have:=Qz (s.heap.push PySem.W.emptyDict) (o:=WU s.heap.objs.size) rfl;rwa[Wj]at this
 have e3:(s.heap.push PySem.W.emptyDict).Ns s.heap.objs.size (λ_=>none):=⟨PySem.W.emptyDict,#[],_,e1,rfl,(λe he=>absurd he HA),λ_=>rfl⟩;have I1:=I.laid (a:=s.heap.objs.size) (o:=.own Rj) (h':=s.heap.push PySem.W.emptyDict) (t':=s.toks) (λb u q=>WF q) Rf ⟨_,e1⟩;refine I1.laid (a:=s.heap.objs.size+1) (o:=.ins C s.heap.objs.size []) (t':=s.toks) (λb u q=>WF q) (Nat.le_of_eq (Wj _ _)) ?_;have ne:s.heap.objs.size≠s.heap.objs.size+1:=Zj xl;refine⟨by rw[zag ne,zab],SW,ne,e2,λ_=>none,(Heap.Ns1.of_empty e3).at λo q=>WF q,λ_=>True.intro,λy hy=>absurd rfl hy⟩
def attr_of(hb:attributeBase e f env (Ci e)=eval e env)(h:ZE A (Ci e) (λo s₁=>ZE A (getAttr o f true) Q E s₁) E s):ZE A (Ci (zO e pos)) Q E s:=
 Attribute_any_ h (by rw[arm_eval_Attribute,hb])
end
inductive RFld(K:Na)(f:Str)(x:V)(H:Hp)(Q:VK):Prop
 |mk(a C dx:Nb)(fs:List (Str×V))(v:V)(e:x=.ref a)(h:H a=some (.ins C dx fs))(c:Cls K C)(n:zec K C f)(l:fs.lookup f=some v)(q:Q v H)
def tFld(K:Na)(ta:TE)(f:Str):TE:=λ σ H Q=>ta σ H λx H1=>RFld K f x H1 Q
inductive RFs(K:Na)(f:Str)(x y:V)(H:Hp)(N:Hp→Prop):Prop
 |mk(a C dx:Nb)(fs:List (Str×V))(e:x=.ref a)(h:H a=some (.ins C dx fs))(c:Cls K C)(n:zec K C f)(l:fs.length<1000)(q:N (upd H a (.ins C dx (putF f y fs))))
def sFld(K:Na)(ta tv:TE)(f:Str):TS:=λD σ H=>tv σ H λy H1=>ta σ H1 λx H2=>RFs K f x y H2 (D.nx σ)
def InOp(X:Cx)(op:Operator)(rd:V→V→Hp→VK→Prop):Prop:=
 ∀(a5:Nh) (s:Ni) (σ:St) (H:Hp) (x y:V) (u v:Value) (Q:VK),ZA H s→WY u→YC v→rd x y H Q→ZF (inplaceOp op u v) Lu X.xe s
section
variable{X:Cx}{o e value:Expr}{f:Str}{pos aP tpos:Pos}{ta tv:TE}
def pe_fld(he:Z9 e ta)(hb:attributeBase e f X.env Eb=eval e X.env):Z9 (zO e pos) (tFld X.K ta f):=by intro a5 s σ H Q I h;refine attr_of hb (thn Sm λu s1 ⟨x,H1,I1,rx,a,C,dx,fs,v,ex,ea,c,n,l,q⟩=>?_);subst ex;obtain rfl:u=Value.ref a:=rx;exact getattr_ok I1 ea c n l λu' s2 I2 ru=>⟨v,H1,I2,ru,q⟩
def ps_fld(ha:Z9 o ta)(hv:xJ)(hs:swapsWith value (HW (zO o aP)) pos.line X.env=pure false):KO (.Assign [zO o aP] value pos) (sFld X.K ta tv f):=by intro a5 s σ H D I h;refine plainObj_wpAny_Assign_Attribute (thn yc λu s1 ⟨y,H1,I1,ry,q⟩=>thn (ha a5 s1 σ H1 _ I1 q) λov s2 ⟨x,H2,I2,rx,a,C,dx,fs,ex,ea,c,n,l,q2⟩=>?_) hs;subst ex;obtain rfl:ov=Value.ref a:=rx;exact setattr_ok I2 ea c n l ry λs3 I3=>⟨σ,_,I3,q2⟩
def rSub:V→V→Hp→VK→Prop:=λx y H Q=>∃i j,x=.int i∧y=.int j∧Q (Rv (i-j)) H
def in_sub:InOp X .Sub rSub:=by rintro a5 s σ H x y u v Q I rx ry ⟨i,j,rfl,rfl,q⟩;obtain⟨t,rfl⟩:=(show ∃t,u=BJ t from rx);obtain⟨t',rfl⟩:=(show ∃t',v=Value.int j t' from ry);exact PyProof.Rows.isub_int ⟨Rv (i-j),H,Su,⟨_,rfl⟩,q⟩
def methcall_of(he:Cj)(I:Ro)(h:te σ H λx H1=>∃ a C dx fs g,x=.ref a∧H1 a=some LT∧Mq C∧Vq g∧fs.lookup m=none ∧
   ∀s1,ZA H1 s1→ZF (callWith pos (HK g) [Sg] (L6 zP) (Eo (keywordEach [] X.env))) Q X.xe s1)(ht:eval (.Call (Lv e) args [] pos) X.env=(do
   let ov ←eval e X.env
   standAt apos.atName
   let(f,first) ←holding [ov] ID
   callWith pos f first (backTo pos zP) (Eo (keywordEach [] X.env)))) :
  wpAny HU X.A (Rr (.Call (Lv e) args [] pos)) Q X.xe s:=by
 refine PySem.W.methodCall_KW (pl:=pl) (thn Sm λu s1 ⟨x,H1,I1,rx,a,C,dx,fs,g,ex,ea,c,k,l,q⟩=>?_) ht;subst ex;obtain rfl:u=Value.ref a:=rx;exact DX k l (q s1 I1)
end
section
variable{X:Cx}{a5:Nh}{σ:St}{H:Hp}{s:Ni}{A:Np}{E:Nc}{Q:Nc}{c:Value}{b:Bool}
inductive TyOf(K:Na)(H:Hp):V→Value→Prop where
 |non:TyOf K H .non (.type "NoneType")
 |bl (x:Bool):TyOf K H (.bl x) (.type "bool")
 |int (i:Int):TyOf K H (.int i) (.type "int")
 |str (x:Str):TyOf K H (.str x) (.type "str")
 |flt (x:UInt64):TyOf K H (.flt x) (.type "float")
 |lst {a:Nb} {xs:List V} (e:H a=some (.lst xs)):TyOf K H (.ref a) (.type "list")
 |frz {a:Nb} {o:Obj} {xs:List V} (e:H a=some (.frz o (.lst xs))):TyOf K H (.ref a) (.type "list")
 |tup {a:Nb} {xs:List V} (e:H a=some (.tup xs)):TyOf K H (.ref a) (.type "tuple")
 |dK {a:Nb} {kvs:List (Key×V)} (e:H a=some (.dK kvs)):TyOf K H (.ref a) (.type "dict")
 |dT {a:Nb} {kvs:List (List Key×V)} (e:H a=some (.dT kvs)):TyOf K H (.ref a) (.type "dict")
 | ins {a C dx:Nb} {fs:List (Str×V)} (e:H a=some (.ins C dx fs)) (cl:Cls K C) (ha:PySem.W.findIn K (.ref C) "__class__" = some (some (.builtin "object.__class__")))
   (hn:PySem.W.specialIn K (.builtin "object.__class__") "__get__" = some (HW (.builtin "getset_descriptor.__get__"))) (nP:PySem.W.takesIn K (.builtin "object.__class__")=some true)
   (hm:PySem.W.mroIn K C (.type "object")=some true):TyOf K H Sg Pb
def isinst_ok(I:Ro)(rx:WY u)(ty:TyOf X.K H x t)(e:DY c=some b)(h:∀tk,Q (Oi b) {s with toks:=tk}) :
  wpAny HU A (call (.builtin "isinstance") [u,c]) Q E s:=by
 cases ty with
 |non=>cases(show u=Value.none from rx);exact Wo PySem.W.kitx_none I.kIn True.intro e (λz=>nomatch z) h
 |bl y=>cases(show u=Value.bool y from rx);exact Wo PySem.W.kitx_bool I.kIn True.intro e (λz=>nomatch z) h
 |int i=>obtain⟨t,q⟩:=(show ∃t,u=BJ t from rx);cases q;exact Wo PySem.W.kitx_int I.kIn True.intro e (λz=>nomatch z) h
 |str y=>obtain⟨t,q⟩:=(show ∃t,u=V2 t from rx);cases q;exact Wo PySem.W.kitx_str I.kIn True.intro e (λz=>nomatch z) h
 |flt y=>obtain⟨t,q⟩:=(show ∃t,u=Value.float y t from rx);cases q;exact Wo PySem.W.kitx_float I.kIn True.intro e (λz=>nomatch z) h
 |@lst a xs ea=>cases(show u=Value.ref a from rx);obtain⟨_,_,n,_,h1⟩:=(show Z1 H s.heap a Tj from JW ea);exact MB ⟨_,h1,rfl⟩ e (λz=>nomatch z) h
 |@frz a ob xs ea=>cases(show u=Value.ref a from rx);obtain⟨_,_,_,n,_,h1⟩:=(show Z1 H s.heap a (.frz ob Tj) from JW ea);exact MB ⟨_,h1,rfl⟩ e (λz=>nomatch z) h
 |@tup a xs ea=>cases(show u=Value.ref a from rx);obtain⟨_,_,_,p⟩:=(show Z1 H s.heap a Tb from JW ea);obtain⟨o,h1,h2,_⟩:=p;exact Wo PySem.W.kitx_tuple I.kIn ⟨o,h1,h2⟩ e (λz=>nomatch z) h
 |@dK a kvs ea=>cases(show u=Value.ref a from rx);obtain⟨_,_,vs,_,p⟩:=(show Z1 H s.heap a RO from JW ea);obtain⟨o,es,ep,h1,h2,_⟩:=p;exact MC ⟨o,h1,h2.1⟩ e (λz=>nomatch z) h
 |@dT a kvs ea=>cases(show u=Value.ref a from rx);obtain⟨_,_,xs,_,o,es,ep,h1,h2,_⟩:=(show Z1 H s.heap a La from JW ea);exact MC ⟨o,h1,h2.1⟩ e (λz=>nomatch z) h
 |@ins a C dx fs ea cl ha hn nP hm=>cases(show u=Value.ref a from rx);obtain⟨mA,O,_⟩:=NK ea;obtain⟨od,J,_⟩:=O.look;exact Wo (PySem.W.kitx_own (cl.get _) cl.hd ha hn nP hm) I.kIn J e (λz=>nomatch z) h
end
structure Room(k:Nat)(A:Np):Prop where
 hd:A.handled=none
 dp:A.depth+3*k+5<recursionLimit
 un:A.units+16*k+200<cLine
 gd:A.guards=some []
def Room.mono(r:Y4 A)(h:j≤k):Room j A:=⟨r.hd,by have:=r.dp;lia,by have:=r.un;lia,r.gd⟩
def Room.deeper{k:Nat}{A:Np}(r:Room (k+1) A)(env:Env):Y4 (A.deeper env):=
 ⟨r.hd,by have:=r.dp;show A.depth+1+3*k+5<_;lia,by have:=r.un;show A.units+3+16*k+200<_;lia,r.gd⟩
def make_depth{A:Np}:(zN (.builtin "type.__call__" ⟨.ref C::us,kw⟩)).depth=A.depth+1:=by
 first|rfl|simp[Around.under,Code.weight,Code.isCreation,Code.isGuard,Code.isCaller,Code.frames,Code.isFrame,guardIds]
def make_units{A:Np}:(zN (.builtin "type.__call__" ⟨.ref C::us,kw⟩)).units=A.units+1:=by
 first|rfl|simp[Around.under,Code.cUnits,Code.frames,Code.isFrame]
def make_guards{A:Np}{C:Nb}{us:Nj}{kw:List (Str×Value)}:(zN (.builtin "type.__call__" ⟨.ref C::us,kw⟩)).guards=A.guards:=by obtain⟨hd,d,fr,gs,u⟩:=A;cases gs<;>first|rfl|simp[Around.under,Code.guards,Code.isGuard,pushGuards,guardIds]
def Room.make(r:Room (k+1) A)(C:Nb)(us:Nj)(kw:S1 (Str×Value)):Y4 (zN (.builtin "type.__call__" ⟨.ref C::us,kw⟩)):=
 ⟨r.hd,by have:=r.dp;rw[make_depth];lia,by have:=r.un;rw[make_units];lia,by rw[make_guards];exact r.gd⟩
def Room.depth{k:Nat}{A:Np}(r:Y4 A):A.depth<recursionLimit:=by have:=r.dp;lia
def Room.units(r:Y4 A):A.units+64<cLine:=by have:=r.un;lia
def Room.units0(r:Y4 A):A.units<cLine:=by have:=r.un;lia
def tNil:TA:=λ_ H Q=>Q [] H
def tCons(ta:TE)(tr:TA):TA:=λ σ H Q=>ta σ H λx H1=>tr σ H1 λxs H2=>Q (x::xs) H2
section
variable{X:Cx}{e:Expr}{es:Nv}{te:TE}{t:TA}{pos:Pos}
def zae:K4 [] tNil:=λ_ _ _ _ H Q I h=>Ks ⟨[],H,I,.nil,h⟩
def zaa(ha:Cj)(hr:K4 es t)(hs:starEach (e::es) X.env=(false,Eb)::starEach es X.env:=by rfl):K4 (e::es) (tCons te t):=by intro pos a5 s σ H Q I h;rw[hs];show ZV _ (spliced ((false,Eb)::backTo pos SH)) _ _ s;exact Js (thn RS λu s1 ⟨x,H1,I1,r1,q1⟩=>thn Pc λus s2 ⟨xs,H2,I2,r2,q2⟩=>⟨x::xs,H2,I2,EJ r1 r2,q2⟩)
def tTup(t:TA):TE:=λ σ H Q=>t σ H λxs H1=>xs.length≤sizeLine∧∀p,H1 p=none→Q TB (QA p Tb)
def tLst(t:TA):TE:=λ σ H Q=>t σ H λxs H1=>xs.length≤sizeLine∧∀p,H1 p=none→Q TB (QA p Tj)
def zbq{x1}(h:K4 es t):Z9 (.Tuple es x1 pos) (tTup t):=by intro a5 s σ H Q I hq;refine wpAny_Tuple_spliced (thn Az λus s1 ⟨xs,H1,I1,r,z,q⟩=>⟨by rw[←r.length];exact z,?_⟩);have hf:H1 s1.heap.objs.size=none:=I1.hok.fresh Rf;refine⟨yV,QA s1.heap.objs.size Tb,I1.laid (t':=s1.toks) (λb u e=>WF e) Rf ?_,rfl,q _ hf⟩;exact⟨z,us,r,⟨_,To,rfl,vG⟩⟩
def zbs(h:K4 es t):Z9 (.List es pos) (tLst t):=by intro a5 s σ H Q I hq;refine wpAny_List_spliced (thn Az λus s1 ⟨xs,H1,I1,r,z,q⟩=>⟨by rw[←r.length];exact z,?_⟩);have hf:H1 s1.heap.objs.size=none:=I1.hok.fresh Rf;refine⟨yV,QA s1.heap.objs.size Tj,I1.laid (t':=s1.toks) (λb u e=>WF e) Rf ?_,rfl,q _ hf⟩;exact⟨z,us,0,r,To⟩
abbrev Sp:=List V→Hp→VK→XK→Prop
abbrev CXT:=List Env→Hp→Shared→XK→Value→Shared→Prop
structure Env0(P:Nk)(w:Nl)(K:Na)(mg:Nd)(base:Nn)(A:Np)(outer:List Env)(s:Ni)(H:Hp):Prop where
 frames:A.frames=some outer
 mod:Mod K mg base
 bs:∀b o,base.get? b=some o→s.heap.get? b=some o∧H b=none
 bsz:base.objs.size≤s.heap.objs.size
 funs:s.heap.FunFrames base outer
 frf:∀b∈frs outer,H b=none
 hok:WV s.heap
 bare:AllBare s.gens
inductive CE(outer:List Env)(P:Nk)(w:Nl)(H:Hp)(s:Ni)(Q:VK)(u:Value)(s':Ni):Prop
 |mk(v:_)(H':_)(h0:s'.os=s.os)(h1:AllBare s'.gens)(h2:Un (frs outer) [] H H' s.heap s'.heap)(h3:HOk P w H' s'.heap)(h4:RelV v u)(h5:Q v H')
def CR(CX:CXT)(outer:List Env)(P:Nk)(w:Nl)(H:Hp)(s:Ni)(Q:VK)(E:XK)(r:Result)(s':Ni):Prop:=
 match r with
 |.ok (.ret u)=>DZ s'
 |.ok _=>False
 |.error e=>CX outer H s E e s'
structure FnOk(P:Nk)(w:Nl)(K:Na)(mg:Nd)(base:Nn)(CX:CXT)(k:Nat)(f:Nb)(fd:Nu)(ps:Ng)(sp:Sp):Prop where
 len:∀vs H Q E,sp vs H Q E→vs.length=ps.length
 run:∀(A:Np) (outer:List Env) (s:Ni) (H:Hp) (args:Args) (us:Nj) (vs:List V) (Q:VK) (E:XK),Y4 A→Bb H→UN args LL→Vn us→sp vs H Q E →
  codeAny CO A (.call Ld args) (CR CX outer P w H s Q E) s
def FnOk.imp{P:Nk}{w:Nl}{K:Na}{mg:Nd}{base:Nn}{CX:CXT}{k:Nat}{f:Nb}{fd:Nu}{ps:Ng}{sp sp':Sp}(F:ZC CX k f fd ps sp)(h:∀vs H Q E,sp' vs H Q E→sp vs H Q E):ZC CX k f fd ps sp':=
 ⟨λvs H Q E q=>F.len vs H Q E (h _ _ _ _ q),λA outer s H args us vs Q E hr he hb hv hs=>F.run A outer s H args us vs Q E hr he hb hv (h _ _ _ _ hs)⟩
def Env0.make{P:Nk}{w:Nl}{K:Na}{mg:Nd}{base:Nn}{A:Np}{outer:List Env}{s:Ni}{H:Hp}(e:Bb H)(C:Nb)(us:Nj)(kw:S1 (Str×Value)) :
  Env0 P w K mg base (zN (.builtin "type.__call__" ⟨.ref C::us,kw⟩)) outer s H:=⟨by first|exact e.frames|(simpa[Around.under,Code.envs,Code.isFrame,pushEnvs] using e.frames),e.mod,e.bs,e.bsz,e.funs,e.frf,e.hok,e.bare⟩
variable{a5:Nh}{σ:St}{H:Hp}{s s':Ni}
def Inv.env0(I:Ro):Env0 X.prog X.w X.K X.mg X.base X.A X.stack s H:=
 ⟨I.ok.frames,I.ok.mod,I.bs,DV I.sz,I.stack,I.stkFree,I.hok,I.bare⟩
def Inv.after(I:Ro)(h:CE X.stack X.prog X.w H s Q u s'):QF Q u s':=by obtain⟨v,H',os,bare,un,hok,r,q⟩:=h;obtain⟨hh,g,d,t,sx⟩:=s';obtain rfl:sx=s.os:=os;exact⟨v,H',I.call (h':=hh) (g':=g) (d':=d) (t':=t) (ch:=[]) un hok bare (λb z=>absurd z HA),r,q⟩
def tCall(sp:Sp)(dvs:List V)(E:XK)(t:TA):TE:=λ σ H Q=>t σ H λvs H1=>sp (vs++dvs) H1 Q E
end
inductive RMe(C:Nb)(m:Str)(x:V)(H:Hp)(R:Prop):Prop
 |mk(a dx:Nb)(fs:List (Str×V))(e:x=.ref a)(h:H a=some (.ins C dx fs))(l:fs.lookup m=none)(q:R)
def tMeth(C:Nb)(m:Str)(sp:Sp)(dvs:List V)(E:XK)(ta:TE)(t:TA):TE:=λ σ H Q=>ta σ H λx H1=>RMe C m x H1 <|
 t σ H1 λvs H2=>sp (x::(vs++dvs)) H2 Q E
def tMake(C:Nb)(sp:Sp)(dvs:List V)(E:XK)(t:TA):TE:=λ σ H Q=>t σ H λvs H1=>∀x dx,H1 x=none→H1 dx=none→dx≠x →
 sp (.ref x::(vs++dvs)) (upd (QA dx Oe) x (.ins C dx [])) (λv H2=>v=.non∧Q PZ H2) E
def Binds(K:Na)(fd:Nu)(ps:Ng)(ds:Nj):Prop:=
 ∀(s:Ni) (us:Nj),K.In s.heap→(us++ds).length=ps.length→UN ⟨us,[]⟩ (ps.zip (us++ds))
def Binds.all{K:Na}{fd:Nu}{ps:Ng}(h:∀us:List Value,us.length=ps.length→bindArgs fd ⟨us,[]⟩=pure LL):WE fd ps []:=λs us _ hl=>by rw[Zt]at hl ⊢;exact .of_eq (h us hl)
def zfq(CX:CXT)(X:Cx)(E:XK):Prop:=∀(a5:Nh) (σ:St) (H:Hp) (s:Ni) (e:Value) (s':Ni),ZA H s→CX X.stack H s E e s'→X.xe e s'
section
variable{X:Cx}{CX:CXT}{k:Nat}{f C:Nb}{fd:Nu}{ps:Ng}{sp:Sp}{dvs:List V}{ds:Nj}{E:XK}{x m:Str}{p pos apos:Pos}{e o:Expr}{es:Nv}{ta:TE}{t:TA}
def run_fn(F:ZZ sp)(hr:Y4 X.A)(hb:U0 ds)(hd:Vr ds)(hx:B4 E)(I:Ro)(r:Vn us)(h:sp (vs++dvs) H Q E):ZF (call Ld us) Lu X.xe s:=by
 have r2:Vals (vs++dvs) (us++ds):=r.append hd;have hl:(us++ds).length=ps.length:=by rw[←r2.length];exact Ny h
 refine wpAny_call (codeAny_mono (DG ⟨us,[]⟩ (us++ds) (vs++dvs) Q E hr I.env0 (hb s us I.kIn hl) r2 h) λr s' hq=>?_);cases r with
 |error e=>exact hx a5 σ H s e s' I hq
 |ok fl=>
  cases fl with
  |ret u=>exact I.after hq
  |next=>exact False.elim hq
  |brk=>exact False.elim hq
  |cont=>exact False.elim hq
def zcq(F:ZZ sp)(hr:Y4 X.A)(hg:Vm x)(hm:X.mg x=some Ld)(hk:FB Ld=true)(hb:U0 ds)(hd:Vr ds)(hx:B4 E)(ha:K4 (e::es) t)(eZ:RP=false:=by decide)(he:starEach (e::es) X.env=(false,Eb)::starEach es X.env:=by rfl)(aH:(L6 SH).any (·.1)=false:=by rfl) :
  PE X (.Call A6 (e::es) [] pos) (tCall sp dvs E t):=by
 intro a5 s σ H Q I h;refine wpAny_Call_Name_kw (V0 ?_ eZ);refine PySem.W.callWith_K (h₀:=X.base) I.ok.mod.kin hk (thn SN λus s1 ⟨vs,H1,I1,r,q⟩=>⟨I1.kIn,?_⟩) he aH;exact run_fn F hr hb hd hx I1 r q
def zev(he:Z9 o ta)(c:Mq C)(hm:Vq f)(F:ZZ sp)(hr:Y4 X.A)(hb:U0 ds)(hd:Vr ds)(hx:B4 E)(ha:K4 (e::es) t)(ay:starEach (e::es) X.env=(false,Eb)::starEach es X.env:=by rfl)(aH:(L6 SH).any (·.1)=false:=by rfl)(ht:eval (.Call (Lv o) (e::es) [] pos) X.env=(do
   let ov ←eval o X.env
   standAt apos.atName
   let(f,first) ←holding [ov] ID
   callWith pos f first (backTo pos (starEach (e::es) X.env)) (Eo (keywordEach [] X.env))):=by rfl) :
  PE X (.Call (Lv o) (e::es) [] pos) (DH t):=by
 intro a5 s σ H Q I h;refine PySem.W.methodCall_KW (pl:=pl) (thn Sm λu s1 ⟨x,H1,I1,rx,a,dx,fs,ex,ea,l,q⟩=>?_) ht;subst ex;obtain rfl:u=Value.ref a:=rx;refine DX hm l (PySem.W.callWith_K (first:=[Sg]) (h₀:=X.base) I.ok.mod.kin hm.kp (thn (ha pos a5 s1 σ H1 _ I1 q) λus s2 ⟨vs,H2,I2,r,q2⟩=>⟨I2.kIn,?_⟩) ay aH);exact run_fn (us:=.ref a::us) (vs:=.ref a::vs) F hr hb hd hx I2 (EJ rfl r) q2
def zjb(he:Z9 o ta)(c:Mq C)(hm:Vq f)(F:ZZ sp)(hr:Y4 X.A)(hb:U0 ds)(hd:Vr ds)(hx:B4 E)(ht:eval (.Call (Lv o) [] [] pos) X.env=(do
   let ov ←eval o X.env
   standAt apos.atName
   let(f,first) ←holding [ov] ID
   callWith pos f first (backTo pos (starEach [] X.env)) (Eo (keywordEach [] X.env))):=by rfl) :
  PE X (.Call (Lv o) [] [] pos) (DH tNil):=by
 intro a5 s σ H Q I h;refine PySem.W.methodCall_KW (pl:=pl) (thn Sm λu s1 ⟨x,H1,I1,rx,a,dx,fs,ex,ea,l,q⟩=>?_) ht;subst ex;obtain rfl:u=Value.ref a:=rx;exact DX hm l (PySem.W.callWith_K0 (first:=[Sg]) I1.kIn hm.kp (run_fn (us:=[Sg]) (vs:=[Sg]) F hr hb hd hx I1 (SA rfl) q))
structure Mk(K:Na)(C f:Nb):Prop where
 makes:Vp C=true
 init:Z4 "__init__" = some P5
 fn:XZ Ld=true
 kp:W4 Pb=true
def run_make(M:Mk X.K C f)(F:ZZ sp)(hr:Room (k+1) X.A)(hb:U0 ds)(hd:Vr ds)(hx:B4 E)(I:Ro)(r:Vn us)(h:∀x dx,H x=none→H dx=none→dx≠x→sp (.ref x::(vs++dvs)) (upd (ZR dx Oe) x (.ins C dx [])) (λv H2=>v=.non∧Q PZ H2) E) :
  wpAny HU X.A (call Pb us) Lu X.xe s:=by
 have hq:=h Rj s.heap.objs.size (S0 (Uo _)) (S0 Rf) (Zj xl);have I2:=Inv.made (C:=C) I;have r2:Vals (V.ref Rj::(vs++dvs)) (Value.ref Rj::(us++ds)):=.cons rfl (r.append hd);have hl:(Value.ref Rj::us++ds).length=ps.length:=by have e:=r2.length;rw[Ny hq]at e;exact e.symm
 refine wpAny_call (make_map (f:=f) I.kIn M.makes M.init (beq_iff_eq.mp M.fn) (codeAny_mono (F.run _ X.stack _ _ ⟨Value.ref Rj::us,[]⟩ (Value.ref Rj::(us++ds)) _ _ E (hr.make C us [])
  (I2.env0.make C us []) (hb _ (Value.ref Rj::us) I2.kIn hl) r2 hq) λr s' cZ=>?_))
 cases r with
 |error e=>exact hx a5 σ _ _ e s' I2 cZ
 |ok fl=>
  cases fl with
  |ret u=>obtain⟨v,H',I3,rv,ev,q3⟩:=I2.after cZ;subst ev;exact⟨rv,⟨LZ Rj,H',I3,rfl,q3⟩⟩
  |next=>exact False.elim cZ
  |brk=>exact False.elim cZ
  |cont=>exact False.elim cZ
def pe_make(M:Mk X.K C f)(F:ZZ sp)(hr:Room (k+1) X.A)(hg:Vm x)(hm:X.mg x=some Pb)(hb:U0 ds)(hd:Vr ds)(hx:B4 E)(ha:K4 (e::es) t)(eZ:RP=false:=by decide)(he:starEach (e::es) X.env=(false,Eb)::starEach es X.env:=by rfl)(aH:(L6 SH).any (·.1)=false:=by rfl) :
  PE X (.Call A6 (e::es) [] pos) (tMake C sp dvs E t):=by
 intro a5 s σ H Q I h;refine wpAny_Call_Name_kw (V0 ?_ eZ);refine PySem.W.callWith_K (h₀:=X.base) I.ok.mod.kin M.kp (thn SN λus s1 ⟨vs,H1,I1,r,q⟩=>⟨I1.kIn,?_⟩) he aH;exact run_make M F hr hb hd hx I1 r q
def PK(X:Cx)(kws:List Keyword)(t:TA):Prop:=
 ∀(pos:Pos) (a5:Nh) (s:Ni) (σ:St) (H:Hp) (Q:List V→Hp→Prop),ZA H s→t σ H Q→ZF (evalAll ((Eo TK).map (·.2))) (AP X a5 σ Q) X.xe s
variable{ks:Ng}{kpos:Pos}{kws:List Keyword}{te:TE}{tk:TA}{nm:Option Str}
def pk_nil:PK X [] tNil:=λ_ _ _ _ H Q I h=>wpAny_evalAll_nil ⟨[],H,I,.nil,h⟩
def pk_cons(ha:Cj)(hr:PK X kws t):PK X (⟨nm,e,kpos⟩::kws) (tCons te t):=by intro pos a5 s σ H Q I h;show ZV _ (evalAll ((do let v ←eval e X.env;standAt pos;pure v)::(Eo TK).map (·.2))) _ _ s;refine wpAny_evalAll_cons (wpAny_bind (thn RS λu s1 ⟨x,H1,I1,r1,q1⟩=>wpAny_bind (wpAny_standAt Rw)));exact thn Pc λus s2 ⟨xs,H2,I2,r2,q2⟩=>⟨x::xs,H2,I2,EJ r1 r2,q2⟩
structure KBinds(K:Na)(fd:Nu)(ps ks:Ng)(g:List Value→List Value→List Value)(gV:List V→List V→List V):Prop where
 to:∀(s:Ni) (us ws:Nj),K.In s.heap→(g us ws).length=ps.length→UN ⟨us,ks.zip ws⟩ (ps.zip (g us ws))
 rel:∀{vs:List V} {us:Nj} {zs:List V} {ws:Nj},Vn us→Gj ws→Vals P6 (g us ws)
def tCallK(sp:Sp)(gV:List V→List V→List V)(E:XK)(t tk:TA):TE:=λ σ H Q=>t σ H λvs H1=>tk σ H1 λzs H2=>sp P6 H2 Q E
variable{g:List Value→List Value→List Value}{gV:List V→List V→List V}
def run_fnk(F:ZZ sp)(hr:Y4 X.A)(hb:DI gV)(hx:B4 E)(I:Ro)(r:Vn us)(rz:Gj ws)(h:sp P6 H Q E):ZF (call Ld us (ks.zip ws)) Lu X.xe s:=by
 have r2:=hb.rel r rz;have hl:(g us ws).length=ps.length:=by rw[←r2.length];exact Ny h
 refine wpAny_call (codeAny_mono (DG ⟨us,ks.zip ws⟩ (g us ws) P6 Q E hr I.env0 (hb.to s us ws I.kIn hl) r2 h) λr s' hq=>?_);cases r with
 |error e=>exact hx a5 σ H s e s' I hq
 |ok fl=>
  cases fl with
  |ret u=>exact I.after hq
  |next=>exact False.elim hq
  |brk=>exact False.elim hq
  |cont=>exact False.elim hq
def pe_callK(F:ZZ sp)(hr:Y4 X.A)(hg:Vm x)(hm:X.mg x=some Ld)(hk:FB Ld=true)(hb:DI gV)(hx:B4 E)(ha:K4 (e::es) t)(hkw:PK X kws tk)(ak:(Eo TK).all (·.1.isSome)=true:=by rfl)(br:(Eo TK).filterMap (·.1)=ks:=by rfl)(eZ:RP=false:=by decide)(he:starEach (e::es) X.env=(false,Eb)::starEach es X.env:=by rfl)(aH:((L6 (starEach (e::es) X.env)).any (·.1)||(backToKw pos TK).any (·.1.isNone))=false:=by rfl) :
  PE X (.Call A6 (e::es) kws pos) (tCallK sp gV E t tk):=by
 intro a5 s σ H Q I h;refine wpAny_Call_Name_kw (V0 ?_ eZ);refine PySem.W.callWith_KW (h₀:=X.base) I.ok.mod.kin hk ak (thn SN λus s1 ⟨vs,H1,I1,r,q⟩=>?_) aH he;refine thn (hkw pos a5 s1 σ H1 _ I1 q) λws s2 ⟨zs,H2,I2,rz,q2⟩=>⟨I2.kIn,?_⟩;rw[br];exact run_fnk F hr hb hx I2 r rz q2
end
structure zam(N P:Ng)(sc:Scope):Prop where
 kind:sc.kind=.function
 co:sc.isCoroutine=false
 gen:sc.isGenerator=false
 nd:N.Nodup
 pre:N.take P.length=P
 par:∀x∈P,sc.names.lookup x=some .local∨sc.names.lookup x=some .cell
 nofree:∀y∈sc.names,y.2≠.free
theorem bindL_out{kindOf:Str→Option NameKind}{x:Str}:∀{binds:List (Str×Value)} {m:Nd},(∀v,(x,v)∉binds)→bindL kindOf binds m x=m x
 |[],_,_=>rfl
 | (n,v)::r,m,h=>by
  unfold bindL;rw[bindL_out λw hw=>h w (QR hw)];split
  ·have:x≠n:=by rintro rfl;exact h v Qc
   simp[this]
  rfl
theorem bindC_out{kindOf:Str→Option NameKind}{x:Str}:∀{binds:List (Str×Value)} {m:Nd},(∀v,(x,v)∉binds)→bindC kindOf binds m x=m x
 |[],_,_=>rfl
 |(n,v)::r,m,h=>by
  unfold bindC;rw[bindC_out λw hw=>h w (QR hw)];split
  ·rfl
  have:x≠n:=by rintro rfl;exact h v Qc
  simp[this]
theorem bindL_get{kindOf:Str→Option NameKind}{x:Str}{v:Value}:∀{P:Ng} {vs:Nj} {i:Nat} {m:Nd},P.Nodup→P[i]?=some x→vs[i]?=some v→kindOf x=some .local →
  bindL kindOf (P.zip vs) m x=some v
 |[],_,_,_,_,h,_,_=>by simp at h
 |_::_,[],_,_,_,_,h,_=>by simp at h
 |p::P,w::vs,0,m,nd,h1,h2,hk=>by simp at h1 h2;subst h1;subst h2;show bindL kindOf ((p,w)::P.zip vs) m p=_;unfold bindL;rw[bindL_out λv hv=>(Qt.mp nd).1 (A7 hv).1,if_pos hk];simp
 |p::P,w::vs,i+1,m,nd,h1,h2,hk=>by show bindL kindOf ((p,w)::P.zip vs) m x=_;unfold bindL;exact bindL_get (i:=i) (Qt.mp nd).2 (HE h1) (HE h2) hk
theorem bindC_get{kindOf:Str→Option NameKind}{x:Str}{v:Value}:∀{P:Ng} {vs:Nj} {i:Nat} {m:Nd},P.Nodup→P[i]?=some x→vs[i]?=some v→kindOf x≠some .local →
  bindC kindOf (P.zip vs) m x=some v
 |[],_,_,_,_,h,_,_=>by simp at h
 |_::_,[],_,_,_,_,h,_=>by simp at h
 |p::P,w::vs,0,m,nd,h1,h2,hk=>by simp at h1 h2;subst h1;subst h2;show bindC kindOf ((p,w)::P.zip vs) m p=_;unfold bindC;rw[bindC_out λv hv=>(Qt.mp nd).1 (A7 hv).1,if_neg hk];simp
 |p::P,w::vs,i+1,m,nd,h1,h2,hk=>by show bindC kindOf ((p,w)::P.zip vs) m x=_;unfold bindC;exact bindC_get (i:=i) (Qt.mp nd).2 (HE h1) (HE h2) hk
def start(N:Ng)(vs:List V):St:=vs.map some++List.replicate (N.length-vs.length) none
def cxOf(CX:CXT)(P:Nk)(w:Nl)(K:Na)(mg:Nd)(base:Nn)(N:Ng)(qual:Str)(scope:Scope)(f:Nb)(cd:Value)(A:Np)(outer:List Env)(s:Ni)(H:Hp)(E:XK):Cx where
 prog:=P
 w:=w
 K:=K
 mg:=mg
 base:=base
 A:=A.deeper (SC cd)
 N:=N
 s₀:=s
 H₀:=H
 env:=envOfC qual scope s.heap.objs.size f cd
 outer:=outer
 stack:=envOfC qual scope s.heap.objs.size f cd::outer
 ex:=[]
 calm:=true
 fn:=λ_=>true
 pn:=[]
 xe:=λe s'=>BM (A.deeper (SC cd)) (leaving (SC cd) e) (λ_ qp=>CX outer H s E e qp) (λe' qp=>CX outer H s E e' qp) s'
def cell_has{sc:Scope}{n:Nat}{x:Str}(h:sc.names.lookup x=some .cell):∃c,(cellsFrom n sc.names []).lookup x=some c:=by have q:=PySem.W.cellsFrom_some sc.names n [] P4;exact Option.isSome_iff_exists.mp q
def inv_start{CX:CXT}{P:Nk}{w:Nl}{K:Na}{mg:Nd}{base:Nn}{N ps:Ng}{qual:Str}{scope:Scope}{f:Nb}{cd:Value}{A:Np}{outer:List Env}{s s1:Ni}{H:Hp}{E:XK}{us:Nj}{vs:List V}(S:Vs scope)(hd:A.handled=none)(e0:Bb H)(hl:vs.length=ps.length)(r:Vn us)(x:InCallC s s.heap.objs.size (bindL (SC cd).kindOf LL λ_=>none) (cellsFrom Rj scope.names []) (bindC (SC cd).kindOf LL λ_=>none) s1) :
  Inv (yd cd) [] On H s1:=by
 have aH:ps.length≤N.length:=by have:=congrArg List.length S.pre;rw[Zo]at this;lia
 obtain⟨h1,tk,rfl,hk⟩:=x.done;have noA:∀b:Addr,b∉(yd cd).ex:=λb z=>absurd (show b∈([]:List Addr) from z) HA;refine⟨⟨e0.mod,S.kind,rfl,rfl,Rf,λy z c h1 h2=>?_,λy hy=>?_,λy c _ h=>?_,λ_=>hd,Around.frames_deeper e0.frames,.inr ⟨rfl,rfl⟩,λb z=>absurd z (noA b),e0.bs,e0.bsz,λb _ _=>noA b,λb z=>absurd z (noA b),e0.funs,e0.frf⟩,
  rfl,e0.bare,Un.kept hk,⟨_,x.toInCall.ns,λi y v h1 h2 h3=>?_⟩,λy c h=>⟨_,x.cell y c h⟩,e0.hok.fresh Rf,λy c h=>?_,λp hp=>absurd (show p∈([]:List (Addr×Obj)) from hp) HA,e0.hok.kept hk,?_⟩
 ·exact name_of_addr x.apart (Wu h1) (Wu h2)
 ·have hy:scope.names.lookup y=some .cell∨scope.names.lookup y=some .free:=hy;rcases hy with hy|hy
  ·exact cell_has hy
  exact absurd rfl (S.nofree _ (Wu hy))
 ·exact Ud ye
 ·have hi:i < vs.length:=by
   unfold start at h2;by_cases hi:i<vs.length
   ·exact hi
   rw[Xa xT]at h2;rw[List.getElem?_replicate]at h2;split at h2<;>cases h2
  have ha:vs[i]?=some v:=by
   unfold start at h2;rw[List.getElem?_append_left xT,Qk]at h2;cases e:vs[i]? with
   |none=>rw[e]at h2;cases h2
   |some a=>rw[e]at h2;cases h2;rfl
  obtain⟨u,hu,rv⟩:=r.get ha;have hp:ps[i]?=some y:=by rw[←S.pre,List.getElem?_take_of_lt (by exact zar7 ‹_› ‹_›)];exact h1
  have ndP:ps.Nodup:=by rw[←S.pre];exact S.nd.sublist (Uy _ _)
  refine⟨u,rv,?_⟩;rcases S.par y (Yb hp) with k|k
  ·exact .inl ⟨k,bindL_get ndP hp hu k⟩
  obtain⟨c,e⟩:=cell_has (n:=s.heap.objs.size+1) k;refine .inr ⟨Rq k,c,e,?_⟩;have q:=x.cell y c e;rw[bindC_get ndP hp hu (by show scope.names.lookup y≠_;rw[k];decide)]at q;exact q
 ·exact e0.hok.fresh (Ud ye)
 unfold start;show _=N.length;rw[Za,Qa,Uw];lia
def fn_of{CX:CXT}{P:Nk}{w:Nl}{K:Na}{mg:Nd}{base:Nn}{k:Nat}{f:Nb}{name qual:Str}{params:Arguments}{body:List Stmt}{scope:Scope}{dV kV doc pm cdv ct oc:Value}{an od:Option Addr}{osl:Array Tr}{N ps:Ng}{sp:Sp}(lk:K.lookup f=some ⟨oc,od,.func (JO ct),osl⟩)(az:JX cdv qual=true)(S:Vs scope)(len:∀vs H Q E,sp vs H Q E→vs.length=ps.length)(bz:∀ (A:Np) (outer:List Env) (s:Ni) (H:Hp) (vs:List V) (Q:VK) (E:XK),Y4 (A.deeper (SC cdv))→sp vs H Q E →
   ∃t,PSs (yd cdv) body t∧t {nx:=λ_ H'=>Q .non H',rt:=Q} On H) :
  FnOk P w K mg base CX (k+1) f (JO ct) ps sp:=by
 refine⟨len,λA outer s H args us vs Q E hr e0 hb r bA=>?_⟩;have hl:=len _ _ _ _ bA;have KX:K.In s.heap:=e0.mod.kin.keeps λb o e=>(e0.bs b o e).1;have lim:s.heap.NoLimit:=e0.mod.nolimit.keeps λb o e=>(e0.bs b o e).1;have dL:∀y∈ps.zip us,scope.names.lookup y.1=some .local∨(scope.names.lookup y.1=some .cell∧((cellsFrom Rj scope.names []).lookup y.1).isSome=true):=λ⟨n,v⟩ hy=>by
  rcases S.par n (A7 hy).1 with q|q
  ·exact .inl q
  exact .inr ⟨q,PySem.W.cellsFrom_some _ _ _ (Rq q)⟩
 refine codeAny_call_function hr.depth (KX _ _ lk) rfl S.co S.gen rfl (PySem.W.codeRec_of KX az) (hb _ _ _ _ (wpAny_newFunctionEnv_cells S.kind dL λenv he s1 x=>?_));subst he;refine⟨lim.keeps x.toInCall.keep,codeAny_func ?_⟩;obtain⟨t,ht,hq⟩:=bz A outer s H vs Q E (hr.deeper _) bA;have I:MD [] On H s1:=inv_start S hr.hd e0 hl r x;refine wpAny_mono (ht [] s1 On H _ I hq) (λfl s' hs=>?_) λe s' hs=>hs;have fin:∀{σ':St} {H':Hp} {v:V} {u:Value},MD [] σ' H' s'→US u→Q v H'→DZ s':=
  λ{σ' H' v u} J rv q=>⟨v,H',J.os,J.bare,J.base,J.hok,rv,q⟩
 cases fl with
 |ret u=>obtain⟨v,σ',H',J,rv,q⟩:=hs;exact fin J rv q
 |next=>obtain⟨σ',H',J,q⟩:=hs;exact fin (v:=V.non) (u:=Value.none) J rfl q
 |brk=>obtain⟨_,_,_,q⟩:=hs;exact False.elim q
 |cont=>obtain⟨_,_,_,q⟩:=hs;exact False.elim q
section
variable{X:Cx}{x:Str}{p pos:Pos}{e:Expr}{es:Nv}{t:TA}{id T:String}{r:List V→Hp→VK→Prop}
def tCB(r:List V→Hp→VK→Prop)(t:TA):TE:=λ σ H Q=>t σ H λvs H1=>r vs H1 Q
def zak(hc:YJ Ca r)(hg:Vm x)(hm:X.mg x=none)(hv:bootBuiltins x=some Ca)(ha:K4 (e::es) t)(hn:x ≠ "__name__" :=by decide)(eZ:RP=false:=by decide)(he:starEach (e::es) X.env=(false,Eb)::starEach es X.env:=by rfl)(aH:(L6 SH).any (·.1)=false:=by rfl):Z9 (.Call A6 (e::es) [] pos) (tCB r t):=by intro a5 s σ H Q I h;refine wpAny_Call_Name_kw (BN hv ?_ hn eZ);exact PyProof.Rows.callWith_builtin1 (thn SN λus s1 ⟨vs,H1,I1,r1,q1⟩=>hc a5 s1 σ H1 vs us Q I1 r1 q1) he aH
def zbc(hc:YJ CY r)(hg:Vm x)(hm:X.mg x=none)(hv:bootBuiltins x=some CY)(ha:K4 (e::es) t)(hn:x ≠ "__name__" :=by decide)(eZ:RP=false:=by decide)(he:starEach (e::es) X.env=(false,Eb)::starEach es X.env:=by rfl)(aH:(L6 SH).any (·.1)=false:=by rfl):Z9 (.Call A6 (e::es) [] pos) (tCB r t):=by intro a5 s σ H Q I h;refine wpAny_Call_Name_kw (BN hv ?_ hn eZ);exact Ui (thn SN λus s1 ⟨vs,H1,I1,r1,q1⟩=>hc a5 s1 σ H1 vs us Q I1 r1 q1) he aH
end
section
variable{κ:Type}[DecidableEq κ]
def valV(kvs:S1 (κ×V))(k:κ):Option V:=(kvs.find? λkv=>decide (kv.1=k)).map (·.2)
def putK(kvs:S1 (κ×V))(k:κ)(v:V):List (κ×V):=
 if(kvs.any λkv=>decide (kv.1=k))=true then kvs.map (λkv=>if kv.1=k then(kv.1,v) else kv) else kvs++[(k,v)]
def dropK(kvs:S1 (κ×V))(k:κ):List (κ×V):=kvs.filter λkv=>decide (kv.1≠k)
def zcj{p:κ×V}{r:List (κ×V)}{k:κ}(e:p.1=k):valV (p::r) k=some p.2:=by simp[valV,Kc,e]
def zbl{p:κ×V}{r:List (κ×V)}{k:κ}(e:¬p.1=k):valV (p::r) k=valV r k:=by simp[valV,Kc,e]
theorem ziq(k:κ):∀kvs:List (κ×V),(kvs.any λkv=>decide (kv.1=k))=(J5 k).isSome
 |[]=>rfl
 |p::r=>by
  rw[Xl];by_cases e:p.1=k
  ·simp only[zcj e,decide_eq_true e,Bool.true_or,Option.isSome_some]
  rw[zbl e,decide_eq_false e,Bool.false_or];exact ziq k r
def zez(kvs:S1 (κ×V))(k:κ)(v:V):(UE k v).length≤kvs.length+1:=by
 unfold putK;split
 ·rw[Qa];exact FA _
 rw[Za,Qy,Uh];exact Qf _
def zeg{kvs:List (κ×V)}{k:κ}(v:V)(h:J5 k=none):UE k v=kvs++[(k,v)]:=by unfold putK;rw[ziq,h];exact if_neg HH
def RelO.isSome_eq(r:RelO o u):o.isSome=u.isSome:=by
 cases o with
 |none=>cases u with
  |none=>rfl
  |some _=>exact(show False from r).elim
 |some _=>cases u with
  |none=>exact(show False from r).elim
  |some _=>rfl
def RelO.getD(r:RelO o u)(rd:RelV d d'):RelV (o.getD d) (u.getD d'):=by
 cases o with
 |none=>cases u with
  |none=>exact rd
  |some _=>exact(show False from r).elim
 |some _=>cases u with
  |none=>exact(show False from r).elim
  |some _=>exact r
def KV.val{kvs:List (κ×V)}{vs:List (κ×Value)}(r:UC vs)(k:κ):RelO (J5 k) (valueAt vs k):=by
 unfold KV at r;induction r with
 |nil=>exact True.intro
 | @cons p q ps qs h t ih=>
  obtain⟨h1,h2⟩:=h;by_cases e:p.1=k
  ·have e':q.1=k:=h1.symm.trans e;have b:valueAt (q::qs) k=some q.2:=by simp[valueAt,Kc,e']
   rw[zcj e,b];exact h2
  have e':¬ q.1=k:=λz=>e Ed;have b:valueAt (q::qs) k=valueAt qs k:=by simp[valueAt,Kc,e']
  rw[zbl e,b];exact ih
def KV.any(r:UC vs)(k:κ):(kvs.any λkv=>decide (kv.1=k))=vs.any λkv=>decide (kv.1=k):=by
 unfold KV at r;induction r with
 |nil=>rfl
 |cons h t ih=>rw[Xl,Xl,ih,h.1]
def KV.repl(r:UC vs)(k:κ)(ry:YC u) :
  KV (kvs.map λkv=>if kv.1=k then(kv.1,y) else kv) (vs.map λkv=>if kv.1=k then(kv.1,u) else kv):=by
 unfold KV at r ⊢;induction r with
 |nil=>exact .nil
 |@cons p q ps qs h t ih=>
  rw[Qn,Qn];refine .cons ?_ ih;obtain⟨h1,h2⟩:=h;by_cases e:p.1=k
  ·rw[if_pos e,if_pos xU];exact⟨h1,ry⟩
  rw[if_neg e,if_neg (λz=>e Ed)];exact⟨h1,h2⟩
def KV.put(r:UC vs)(k:κ)(ry:YC u):KV (UE k y) (stored vs k u):=by
 unfold putK stored;rw[r.any k];by_cases e:(vs.any λkv=>decide (kv.1=k))=true
 ·rw[if_pos e,if_pos e];exact r.repl k ry
 rw[if_neg e,if_neg e];exact Paired.snoc r ⟨rfl,ry⟩
def KV.drop{kvs:List (κ×V)}{vs:List (κ×Value)}(r:UC vs)(k:κ):KV (NL k) (without vs k):=by
 unfold KV at r ⊢;unfold dropK without;induction r with
 |nil=>exact .nil
 | @cons p q ps qs h t ih=>
  obtain⟨h1,h2⟩:=h;rw[List.filter_cons,List.filter_cons];by_cases e:p.1=k
  ·have a:¬ decide (p.1≠k)=true:=by simp[e]
   have b:¬decide (q.1≠k)=true:=by simp[h1.symm.trans e]
   rw[if_neg a,if_neg b];exact ih
  have e':¬ q.1=k:=λz=>e Ed;have a:decide (p.1≠k)=true:=by simp[e]
  have b:decide (q.1≠k)=true:=by simp[e']
  rw[if_pos a,if_pos b];exact .cons ⟨h1,h2⟩ ih
def KV.length{kvs:List (κ×V)}{vs:List (κ×Value)}(r:UC vs):kvs.length=vs.length:=Zr r
def dropK_le(kvs:S1 (κ×V))(k:κ):(NL k).length≤kvs.length:=Wh _ _
end
def zji(r:Fa u):(Bm w).is k u=true:=by
 cases k with
 |inl i=>obtain⟨t,e⟩:=(show ∃t,u=BJ t from r);subst e;exact mixKind_int P w i t
 |inr x=>obtain⟨t,e⟩:=(show ∃t,u=U8 t from r);subst e;exact zhd P w x t
theorem items_are:∀{ks:List Key} {us:Nj},Vals yg us→ItemsAre Ck ks us
 |[],_,r=>by rw[Jj]at r;cases r;exact .nil
 |k::ks,_,r=>by
  rw[Qn]at r;cases r with
  |cons h t=>exact .cons (zji h) (items_are t)
abbrev KT(H:Hp):List (List Key×V)→List (List Key×Addr×Value)→Prop:=Paired λp q=>p.1=q.1∧H q.2.1=some y6∧DT q.2.2
def KT.val{H:Hp}{kvs:List (List Key×V)}{xs:List (List Key×Addr×Value)}(r:Vu xs)(k:List Key):RelO (J5 k) ((atKey xs k).map (·.2)):=by
 induction r with
 |nil=>exact True.intro
 | @cons p q ps qs h t ih=>
  obtain⟨h1,_,h2⟩:=h;by_cases e:p.1=k
  ·have e':q.1=k:=h1.symm.trans e;have b:atKey (q::qs) k=some q.2:=by simp[atKey,Kc,e']
   rw[zcj e,b];exact h2
  have e':¬ q.1=k:=λz=>e Ed;have b:atKey (q::qs) k=atKey qs k:=by simp[atKey,Kc,e']
  rw[zbl e,b];exact ih
def KT.repl(r:Vu xs)(k:List Key)(ry:YC u) :
  KT H (kvs.map λkv=>if kv.1=k then(kv.1,y) else kv) (IC (putAt k u)):=by
 induction r with
 |nil=>exact .nil
 |@cons p q ps qs h t ih=>
  rw[Qn,Qn];refine .cons ?_ ih;obtain⟨h1,h2,h3⟩:=h;unfold putAt;by_cases e:p.1=k
  ·rw[if_pos e,if_pos xU];exact⟨h1,h2,ry⟩
  rw[if_neg e,if_neg (λz=>e Ed)];exact⟨h1,h2,h3⟩
def KT.put(r:Vu xs)(k:List Key)(hb:H b=some LU)(ry:YC u) :
  KT H (UE k y) (storedH xs k b u):=by
 have e:(kvs.any λkv=>decide (kv.1=k))=(atKey xs k).isSome:=by rw[ziq,(r.val k).isSome_eq,Option.isSome_map]
 unfold putK storedH;rw[e];by_cases q:(atKey xs k).isSome=true
 ·rw[if_pos q,if_pos q];exact r.repl k ry
 rw[if_neg q,if_neg q];exact Paired.snoc r ⟨rfl,hb,ry⟩
def KT.keeps(r:Vu xs)(ht:∀b ys,H b=some Ir→H' b=some Ir):KT H' kvs xs:=
 Paired.mapP r λ_ _ z=>⟨z.1,ht _ _ z.2.1,z.2.2⟩
section
variable{P:Nk}{w:Nl}{H:Hp}{h:Nn}{a:Nb}
def rd_of(ok:WV h)(e:BT u):YL u:=e.ok ok
def zjs(ok:WV h)(e:BT RO):kvs.length≤sizeLine∧(a==sysModules)=false∧∃vs,UC vs∧h.DictOf Ck a vs:=
 show YL RO from rd_of ok e
def dk_of(ok:WV h)(e:H a=some RO):kvs.length≤sizeLine∧(a==sysModules)=false∧∃vs,UC vs∧h.DictOf Ck a vs:=zjs ok (Rq e)
def zhi(ok:WV h)(e:H a=some (.tup yg)):(Ey Ck).is h ks a:=by obtain⟨_,a7,r,o,h1,h2,n,h3⟩:=(show YL (.tup yg) from ok a _ e);exact⟨o,a7.toArray,n,h1,h2,h3,by simpa using items_are r⟩
def dt_rd(ok:WV h)(e:BT La):kvs.length≤sizeLine∧(a == sysModules)=false ∧
  ∃xs,Vu xs∧h.DictOfH (Ey Ck) a xs:=by
 obtain⟨z,y,xs,r,o,es,ep,h1,h2,h3,h4,h5⟩:=(show YL La from rd_of ok e);refine⟨z,y,xs,r,o,es,ep,h1,h2,h3,h4,λx hx=>?_,h5⟩;have all:∀{l:List (List Key×V)} {m:List (List Key×Addr×Value)},KT H l m→∀x∈m,(Ey Ck).is h x.1 x.2.1:=by
  intro l m q;induction q with
  |nil=>intro x hx;exact nomatch hx
  |@cons p q ps qs hq t ih=>
   intro x hx;rcases Qi.mp hx with e|hx
   ·subst e;exact zhi ok (by rw[←hq.1];exact hq.2.1)
   exact ih x hx
 exact all r x hx
def dt_of(ok:WV h)(e:H a=some La):kvs.length≤sizeLine∧(a==sysModules)=false ∧
  ∃xs,Vu xs∧h.DictOfH (Ey Ck) a xs:=dt_rd ok (Rq e)
def DGet(H:Hp)(a:Nb)(y:V)(r:Option V):Prop:=
 (∃kvs k,BT RO∧y=kV k∧r=J5 k)∨∃kvs k b,BT La∧y=.ref b∧H b=some LU∧r=J5 k
def DPut(H:Hp)(a:Nb)(y v:V)(H':Hp):Prop:=
 (∃kvs k,H a=some RO∧y=kV k∧kvs.length<sizeLine∧H'=ZR a (.dK yf)) ∨
 ∃kvs k b,H a=some La∧y=.ref b∧H b=some LU∧kvs.length<sizeLine∧H'=ZR a (.dT yf)
def DGet.k{H:Hp}{a:Nb}{kvs:List (Key×V)}{k:Key}(e:H a=some RO):Bp a (kV k) (J5 k):=.inl ⟨kvs,k,Rq e,rfl,rfl⟩
def DGet.t{H:Hp}{a b:Nb}{kvs:List (List Key×V)}{k:List Key}(e:H a=some La)(eb:H b=some LU):Bp a EK (J5 k):=.inr ⟨kvs,k,b,Rq e,rfl,eb,rfl⟩
def DPut.k{H:Hp}{a:Nb}{kvs:List (Key×V)}{k:Key}{v:V}(e:H a=some RO)(hl:kvs.length<sizeLine):DPut H a (kV k) v (ZR a (.dK yf)):=.inl ⟨kvs,k,e,rfl,hl,rfl⟩
def DPut.t{H:Hp}{a b:Nb}{kvs:List (List Key×V)}{k:List Key}{v:V}(e:H a=some La)(eb:H b=some LU)(hl:kvs.length<sizeLine) :
  DPut H a EK v (ZR a (.dT yf)):=.inr ⟨kvs,k,b,e,rfl,eb,hl,rfl⟩
variable{X:Cx}{a5:Nh}{σ:St}{s:Ni}{y v:V}{u r:Value}{o:Option V}{A:Np}{E:Nc}
def Inv.big(I:Ro):sysModules<s.heap.objs.size:=by have h:mainGlobals<s.heap.objs.size:=(I.mod.glob.keeps I.bk).lt;exact Uk HH h
def d_getItem(hu:A.units+1<cLine)(I:Ro)(g:Bp a y IQ)(ry:YC u)(h:∀w' s',ZA H s'→US w'→Q w' s') :
  wpAny HU A (xV Sg u) Q E s:=by
 rcases g with⟨kvs,k,e,ey,l⟩|⟨kvs,k,b,e,ey,eb,l⟩
 ·subst ey;obtain⟨z,hd,vs,rel,dd⟩:=Bk e;obtain⟨w',hw,aX⟩:=RelO.some_of (v:=v) (o:=valueAt vs k) (by rw[l];exact rel.val k);exact wpAny_getItem_of E5 dd.mapOf hw (h w' _ Su aX)
 subst ey;cases(show u=Value.ref b from ry);obtain⟨z,hd,xs,rel,dd⟩:=J6 e;obtain⟨w',hw,aX⟩:=RelO.some_of (v:=v) (o:=(atKey xs k).map (·.2)) (by rw[l];exact rel.val k);obtain⟨p,hp,cr⟩:=Kl.mp hw;refine wpAny_getItem_heap Ti AR dd hp ?_;rw[cr];exact h w' _ Su aX
def d_in(hu:A.units+1<cLine)(I:Ro)(g:AH)(ry:YC u)(h:∀s',ZA H s'→Q (.bool o.isSome) s') :
  wpAny HU A (compareOp .In u Sg) Q E s:=by
 rcases g with⟨kvs,k,e,ey,l⟩|⟨kvs,k,b,e,ey,eb,l⟩
 ·subst ey;obtain⟨z,hd,vs,rel,dd⟩:=Bk e;refine wpAny_in_of E5 hd dd.mapOf ?_;rw[←(rel.val k).isSome_eq,←l];exact h _ Su
 subst ey;cases(show u=Value.ref b from ry);obtain⟨z,hd,xs,rel,dd⟩:=J6 e;refine wpAny_in_heap Ti AR hd dd ?_;have q:=(rel.val k).isSome_eq;rw[Option.isSome_map]at q;rw[←q,←l];exact h _ Su
def d_notIn(hu:A.units+1<cLine)(I:Ro)(g:AH)(ry:YC u)(h:∀s',ZA H s'→Q (Oi (!o.isSome)) s') :
  wpAny HU A (compareOp .NotIn u Sg) Q E s:=by
 rcases g with⟨kvs,k,e,ey,l⟩|⟨kvs,k,b,e,ey,eb,l⟩
 ·subst ey;obtain⟨z,hd,vs,rel,dd⟩:=Bk e;refine wpAny_notIn_of E5 hd dd.mapOf ?_;rw[←(rel.val k).isSome_eq,←l];exact h _ Su
 subst ey;cases(show u=Value.ref b from ry);obtain⟨z,hd,xs,rel,dd⟩:=J6 e;refine wpAny_notIn_heap Ti AR hd dd ?_;have q:=(rel.val k).isSome_eq;rw[Option.isSome_map]at q;rw[←q,←l];exact h _ Su
def zjt(I:Ro)(mu:Mut (H a))(hs:JP h')(he:∃q,h'.get? a=some q)(new:Z1 (ZR a ob) h' a ob) :
  Inv X a5 σ (ZR a ob) {s with heap:=h',toks:=t'}:=
 I.write (x:=a) (e:=a) mu Sf (λb q hb z=>(AN hb).trans z) he new
end
section
variable{X:Cx}{a5:Nh}{σ:St}{H:Hp}{s:Ni}{a:Nb}{y v:V}{u r:Value}{o:Option V}{A:Np}{E:Nc}
def dk_new(z:kvs.length≤sizeLine)(hd:(a==sysModules)=false)(rel:UC vs)(dd:h'.DictOf Ck a vs) :
  zbp P w H' h' a RO:=⟨z,hd,vs,rel,dd⟩
def d_setItem(hu:A.units+1<cLine)(I:Ro)(g:DPut H a y v H')(ry:YC u)(rv:US r)(h:∀s',ZA H' s'→Q () s') :
  wpAny HU A (setItem Sg u r) Q E s:=by
 rcases g with⟨kvs,k,e,ey,l,eH⟩|⟨kvs,k,b,e,ey,eb,l,eH⟩
 ·subst ey eH;obtain⟨z,hd,vs,rel,dd⟩:=dk_of I.hok e;have hz:vs.length≤sizeLine:=by rw[←rel.length];exact z
  have hl:(UE k v).length≤sizeLine:=by have:=zez kvs k v;exact Zi ‹_› ‹_›
  refine wpAny_setItem_pairs (hsz:=hz) E5 dd λh' ik hs=>h _ ?_;have he:∃q,h'.get? a=some q:=let⟨q,_,_,hq,_⟩:=ik;⟨q,hq⟩;exact zjt I (by rw[e];exact True.intro) hs he (dk_new hl hd (rel.put k rv) ik)
 subst ey eH;cases(show u=Value.ref b from ry);obtain⟨z,hd,xs,rel,dd⟩:=dt_of I.hok e;have hz:xs.length≤sizeLine:=by rw[←Zr rel];exact z
 have hl:(UE k v).length≤sizeLine:=by have:=zez kvs k v;exact Zi ‹_› ‹_›
 refine wpAny_setItem_heap (hsz:=hz) Ti AR dd λh' ik hs=>h _ ?_;obtain⟨q,es,ep,hq,h2,h3,h4,_,h5⟩:=ik;refine zjt I (by rw[e];exact True.intro) hs ⟨q,hq⟩ ⟨hl,hd,_,(rel.put k eb rv).keeps λc ys ec=>?_,q,es,ep,hq,h2,h3,h4,h5⟩;rw[zag (za8 ec e (λz=>nomatch z))];exact ec
variable{kvs:List (Key×V)}{k:Key}
def d_delItem(I:Ro)(e:H a=some RO)(ry:Fa u)(l:(J5 k).isSome=true)(h:∀s',ZA (ZR a (.dK (NL k))) s'→Q () s') :
  wpAny HU A (delItem Sg u) Q E s:=by
 obtain⟨z,hd,vs,rel,dd⟩:=dk_of I.hok e;refine wpAny_delItem_slot dd.typeIs HH PySem.F.slot_dict_delitem
  (call_meetsIn PySem.F.slot_dict_delitem dd.typeIs PySem.F.entry_dict_delitem (PySem.F.args_dict_delitem_2 _ _) (meets_dict_delitem_pairs Lj a E5) ⟨vs,dd,by rw[←rel.length];exact z,by rw[←(rel.val k).isSome_eq];exact l,λh' ik hs=>h _ ?_⟩)
 have he:∃q,h'.get? a=some q:=let⟨q,_,_,hq,_⟩:=ik;⟨q,hq⟩;exact zjt I (by rw[e];exact True.intro) hs he (dk_new (Zi (dropK_le kvs k) z) hd (rel.drop k) ik)
def d_len(I:Ro)(e:BT RO)(h:∀t s',ZA H s'→Q (.int kvs.length t) s'):ZG A (call (.builtin "len") [Sg]) Q E s:=by obtain⟨z,hd,vs,rel,dd⟩:=Bk e;refine call_len_dict hd dd (by rw[←rel.length];rw[sizeLine_eq]at z;lia) ?_;rw[←rel.length];exact h _ _ Su
def NoSl(i:Expr):Prop:=∀ov iv,subscripted i false ov iv=operate [ov,iv] (xV ov iv)
end
def subD_of{prog:Nk}{w:Nl}{A:Np}{E:Nc}{s:Ni}{env:Env}{value slice:Expr}{pos:Pos}{T id:String}{Q:Nc}(hl:typeLookup CY "__getitem__" = pure (HW Ca))(hs:NoSl slice)(h:ZE A (eval value env) (λo s₁=>ZE A (eval slice env) (λi s₂=>s₂.TypeIs o T∧ZE A (xV o i) Q E s₂) E s₁) E s) :
  wpAny Rb A (Ci (.Subscript value slice pos)) Q E s:=by
 refine Subscript_ (N0 (λo s₁ h₁=>XO (λi s₂ h₂=>?_) λ_ _ x=>x) λ_ _ x=>x);obtain⟨hT,h₂⟩:=h₂;unfold subscriptTail;refine wpAny_bind ?_;rw[getitemInPython_of_ne hT.not_modules];refine wpAny_bind (Bq hl ?_);have fin:ZE A (subscripted slice false o i) (λr s₃=>ZE A (letTemporaryGo value o r >>= λ_=>pure r) Q E s₃) E s₂:=by rw[hs o i];exact wpAny_operating (XQ (λr s₃ h₃=>wpAny_bind (wpAny_letTemporaryGo (RK h₃))) λ_ _ x=>x)
 first
  |exact wpAny_pure (wpAny_bind fin)
  |exact wpAny_bind (wpAny_pure (wpAny_bind fin))
  |exact wpAny_bind fin
def dict_typeIs(I:Ro)(g:AH):s.TypeIs Sg "dict" :=by
 rcases g with⟨kvs,k,e,_,_⟩|⟨kvs,k,b,e,_,_,_⟩
 ·obtain⟨_,_,vs,_,dd⟩:=Bk e;exact dd.typeIs
 obtain⟨_,_,xs,_,dd⟩:=J6 e;exact dd.typeIs
inductive RDG(x y:V)(H:Hp)(Q:VK):Prop
 |mk(a:Nb)(v:V)(e:x=.ref a)(g:DGet H a y (some v))(q:Q v H)
inductive RDI(x y:V)(H:Hp)(R:Option V→Prop):Prop
 |mk(a:Nb)(o:Option V)(e:x=.ref a)(g:DGet H a y o)(q:R o)
inductive RDP(x y v:V)(H:Hp)(N:Hp→Prop):Prop
 |mk(a:Nb)(H4:Hp)(e:x=.ref a)(p:DPut H a y v H4)(q:N H4)
def tDGet(td ty:TE):TE:=λ σ H Q=>td σ H λx H1=>ty σ H1 λy H2=>RDG x y H2 Q
def tDIn(ty td:TE):TE:=λ σ H Q=>ty σ H λy H1=>td σ H1 λx H2=>RDI x y H2 λo=>Q (.bl o.isSome) H2
def tDNotIn(ty td:TE):TE:=λ σ H Q=>ty σ H λy H1=>td σ H1 λx H2=>RDI x y H2 λo=>Q (.bl (!o.isSome)) H2
def sDPut(td ty tv:TE):TS:=λD σ H=>tv σ H λv H1=>td σ H1 λx H2=>ty σ H2 λy H3=>RDP x y v H3 (D.nx σ)
def sDAug(td ty tv:TE)(rd:V→V→Hp→VK→Prop):TS:=λD σ H=>td σ H λx H1=>ty σ H1 λy H2=>∃a v,x=.ref a∧DGet H2 a y IQ ∧
 tv σ H2 λy2 H3=>rd v y2 H3 λz H4=>∃H5,DPut H4 a y z H5∧WW H5
def sDDel(td ty:TE):TS:=λD σ H=>td σ H λx H1=>ty σ H1 λy H2=>∃a kvs k,x=.ref a∧H2 a=some RO∧y=kV k∧(J5 k).isSome=true∧WW (QI a (.dK (NL k)))
section
variable{X:Cx}{o i e value:Expr}{pos aP tpos:Pos}{td ty tv:TE}
def pe_dget(hu:X.A.units+1<cLine)(ho:ET)(hi:OZ)(hs:NoSl i):Z9 yb (tDGet td ty):=by intro a5 s σ H Q I h;refine subD_of PySem.F.slot_dict_getitem.lookup hs (thn SV λu s1 ⟨x,H1,I1,rx,q1⟩=>thn LB λiv s2 ⟨y,H2,I2,ry,a,v,ex,g,q2⟩=>?_);subst ex;obtain rfl:u=Value.ref a:=rx;exact⟨dict_typeIs I2 g,Gk ry λw' s3 I3 aX=>⟨v,H2,I3,aX,q2⟩⟩
def zff(hu:X.A.units+1<cLine)(hi:OZ)(ho:ET):PC X .In i o (tDIn ty td):=by intro a5 s σ H Q I h;refine thn Li λiv s1 ⟨y,H1,I1,ry,q1⟩=>thn CT λu s2 ⟨x,H2,I2,rx,a,ov,ex,g,q2⟩=>?_;subst ex;obtain rfl:u=Value.ref a:=rx;exact d_in hu I2 g ry λs3 I3=>⟨.bl ov.isSome,H2,I3,rfl,q2⟩
def zcc(hu:X.A.units+1<cLine)(hi:OZ)(ho:ET):PC X .NotIn i o (tDNotIn ty td):=by intro a5 s σ H Q I h;refine thn Li λiv s1 ⟨y,H1,I1,ry,q1⟩=>thn CT λu s2 ⟨x,H2,I2,rx,a,ov,ex,g,q2⟩=>?_;subst ex;obtain rfl:u=Value.ref a:=rx;exact d_notIn hu I2 g ry λs3 I3=>⟨.bl (!ov.isSome),H2,I3,rfl,q2⟩
def zb2(hu:X.A.units+1<cLine)(ho:ET)(hi:OZ)(hv:xJ)(hs:swapsWith value (HW xW) pos.line X.env=pure false) :
  PS X (.Assign [xW] value pos) (sDPut td ty tv):=by
 intro a5 s σ H D I h;refine wpAny_Assign_Subscript (thn yc λr s1 ⟨v,H1,I1,rv,q1⟩=>thn CT λu s2 ⟨x,H2,I2,rx,q2⟩=>thn (hi a5 s2 σ H2 _ I2 q2) λiv s3 ⟨y,H3,I3,ry,a,H4,ex,g,q3⟩=>?_) hs;subst ex;obtain rfl:u=Value.ref a:=rx;exact d_setItem hu I3 g ry rv λs4 I4=>⟨σ,H4,I4,q3⟩
def ps_daug(hu:X.A.units+1<cLine)(ho:ET)(hi:OZ)(hv:xJ)(jq:InOp X op rd)(ha:∀ov iv new,augStore i ov iv new=(do holding [new,ov,iv] (setItem ov iv new);release [new,ov,iv] [];pure .next)):KO (.AugAssign y9 op value pos) (sDAug td ty tv rd):=by
 intro a5 s σ H D I h;refine wpAny_AugAssign_SubscriptAny (thn SV λu s1 ⟨x,H1,I1,rx,q1⟩=>thn LB λiv s2 ⟨y,H2,I2,ry,a,v,ex,g,q2⟩=>?_) ha;subst ex;obtain rfl:u=Value.ref a:=rx;exact Gk ry λw' s3 I3 aX=>thn (hv a5 s3 σ H2 _ I3 q2) λw2 s4 ⟨y2,H3,I4,ry2,q3⟩=>thn (jq a5 s4 σ H3 v y2 w' w2 _ I4 aX ry2 q3) λw3 s5 ⟨z,H4,I5,rz,H5,g5,q4⟩=>d_setItem hu I5 g5 ry rz λs6 I6=>⟨σ,H5,I6,q4⟩
def ps_ddel(ho:ET)(hi:OZ):KO (.Delete [y9] pos) (sDDel td ty):=by intro a5 s σ H D I h;refine wpAny_Delete (wpAny_deleteEach_cons (wpAny_delete_Subscript (thn SV λu s1 ⟨x,H1,I1,rx,q1⟩=>thn LB λiv s2 ⟨y,H2,I2,ry,a,kvs,k,ex,e,ey,l,q2⟩=>?_)));subst ex ey;obtain rfl:u=Value.ref a:=rx;exact d_delItem I2 e ry l λs3 I3=>wpAny_deleteEach_nil ⟨σ,_,I3,q2⟩
def dk_empty(h:Nn)(hb:sysModules<h.objs.size):UZ H (h.push {cls:=.type "dict",data:=.dict #[]}) h.objs.size (.dK []):=
 ⟨SW,EY (Zm (Zj hb)),[],.nil,Heap.DictOf.new h⟩
def dt_empty(h:Nn)(hb:sysModules<h.objs.size):UZ H (h.push {cls:=.type "dict",data:=.dict #[]}) h.objs.size (.dT []):=
 ⟨SW,EY (Zm (Zj hb)),[],.nil,_,#[],0,To,⟨rfl,rfl,rfl⟩,rfl,rfl,Zk⟩
def tDNewK:TE:=λ_ H Q=>∀p,H p=none→Q TB (ZR p (.dK []))
def tDNewT:TE:=λ_ H Q=>∀p,H p=none→Q TB (ZR p (.dT []))
def zei:Z9 (.Dict [] [] pos) tDNewK:=λa5 s σ H Q I h=>wpAny_Dict_empty ⟨HY,_,I.laid (a:=s.heap.objs.size) (o:=.dK []) (t':=s.toks) (λ_ _ q=>WF q) Rf AS,rfl,h _ (S0 Rf)⟩
def pe_dnewT:Z9 (.Dict [] [] pos) tDNewT:=λa5 s σ H Q I h=>wpAny_Dict_empty ⟨HY,_,I.laid (a:=s.heap.objs.size) (o:=.dT []) (t':=s.toks) (λ_ _ q=>WF q) Rf (dt_empty s.heap I.big),rfl,h _ (S0 Rf)⟩
end
def tPairs:List (TE×TE)→St→Hp→(List (V×V)→Hp→Prop)→Prop
 |[],_,H,Q=>Q [] H
 |(tk,tv)::r,σ,H,Q=>tk σ H λx H1=>tv σ H1 λy H2=>tPairs r σ H2 λps H3=>Q ((x,y)::ps) H3
abbrev VV:List (V×V)→List (Value×Value)→Prop:=Paired λp q=>RelV p.1 q.1∧DT q.2
def PPs(X:Cx)(pos:Pos)(keys:S1 (Option Expr))(values:Nv)(trs:S1 (TE×TE)):Prop:=
 ∀(a5:Nh) (s:Ni) (σ:St) (H:Hp) (Q:List (V×V)→Hp→Prop),ZA H s→tPairs trs σ H Q →
  wpAny HU X.A (evalPairs (pairTrees keys values X.env pos)) (λvs s'=>∃ps H',ZA H' s'∧VV ps vs∧Q ps H') X.xe s
def pps_nil:GV [] [] []:=λa5 s σ H Q I h=>pairTrees_nil_walk ⟨[],H,I,.nil,h⟩
def pps_cons(hk:Z9 k tk)(hv:Z9 v tv)(hr:GV ks vs trs) :
  PPs X pos (some k::ks) (v::vs) ((tk,tv)::trs):=λa5 s σ H Q I h=>
 pairTrees_cons_walk (thn (hk a5 s σ H _ I h) λu s1 ⟨x,H1,I1,rx,q1⟩=>thn (hv a5 s1 σ H1 _ I1 q1) λw2 s2 ⟨y,H2,I2,ry,q2⟩=>thn (hr a5 s2 σ H2 _ I2 q2) λws s3 ⟨ps,H3,I3,rel,q3⟩=>⟨(x,y)::ps,H3,I3,EJ ⟨rx,ry⟩ rel,q3⟩)
def zia(kvs more:S1 (Key×V)):List (Key×V):=more.foldl (λag kv=>putK ag kv.1 kv.2) kvs
def KV.merge:∀{more:List (Key×V)} {rs:List (Key×Value)} {kvs:List (Key×V)} {vs:List (Key×Value)},KV more rs→UC vs→KV (zia kvs more) (merged vs rs):=by
 intro more rs kvs vs r;unfold KV at r;induction r generalizing kvs vs with
 |nil=>intro q;exact q
 |@cons p q ps qs h t ih=>
  intro r0;have e:KV A8 (stored vs q.1 q.2):=by have:=r0.put p.1 h.2;rw[←h.1];exact this
  exact ih e
theorem zfi:∀(more kvs:S1 (Key×V)),(zia kvs more).length≤kvs.length+more.length
 |[],kvs=>by show kvs.length≤kvs.length+0;exact Qf _
 |p::r,kvs=>by have h1:=zfi r A8;have h2:=zez kvs p.1 p.2;show(zia A8 r).length≤_;rw[Qy];lia
theorem zii:∀{kvs:List (Key×V)} {ws:List (Value×Value)},VV (kvs.map λkv=>(kV kv.1,kv.2)) ws→∃rs,Carries Ck ws rs∧UC rs
 |[],_,r=>by rw[Jj]at r;cases r;exact⟨[],True.intro,.nil⟩
 |p::kvs,_,r=>by
  rw[Qn]at r;cases r with
  |@cons a b as bs h t=>obtain⟨rs,c,q⟩:=zii (P:=P) (w:=w) t;obtain⟨b1,b2⟩:=b;exact⟨(p.1,b2)::rs,⟨zji h.1,rfl,c⟩,.cons ⟨rfl,h.2⟩ q⟩
def tDisp(trs:S1 (TE×TE)):TE:=λ σ H Q=>∀p,H p=none→tPairs trs σ (ZR p (.dK [])) λps H2=>H2 p=some (.dK [])∧∃kvs:List (Key×V),ps=kvs.map (λkv=>(kV kv.1,kv.2))∧kvs.length≤15∧Q TB (QI p (.dK (zia [] kvs)))
def pe_disp(h:GV keys values trs)(ak:keys.all (·.isSome)=true)(hl:keys.length=values.length)(h0:keys≠[])(h15:keys.length≤15):Z9 (.Dict keys values pos) (tDisp trs):=by
 intro a5 s σ H Q I q;have hn:=I.hok.fresh (Qf s.heap.objs.size);have I1:=I.laid (a:=s.heap.objs.size) (o:=.dK []) (h':=s.heap.push {cls:=.type "dict",data:=.dict #[]}) (t':=s.toks) (λ_ _ q=>WF q) Rf AS;refine wpAny_Dict_walk (knd:=WM X.w) ak hl h0 h15 (thn (h a5 _ σ _ _ I1 (q _ hn)) λws s2 ⟨ps,H2,I2,rel,e,kvs,ep,lk,q2⟩=>?_);subst ep;obtain⟨rs,c,rk⟩:=zii (P:=X.prog) (w:=X.w) rel;obtain⟨z,hd,vs0,r0,dd⟩:=dk_of I2.hok e;cases r0;refine⟨rs,c,dd,λh' ik hs=>⟨HY,_,?_,rfl,q2⟩⟩;have hz:(zia [] kvs).length≤sizeLine:=by have h1:=zfi kvs [];rw[Uh]at h1;rw[sizeLine_eq];lia
 have he:∃q,h'.get? s.heap.objs.size=some q:=let⟨q,_,_,hq,_⟩:=ik;⟨q,hq⟩;exact zjt I2 (by rw[e];exact True.intro) hs he (dk_new hz hd (rk.merge .nil) ik)
structure M1(X:Cx)(o:Expr)(m:Str)(apos:Pos)(e:Expr)(cpos:Pos):Prop where
 base:attributeBase o m X.env xh=eval o X.env
 few:((AT (starEach [e] X.env)).all (λx=>!x.1)&&(backToKw cpos (keywordEach [] X.env)).all (λx=>x.1.isSome)
  && decide (([e]:List Expr).length+([]:List Keyword).length+(if([]:List Keyword).isEmpty then 0 else 1)<30))=true
 line:(apos.endLine==cpos.line)=true
 trees:backTo cpos (starEach [e] X.env)=[(false,Eb)]
structure M2(X:Cx)(o:Expr)(m:Str)(apos:Pos)(e f:Expr)(cpos:Pos):Prop where
 base:attributeBase o m X.env xh=eval o X.env
 few:((AT (starEach [e,f] X.env)).all (λx=>!x.1)&&(backToKw cpos (keywordEach [] X.env)).all (λx=>x.1.isSome)
  && decide (([e,f]:List Expr).length+([]:List Keyword).length+(if([]:List Keyword).isEmpty then 0 else 1)<30))=true
 line:(apos.endLine==cpos.line)=true
 trees:backTo cpos (starEach [e,f] X.env)=[(false,Eb),(false,Rr f)]
def IsD(H:Hp)(a:Nb):Prop:=(∃kvs,BT RO)∨∃kvs,BT La
def isD_at(I:Ro)(d:IsD H a) :
  s.TypeIs Sg "dict" ∧ (∀b,Value.ref a=.ref b→∃ob,s.heap.get? b=some ob∧ob.dict=none)∧(a==sysModules)=false:=by
 rcases d with⟨kvs,e⟩|⟨kvs,e⟩
 ·obtain⟨_,hd,vs,_,dd⟩:=Bk e;refine⟨dd.typeIs,λb q=>?_,hd⟩;cases q;obtain⟨ob,_,_,h1,h2,_⟩:=dd;exact⟨ob,h1,h2.2.1⟩
 obtain⟨_,hd,xs,_,dd⟩:=J6 e;refine⟨dd.typeIs,λb q=>?_,hd⟩;cases q;obtain⟨ob,_,_,h1,h2,_⟩:=dd;exact⟨ob,h1,h2.2.1⟩
section
variable{X:Cx}{a5:Nh}{σ:St}{H:Hp}{s:Ni}{a:Nb}{y d:V}{u r:Value}{o:Option V}{A:Np}{E:Nc}
def d_get1(hu:A.units+1<cLine)(I:Ro)(g:AH)(ry:YC u)(h:∀w' s',ZA H s'→RelV (o.getD .non) w'→Q w' s') :
  wpAny HU A (call (.builtin "dict.get") [Sg,u]) Q E s:=by
 rcases g with⟨kvs,k,e,ey,l⟩|⟨kvs,k,b,e,ey,eb,l⟩
 ·subst ey;obtain⟨z,hd,vs,rel,dd⟩:=Bk e;refine call_meetsIn Uu dd.typeIs Kk (M6 _) (meets_dict_get Lj a E5 hd) ⟨_,dd.mapOf,h _ _ Su ?_⟩;rw[l];exact(rel.val k).getD rfl
 subst ey;cases(show u=Value.ref b from ry);obtain⟨z,hd,xs,rel,dd⟩:=J6 e;refine call_meetsIn Uu dd.typeIs Kk (M6 _) (meetsH_dict_get (Ey Lj) a b hd) ⟨Ti,k,xs,AR,dd,h _ _ Su ?_⟩;rw[l];exact(rel.val k).getD rfl
def d_get2(hu:A.units+1<cLine)(I:Ro)(g:AH)(ry:YC u)(rd:RelV d r)(h:∀w' s',ZA H s'→RelV (o.getD d) w'→Q w' s') :
  wpAny HU A (call (.builtin "dict.get") [Sg,u,r]) Q E s:=by
 rcases g with⟨kvs,k,e,ey,l⟩|⟨kvs,k,b,e,ey,eb,l⟩
 ·subst ey;obtain⟨z,hd,vs,rel,dd⟩:=Bk e;refine call_meetsIn Uu dd.typeIs Kk (Mr _) (meets_dict_get_default Lj a E5 hd r) ⟨_,dd.mapOf,h _ _ Su ?_⟩;rw[l];exact(rel.val k).getD rd
 subst ey;cases(show u=Value.ref b from ry);obtain⟨z,hd,xs,rel,dd⟩:=J6 e;refine call_meetsIn Uu dd.typeIs Kk (Mr _) (meetsH_dict_get_default (Ey Lj) a b hd r) ⟨Ti,k,xs,AR,dd,h _ _ Su ?_⟩;rw[l];exact(rel.val k).getD rd
def tDGet1(td ty:TE):TE:=λ σ H Q=>td σ H λx H1=>∃a,x=.ref a∧IsD H1 a∧ty σ H1 λy H2=>∃o,DGet H2 a y o∧Q (o.getD .non) H2
def tDGet2(td ty tx:TE):TE:=λ σ H Q=>td σ H λx H1=>∃a,x=.ref a∧IsD H1 a∧ty σ H1 λy H2=>tx σ H2 λz H3=>∃o,DGet H3 a y o∧Q (o.getD z) H3
end
section
variable{X:Cx}{o e f:Expr}{apos cpos:Pos}{td ty tx:TE}
def zjc(hu:X.A.units+1<cLine)(ho:ET)(he:Z9 e ty)(m:M1 X o "get" apos e cpos):Z9 (.Call (.Attribute o "get" apos) [e] [] cpos) (tDGet1 td ty):=by intro a5 s σ H Q I h;refine YU (thn SV λu s1 ⟨x,H1,I1,rx,a,ex,d,q1⟩=>?_);subst ex;obtain rfl:u=Value.ref a:=rx;obtain⟨t1,t2,_⟩:=isD_at I1 d;refine⟨t1,t2,?_⟩;rw[m.trees];exact Kt rfl (Calls.evalArgs_plain (Js (thn AA λiv s2 ⟨y,H2,I2,ry,ov,g,q2⟩=>Ks (d_get1 hu I2 g ry λw' s3 I3 aX=>⟨_,H2,I3,aX,q2⟩))))
def pe_dget2(hu:X.A.units+1<cLine)(ho:ET)(he:Z9 e ty)(hf:Z9 f tx)(m:M2 X o "get" apos e f cpos):Z9 (.Call (.Attribute o "get" apos) [e,f] [] cpos) (tDGet2 td ty tx):=by intro a5 s σ H Q I h;refine YU (thn SV λu s1 ⟨x,H1,I1,rx,a,ex,d,q1⟩=>?_);subst ex;obtain rfl:u=Value.ref a:=rx;obtain⟨t1,t2,_⟩:=isD_at I1 d;refine⟨t1,t2,?_⟩;rw[m.trees];exact Kt rfl (Calls.evalArgs_plain (Js (thn AA λiv s2 ⟨y,H2,I2,ry,q2⟩=>Js (thn (hf a5 s2 σ H2 _ I2 q2) λfv s3 ⟨z,H3,I3,rz,ov,g,q3⟩=>Ks (d_get2 hu I3 g ry rz λw' s4 I4 aX=>⟨_,H3,I4,aX,q3⟩)))))
end
end L2
namespace HT
open PySem PyProof.Rows
def eqAt_int(A:Np)(s:Ni)(a:Int)(t:Tok)(c:Int)(u:Tok):∃e,UF (Po a) (S5 c u) e∧(e=true↔a=c):=
 ⟨(a==c),Fb t c u,HA⟩
def rcLt_int(A:Np)(s:Ni)(a:Int)(t:Tok)(c:Int)(u:Tok)(prog:Nk)(w:Nl)(E:Nc)(Q:Nc)(h:Q (.bool (decide (a<c))) s) :
  wpAny Rb A (xm (Po a) (S5 c u)) Q E s:=
 (PyProof.Rows.lt_int h:ZE A (Ap (Po a) (S5 c u)) Q E s)
section
variable{prog:Nk}{w:Nl}{A:Np}{E:Nc}{s:Ni}
def sIx(n d:Nat):Option Int→Nat
 |none=>d
 |some v=>if v<0 then(v+(n:Int)).toNat else min v.toNat n
def sIx_nat(n d k:Nat):sIx n d (some (k:Int))=min k n:=by show(if(k:Int)<0 then((k:Int)+(n:Int)).toNat else min (k:Int).toNat n)=min k n;rw[if_neg HB,Yv]
end
end HT
namespace L2
open PySem PySem.Spec PyProof.Rows
abbrev TO:=St→Hp→(Option Int→Hp→Prop)→Prop
def PO(X:Cx)(e:Option Expr)(t:TO):Prop:=
 ∀(a5:Nh) (s:Ni) (σ:St) (H:Hp) (Q:Option Int→Hp→Prop),ZA H s→t σ H Q →
  wpAny HU X.A (evalPart e X.env) (λu s'=>∃o H',ZA H' s'∧IsPart u o∧Q o H') X.xe s
def tNoPart:TO:=λ_ H Q=>Q none H
inductive RPt(x:V)(R:Int→Prop):Prop
 |mk(i:Int)(e:x=.int i)(q:R i)
def tPart(t:TE):TO:=λ σ H Q=>t σ H λx H1=>RPt x λi=>Q xn H1
section
variable{X:Cx}{e:Expr}{te:TE}{lo hi:Option Expr}{tl th:TO}{pos p2:Pos}
def zdm:PO X none tNoPart:=by intro a5 s σ H Q I h;rw[evalPart_none];exact wpAny_pure ⟨none,H,I,.none,h⟩
def zck(h:Cj):PO X (HW e) (tPart te):=by intro a5 s σ H Q I hw;rw[evalPart_some];refine thn (LO _ hw) λu s1 ⟨x,H1,I1,r1,q1⟩=>?_;obtain⟨i,rfl,q⟩:=q1;obtain⟨t,rfl⟩:=r1;exact⟨xn,H1,I1,Po i,q⟩
def SlR(X:Cx)(r:V→Option Int→Option Int→Hp→VK→Prop):Prop:=
 ∀(a5:Nh) (s:Ni) (σ:St) (H:Hp) (x:V) (v vl vu:Value) (lo hi:Option Int) (sl:Nb) (Q:VK),ZA H s→WY v→s.heap.IsSliceOf sl vl vu .none→IsPart vl lo→IsPart vu hi→r x lo hi H Q →
  ∃T id,typeLookup CY "__getitem__" = pure (HW Ca)∧s.TypeIs v T∧ZF (xV v (HK sl)) Lu X.xe s
def tSl(r:V→Option Int→Option Int→Hp→VK→Prop)(te:TE)(tl th:TO):TE:=λ σ H Q=>te σ H λx H1=>tl σ H1 λl H2=>th σ H2 λu H3=>r x l u H3 Q
def zcs(hr:SlR X r)(he:Cj)(hl:PO X lo tl)(hu:PO X hi th):Z9 (LR e A9) (tSl r te tl th):=by intro a5 s σ H Q I h;refine Subscript_ (thn Sm λv s1 ⟨x,H1,I1,r1,q1⟩=>wpAny_Slice (thn (hl a5 s1 σ H1 _ I1 q1) λvl s2 ⟨l,H2,I2,pl,q2⟩=>thn (hu a5 s2 σ H2 _ I2 q2) λvu s3 ⟨u,H3,I3,pu,q3⟩=>?_));rw[evalPart_none];refine wpAny_pure ?_;have I4:ZA H3 {s3 with heap:=s3.heap.push {cls:=.type "slice",data:=.fields #[vl,vu,.none]}}:=I3.kept (t':=s3.toks) λb ob q=>WF q;obtain⟨T,id,hT,ht,hg⟩:=hr a5 {s3 with heap:=s3.heap.push {cls:=.type "slice",data:=.fields #[vl,vu,.none]}} σ H3 x v vl vu l u s3.heap.objs.size Q I4 r1 (Heap.IsSliceOf.new ..) pl pu q3;show ZF (subscriptTail e A9 v za) Lu X.xe {s3 with heap:=s3.heap.push {cls:=.type "slice",data:=.fields #[vl,vu,.none]}};exact tail_any (ops:=[za,v]) ht hT hg (by with_unfolding_all rfl)
def cutV(xs:List V)(lo hi:Option Int):List V:=(xs.drop (QS 0 lo)).take (QS xs.length hi-QS 0 lo)
def zb4(xs:List V)(lo hi:Option Int):(N8 lo hi).length≤xs.length:=by unfold cutV;rw[Zo,Xv];lia
def ixN(n:Nat)(i:Int):Option Nat:=if 0≤i then(if i<n then some i.toNat else none) else if -(n:Int)≤i then some (i+n).toNat else none
def atI{α:Type}(xs:List α)(i:Int):Option α:=(Nz i).bind λj=>xs[j]?
def ixN_seq(h:ixN n i=some j):seqIndex? i n=some j∧j<n∧-(n:Int)≤i∧i<n:=by
 unfold ixN at h;by_cases h0:0≤i
 ·rw[Sx h0]at h;by_cases h1:i<n
  ·rw[Sx h1]at h;have e:i.toNat=j:=Qo h;exact⟨by rw[seqIndex_of h0 h1,e],HB,HB,h1⟩
  rw[if_neg h1]at h;cases h
 rw[So h0]at h;by_cases h1:-(n:Int)≤i
 ·rw[Sx h1]at h;have e:(i+n).toNat=j:=Qo h;exact⟨by rw[seqIndex_neg HB h1,e],HB,h1,HB⟩
 rw[if_neg h1]at h;cases h
def atI_get{α:Type}{xs:List α}{i:Int}{v:α}(h:atI xs i=some v):∃j,seqIndex? i xs.length=some j∧xs[j]?=some v∧j<xs.length∧-(xs.length:Int)≤i∧i<xs.length:=by
 unfold atI at h;cases e:Nz i with
 |none=>rw[e]at h;cases h
 |some j=>rw[e]at h;obtain⟨h1,h2,h3,h4⟩:=ixN_seq e;exact⟨j,h1,h,h2,h3,h4⟩
def za0{α:Type}{xs:List α}{j:Nat}{v:α}(h:xs[j]?=some v):atI xs (j:Int)=some v:=by
 have hj:j<xs.length:=(TJ h).1;have e:Nz (j:Int)=some j:=by unfold ixN;rw[if_pos HB,if_pos (by exact zar9 ‹_›)];simp
 unfold atI;rw[e];exact h
def PlainIx(b:Expr):Prop:=∀o i,subscripted b false o i=operate [o,i] (xV o i)
def IxR(X:Cx)(r:R2):Prop:=
 ∀(value slice:Expr) (a5:Nh) (s:Ni) (σ:St) (H:Hp) (x y:V) (v u:Value) (Q:VK),ZA H s→WY v→YC u→r x y H Q →
  subscripted slice false v u=operate [v,u] (xV v u)→ZF (subscriptTail value slice v u) Lu X.xe s
def MtR(X:Cx)(id:String)(r:V→List V→Hp→VK→Prop):Prop:=
 ∀(a5:Nh) (s:Ni) (σ:St) (H:Hp) (x:V) (xs:List V) (v:Value) (us:Nj) (Q:VK),ZA H s→WY v→WG us→r x xs H Q →
  wpAny HU X.A (FC (v::us)) Lu X.xe s
variable{a b:Expr}{ta tb:TE}
def zaz(hr:IxR X r)(ha:Lz)(hb:IP)(hs:PlainIx b):Z9 (LR a b) xS:=by intro a5 s σ H Q I h;exact Subscript_ (N7 h λv u s2 x y H2 I2 rx ry q=>hr a b a5 s2 σ H2 x y v u Q I2 rx ry q (hs _ _))
inductive RrIxL(K:Na)(x:V)(y:V)(H:Hp)(Q:VK):Prop
 |mk(p:_)(xs:_)(i:_)(v:_)(h0:x=.ref p)(h1:y=.int i)(h2:SqL K H p xs)(h3:atI xs i=some v)(h4:Q v H)
def rIxL(K:Na):R2:=λx y H Q=>RrIxL K x y H Q
inductive RrIxT(K:Na)(x:V)(y:V)(H:Hp)(Q:VK):Prop
 |mk(p:_)(xs:_)(i:_)(v:_)(h0:x=.ref p)(h1:y=.int i)(h2:SqT K H p xs)(h3:atI xs i=some v)(h4:Q v H)
def rIxT(K:Na):R2:=λx y H Q=>RrIxT K x y H Q
inductive RrIxS(x:V)(y:V)(H:Hp)(Q:VK):Prop
 |mk(z:_)(i:_)(c:_)(h0:x=.str z)(h1:y=.int i)(h2:z.length≤sizeLine)(h3:atI z.cps.toList i=some c)(h4:Q (.str ⟨#[c]⟩) H)
def rIxS:R2:=λx y H Q=>RrIxS  x y H Q
def za6:IxR X (rIxL X.K):=by
 intro value slice a5 s σ H x y v u Q I rx ry h hs;obtain⟨p,xs,i,z,rfl,rfl,hq,he,q⟩:=h;cases rx;obtain⟨t,rfl⟩:=ry;obtain⟨a7,r,pl,hz⟩:=I.list hq;obtain⟨j,h1,h2,h3,h4,h5⟩:=atI_get he;obtain⟨w,ew,aX⟩:=r.get h2;have hl:=r.length;have hn:=zgf;have fin:QF Q w s:=⟨z,H,I,aX,q⟩;by_cases h0:0≤i
 ·have hj:i.toNat=j:=by rw[seqIndex_of h0 h5]at h1;exact Qo h1
  exact item_listR pl.isList h0 HB (by rw[hj];simpa using ew) fin hs
 have hj:(i+(a7.toArray.size:Int)).toNat=j:=by rw[seqIndex_neg HB h4]at h1;rw[Qv,←hl];exact Qo h1
 exact subscriptTail_builtinR (x:=w) pl.isList.typeIs slot_list_getitem.lookup
  (wpAny_getItem_list_neg (Q:=λr s'=>r=w∧QF Q r s') pl.isList HB (by rw[Qv]<;>lia) HB (by rw[hj];simpa using ew) ⟨rfl,fin⟩) hs
def zbe:IxR X (rIxT X.K):=by
 intro value slice a5 s σ H x y v u Q I rx ry h hs;obtain⟨p,xs,i,z,rfl,rfl,hq,he,q⟩:=h;cases rx;obtain⟨t,rfl⟩:=ry;obtain⟨a7,r,pl,hz⟩:=I.tuple hq;obtain⟨j,h1,h2,h3,h4,h5⟩:=atI_get he;obtain⟨w,ew,aX⟩:=r.get h2;have hl:=r.length;have hn:=zgf;have fin:QF Q w s:=⟨z,H,I,aX,q⟩;exact subscriptTail_builtinR (x:=w) pl.typeIs slot_tuple_getitem.lookup
  (getItem_tuple (j:=j) (Q:=λr s'=>r=w∧QF Q r s') pl HB HB (by rw[Qv,←hl];exact h1) (HE ew) ⟨rfl,fin⟩) hs
def ix_str:IxR X rIxS:=by
 intro value slice a5 s σ H x y v u Q I rx ry h hs;obtain⟨z,i,c,rfl,rfl,hz,he,q⟩:=h;obtain⟨t,rfl⟩:=rx;obtain⟨t',rfl⟩:=ry;obtain⟨j,h1,h2,h3,h4,h5⟩:=atI_get he;have hl:z.cps.toList.length=z.length:=by simp[Str.length]
 rw[hl]at h1 h4 h5;have hn:=zgf;exact tail_any (typeIs_str s z t) slot_str_getitem.lookup (getItem_str (c:=c) (by have e1:decide (i < -(2 ^ 63:Int))=false:=decide_eq_false HB;have e2:decide (i≥2 ^ 63)=false:=decide_eq_false HB;rw[e1,e2,Bool.or_false]) (by rw[h1];simpa using h2) ⟨EB ⟨#[c]⟩,H,Su,⟨_,rfl⟩,q⟩) hs
def mapSeq_set(a7:Nj)(n j:Nat)(u:Value):Obj.mapSeq (·.setIfInBounds j u) {cls:=.type "list",data:=.seq a7.toArray n}={cls:=.type "list",data:=.seq (a7.set j u).toArray n}:=by simp[Obj.mapSeq]
def Inv.lst{a5:Nh}{σ:St}{H:Hp}{s:Ni}{p:Nb}{xs:List V}(I:Ro)(h:H p=some Tj) :
  ∃(a7:Nj) (n:Nat),WG a7∧s.heap.get? p=some {cls:=.type "list",data:=.seq a7.toArray n}∧xs.length≤sizeLine:=by
 obtain⟨z,a7,n,r,e⟩:=KF h;exact⟨a7,n,r,e,z⟩
def Inv.lstUpd{s:Ni}{xs ys:List V}{a7 its':Nj}{n n':Nat}{f:Obj→Obj}(I:Ro)(h:H p=some Tj)(ho:s.heap.get? p=some {cls:=.type "list",data:=.seq a7.toArray n})(hf:f {cls:=.type "list",data:=.seq a7.toArray n}={cls:=.type "list",data:=.seq its'.toArray n'})(r:Y3 its')(hz:ys.length≤sizeLine)(t:Nat) :
  Inv X a5 σ (Lc p ys) {s with heap:=s.heap.update p f,toks:=t}:=by
 have e:(s.heap.update p f).get? p=some {cls:=.type "list",data:=.seq its'.toArray n'}:=by rw[Wq f ho (by rw[hf]<;>rfl),hf]
 exact I.write (x:=p) (e:=p) (by rw[h];trivial) Sf (λb u hb q=>(X0 Pq).trans q) ⟨_,e⟩ ⟨hz,its',n',r,e⟩
inductive RrSetL(o:V)(i:V)(v:V)(H:Hp)(Q:Hp→Prop):Prop
 |mk(p:_)(xs:_)(k:_)(j:_)(h0:o=.ref p)(h1:i=.int k)(h2:H p=some (.lst xs))(h3:ixN xs.length k=some j)(h4:Q (upd H p (.lst (xs.set j v))))
def rSetL:V→V→V→Hp→(Hp→Prop)→Prop:=λo i v H Q=>RrSetL  o i v H Q
def set_list:PSet X rSetL:=by
 intro a5 s σ H o i v ov iv u Q I ro ri rv h;obtain⟨p,xs,k,j,rfl,rfl,hp,hj,q⟩:=h;cases ro;obtain⟨t,rfl⟩:=ri;obtain⟨a7,n,r,ho,hz⟩:=I.lst hp;obtain⟨h1,h2,h3,h4⟩:=ixN_seq hj;have hl:=r.length;have hn:=zgf;have I':ZA (Lc p (xs.set j v)) {s with heap:=s.heap.update p (Obj.mapSeq (·.setIfInBounds j u))}:=
  I.lstUpd hp ho (mapSeq_set a7 n j u) (r.set rv j) (by rw[List.length_set];exact hz) s.toks
 by_cases h0:0≤k
 ·have hk:k.toNat=j:=by rw[seqIndex_of h0 h4]at h1;exact Qo h1
  exact PySem.W.ki_setAt ho h0 HB (by rw[Qv,←hl];exact h4) (by rw[hk];exact⟨_,I',q⟩)
 have hk:(k+(a7.toArray.size:Int)).toNat=j:=by rw[seqIndex_neg HB h3]at h1;rw[Qv,←hl];exact Qo h1
 exact PySem.W.ki_setBack ho HB (by rw[Qv,←hl];exact h3) HB (by rw[hk];exact⟨_,I',q⟩)
def slice_bounds(lo hi:Option Int)(n:Nat):(sliceBounds lo hi none n).1=((HT.sIx n 0 lo:Nat):Int)∧(sliceBounds lo hi none n).2.1=((HT.sIx n n hi:Nat):Int)∧(sliceBounds lo hi none n).2.2=1:=by
 refine⟨?_,?_,rfl⟩
 ·cases lo with
  |none=>simp[sliceBounds,HT.sIx]
  |some i=>
   simp only[sliceBounds,HT.sIx,Option.getD_none,show(1:Int)>0 by decide,if_true];by_cases h:i<0
   ·simp only[h,if_true]<;>lia
   simp only[h,if_false]<;>lia
 cases hi with
 |none=>simp[sliceBounds,HT.sIx]
 |some i=>
  simp only[sliceBounds,HT.sIx,Option.getD_none,show(1:Int)>0 by decide,if_true];by_cases h:i<0
  ·simp only[h,if_true]<;>lia
  simp only[h,if_false]<;>lia
def zix(a7:Nj)(lo hi:Option Int):slicePick a7.toArray lo hi none=((a7.drop (VG 0 lo)).take (VG a7.length hi-VG 0 lo)).toArray:=by obtain⟨h1,h2,h3⟩:=slice_bounds lo hi a7.toArray.size;unfold slicePick;rw[h1,h2,h3];simp only[sliceRange_one,pick_run,Qv]<;>rfl
end
section
variable{X:Cx}{a b:Expr}{ta tb:TE}{pos:Pos}
inductive RrSlL(K:Na)(x:V)(lo:Option Int)(hi:Option Int)(H:Hp)(Q:VK):Prop
 |mk(a:_)(xs:_)(h0:x=.ref a)(h1:SqL K H a xs)(h2:∀p,H p=none→Q (.ref p) (upd H p (.lst (cutV xs lo hi))))
def rSlL(K:Na):V→Option Int→Option Int→Hp→VK→Prop:=λx lo hi H Q=>RrSlL K x lo hi H Q
def zc9:SlR X (rSlL X.K):=by intro a5 s σ H x v vl vu lo hi sl Q I rx hs pl pu h;obtain⟨a,xs,rfl,hx,q⟩:=h;cases rx;obtain⟨a7,r,ht,hz⟩:=I.list hx;have ae:=r.length;refine⟨"list",_,slot_list_getitem.lookup,ht.isList.typeIs,K6 hs pl pu .none HA ?_ (by rw[Qv]<;>exact zfr ‹_› ‹_›)⟩;rw[zix,←ae];refine⟨HY,_,I.laid (t':=s.toks) (o:=.lst (N8 lo hi)) (λb ob q=>WF q) Rf ?_,rfl,EA⟩;exact⟨Zi (zb4 xs lo hi) hz,_,0,(r.drop (QS 0 lo)).take (QS xs.length hi-QS 0 lo),To⟩
def zc4:V→Bool
 |.non=>true
 |.bl _=>true
 |.int _=>true
 |.str _=>true
 |_=>false
def eqV:V→V→Bool
 |.non,.non=>true
 |.bl a,.bl b=>a==b
 |.bl a,.int b=>(if a then 1 else 0)==b
 |.int a,.bl b=>a==(if b then 1 else 0)
 |.int a,.int b=>a==b
 |.str a,.str b=>a==b
 |_,_=>false
def eqAt_V(ry:YC u)(rx:WY v)(fy:zc4 y=true)(fx:zc4 x=true):UF u v (eqV y x):=by
 cases y with
 |non=>
  cases ry;cases x with
  |non=>cases rx;exact SeqAt.EqAt.same _
  |bl b=>cases rx;exact SeqAt.EqAt.none_bool b
  |int b=>obtain⟨t,rfl⟩:=rx;exact SeqAt.EqAt.none_int b t
  |str b=>obtain⟨t,rfl⟩:=rx;exact SeqAt.EqAt.none_str b t
  |_=>exact absurd (show false=true from fx) Zh
 |bl a=>
  cases ry;cases x with
  |non=>cases rx;exact SeqAt.EqAt.bool_none a
  |bl b=>cases rx;exact SeqAt.EqAt.bool_bool a b
  |int b=>obtain⟨t,rfl⟩:=rx;exact SeqAt.EqAt.bool_int a b t
  |str b=>obtain⟨t,rfl⟩:=rx;exact SeqAt.EqAt.bool_str a b t
  |_=>exact absurd (show false=true from fx) Zh
 |int a=>
  obtain⟨t',rfl⟩:=ry;cases x with
  |non=>cases rx;exact SeqAt.EqAt.int_none a t'
  |bl b=>cases rx;exact SeqAt.EqAt.int_bool a t' b
  |int b=>obtain⟨t,rfl⟩:=rx;exact Fb t' b t
  |str b=>obtain⟨t,rfl⟩:=rx;exact SeqAt.EqAt.int_str a t' b t
  |_=>exact absurd (show false=true from fx) Zh
 |str a=>
  obtain⟨t',rfl⟩:=ry;cases x with
  |non=>cases rx;exact SeqAt.EqAt.str_none a t'
  |bl b=>cases rx;exact SeqAt.EqAt.str_bool a t' b
  |int b=>obtain⟨t,rfl⟩:=rx;exact SeqAt.EqAt.str_int a t' b t
  |str b=>obtain⟨t,rfl⟩:=rx;exact Ux a t' b t
  |_=>exact absurd (show false=true from fx) Zh
 |_=>exact absurd (show false=true from fy) Zh
def eqU(x:V)(u:Value):Bool:=match u with
 |.none=>eqV .non x
 |.bool b=>eqV xg x
 |.int i _=>eqV E2 x
 |.str z _=>eqV xo x
 |_=>false
def eqU_of(r:YC u)(f:zc4 y=true):eqU x u=eqV y x:=by
 cases y with
 |non=>cases r;rfl
 |bl b=>cases r;rfl
 |int i=>obtain⟨t,rfl⟩:=r;rfl
 |str z=>obtain⟨t,rfl⟩:=r;rfl
 |_=>exact absurd (show false=true from f) Zh
theorem zhs:∀{xs:List V} {us:Nj},WG us→xs.all zc4=true→us.any LV=xs.any λy=>eqV y x
 |_,_,.nil,_=>rfl
 |y::xs,u::us,.cons r t,f=>by rw[List.all_cons,Jh]at f;rw[Xl,Xl,eqU_of r f.1,zhs t f.2]
theorem zek(rx:WY v)(fx:zc4 x=true):∀{xs:List V} {us:Nj},WG us→xs.all zc4=true→∀u∈us,UF u v (eqU x u)
 |_,_,.nil,_=>λu hu=>by cases hu
 |y::xs,u::us,.cons r t,f=>λu' hu=>by
  rw[List.all_cons,Jh]at f;rcases Qi.mp hu with rfl|hu
  ·rw[eqU_of r f.1];exact eqAt_V r rx f.1 fx
  exact zek rx fx t f.2 u' hu
def inV(x:V)(xs:List V):Bool:=xs.any λy=>eqV y x
inductive RrIn(K:Na)(neg:Bool)(x:V)(y:V)(H:Hp)(Q:VK):Prop
 |mk(p:_)(xs:_)(h0:y=.ref p)(h1:(SqL K H p xs∨SqT K H p xs))(h2:zc4 x=true)(h3:xs.all zc4=true)(h4:Q (.bl (if neg then !inV x xs else inV x xs)) H)
def rIn(K:Na)(neg:Bool):R2:=λx y H Q=>RrIn K neg x y H Q
def op_in_seq:YQ (compareOp .In) (rIn X.K false):=by
 intro a5 s σ H x y v u Q I rx ry h;obtain⟨p,xs,rfl,hq,fx,fs,q⟩:=h;cases ry;rcases hq with hq|hq
 ·obtain⟨a7,r,pl,hz⟩:=I.list hq;refine SeqAt.in_listAt LV pl.isList (λw hw=>B5 xX) ⟨.bl _,H,I,rfl,?_⟩;rw[show a7.toArray.any LV=a7.any LV by simp,zhs r fs];exact q
 obtain⟨a7,r,pl,hz⟩:=I.tuple hq;refine SeqAt.in_tupleAt LV pl (λw hw=>B5 xX) ⟨.bl _,H,I,rfl,?_⟩;rw[show a7.toArray.any LV=a7.any LV by simp,zhs r fs];exact q
def zbm:YQ (compareOp .NotIn) (rIn X.K true):=by
 intro a5 s σ H x y v u Q I rx ry h;obtain⟨p,xs,rfl,hq,fx,fs,q⟩:=h;cases ry;rcases hq with hq|hq
 ·obtain⟨a7,r,pl,hz⟩:=I.list hq;refine SeqAt.notIn_listAt LV pl.isList (λw hw=>B5 xX) ⟨.bl _,H,I,rfl,?_⟩;rw[show a7.toArray.any LV=a7.any LV by simp,zhs r fs];exact q
 obtain⟨a7,r,pl,hz⟩:=I.tuple hq;refine SeqAt.notIn_tupleAt LV pl (λw hw=>B5 xX) ⟨.bl _,H,I,rfl,?_⟩;rw[show a7.toArray.any LV=a7.any LV by simp,zhs r fs];exact q
def zaw:YJ (.builtin "len") (λxs H Q=>Ex2 λp ys=>Aj3 (xs=[TB]) (EL∨xY) (Q EM H)):=by
 intro a5 s σ H xs us Q I r h;obtain⟨p,ys,rfl,hq,q⟩:=h;obtain⟨u,rfl,rx⟩:=vals1 r;cases rx;have hn:=zgf;rcases hq with hq|hq
 ·obtain⟨a7,r',pl,hz⟩:=I.list hq;have ae:=r'.length;exact Calls.call_len_list pl.isList (by simp only[Qv]<;>lia) ⟨EM,H,Su,⟨s.toks+1,by rw[Qv,ae]⟩,q⟩
 obtain⟨a7,r',pl,hz⟩:=I.tuple hq;have ae:=r'.length;exact len_tuple pl (by simp only[Qv]<;>lia) ⟨EM,H,Su,⟨s.toks+1,by rw[Qv,ae]⟩,q⟩
def call_len_str:YJ (.builtin "len") (λxs H Q=>Ex1 λz=>Aj3 (xs=[xo]) (z.length≤sizeLine) (Q (.int z.length) H)):=by intro a5 s σ H xs us Q I r h;obtain⟨z,rfl,hz,q⟩:=h;obtain⟨u,rfl,t,rfl⟩:=vals1 r;have hn:=zgf;exact len_str HB ⟨.int z.length,H,Su,⟨_,rfl⟩,q⟩
def zc7:YJ (.type "list") (λxs H Q=>Ex2 λp ys=>Aj3 (xs=[TB]) (EL∨xY) (∀l,H l=none→Q SO (Lc l ys))):=by
 intro a5 s σ H xs us Q I r h;obtain⟨p,ys,rfl,hq,q⟩:=h;obtain⟨u,rfl,rx⟩:=vals1 r;cases rx;have fin:∀(a7:Nj),Y3 a7→ys.length≤sizeLine→∀(h':Nn) (c':Nat),(∀b o',s.heap.get? b=some o'→h'.get? b=some o') →
   h'.get? s.heap.objs.size=some {cls:=.type "list",dict:=none,data:=.seq a7.toArray c',slots:=#[]}→QF Q HY {s with heap:=h'}:=λa7 r' hz h' c' kp e=>
  ⟨HY,_,I.laid (t':=s.toks) kp Rf (show Z1 _ h' _ vB from⟨hz,a7,c',r',e⟩),rfl,EA⟩
 rcases hq with hq|hq
 ·obtain⟨a7,r',pl,hz⟩:=I.list hq;have ae:=r'.length;obtain⟨o,ho,hc,n,hd⟩:=pl.isList;exact call_list_seq p Sf ho hc hd (λh' c' kp e=>DJ e) (by simp only[Qv]<;>exact zfr ‹_› ‹_›)
 obtain⟨a7,r',pl,hz⟩:=I.tuple hq;have ae:=r'.length;obtain⟨o,ho,hc,n,hd⟩:=pl;exact call_list_seq p (SJ rfl) ho hc hd (λh' c' kp e=>DJ e) (by simp only[Qv]<;>exact zfr ‹_› ‹_›)
def zj1:YJ (.type "tuple") (λxs H Q=>Ex2 λp ys=>Aj2 (xs=[TB]) ((Aj2 EL (∀l,H l=none→Q SO (ZR l Ir)))∨(Aj2 (VF p ys) (Q TB H)))):=by
 intro a5 s σ H xs us Q I r h;obtain⟨p,ys,rfl,h⟩:=h;obtain⟨u,rfl,rx⟩:=vals1 r;cases rx;rcases h with⟨hq,q⟩|⟨hq,q⟩
 ·obtain⟨a7,r',pl,hz⟩:=I.list hq;have ae:=r'.length;refine call_tuple_list pl.isList (λh' kp=>?_) (by simp only[Qv]<;>exact zfr ‹_› ‹_›);have I1:ZA H {s with heap:=h'}:=I.kept (t':=s.toks) kp;have I2:ZA (ZR h'.objs.size Ir) {s with heap:=h'.push {cls:=.type "tuple",data:=.seq a7.toArray}}:=
   I1.laid (t':=s.toks) (λb o e=>WF e) Rf (show Z1 _ _ _ Ir from⟨hz,a7,r',IsTup.new _ _⟩)
  exact⟨.ref h'.objs.size,_,I2,rfl,q _ LS⟩
 obtain⟨a7,r',pl,hz⟩:=I.tuple hq;exact call_tuple_same pl ⟨TB,H,I,rfl,q⟩
def tyV(K:Na)(T:String)(x:V)(H:Hp):Prop:=match x with
 |.str _=>T = "str"
 |.int _=>T = "int"
 | .ref p=>(T = "list" ∧ ∃ xs,YH p xs)∨(T = "tuple" ∧ ∃ o,K.lookup p=some o∧o.cls=.type "tuple" ∧ o.dict=none) ∨
   (T = "dict" ∧ ((∃kvs,H p=some RO)∨∃kvs,H p=some La))∨(T = "set" ∧ ∃S n,H p=some (.set S n))
 |_=>False
def tyV_is(I:Ro)(r:WY v)(ty:tyV X.K T x H) :
  s.TypeIs v T∧∀a,v=.ref a→∃ob,s.heap.get? a=some ob∧ob.dict=none:=by
 cases x with
 |str z=>obtain⟨t,rfl⟩:=r;cases(show T = "str" from ty);exact⟨typeIs_str s z t,λ_ e=>nomatch e⟩
 |int i=>obtain⟨t,rfl⟩:=r;cases(show T = "int" from ty);exact⟨typeIs_int s i t,λ_ e=>nomatch e⟩
 | ref p=>
  cases r;rcases ty with⟨rfl,xs,hq⟩|⟨rfl,o,hk,hc,hd⟩|⟨rfl,hk⟩|⟨rfl,S,n,hk⟩
  ·obtain⟨a7,_,pl,_⟩:=I.list hq;refine⟨pl.isList.typeIs,λa e=>?_⟩;cases e;obtain⟨o,n,e,c,hd,_⟩:=pl;exact⟨o,e,hd⟩
  ·refine⟨⟨o,xI p,hc⟩,λa e=>?_⟩;cases e;exact⟨o,xI _,hd⟩
  ·have z:∃ o,s.heap.get? p=some o∧o.ExactDict:=by
    rcases hk with⟨kvs,hk⟩|⟨kvs,hk⟩
    ·obtain⟨_,_,_,_,o,_,_,e,ex,_⟩:=KF hk;exact⟨o,e,ex⟩
    obtain⟨_,_,_,_,o,_,_,e,ex,_⟩:=KF hk;exact⟨o,e,ex⟩
   obtain⟨o,e,ex⟩:=z;refine⟨⟨o,e,ex.1⟩,λa e2=>?_⟩;cases e2;exact⟨o,e,ex.2.1⟩
  obtain⟨o,_,_,_,e,ex,_⟩:=KF hk;refine⟨⟨o,e,ex.1⟩,λa e2=>?_⟩;cases e2;exact⟨o,e,ex.2.1⟩
 |_=>exact False.elim ty
def tBM0(K:Na)(T:String)(r:V→List V→Hp→VK→Prop)(to:TE):TE:=λ σ H Q=>to σ H λx H1=>tyV K T x H1∧r x [] H1 Q
def tBM(K:Na)(T:String)(r:V→List V→Hp→VK→Prop)(to:TE)(t:TA):TE:=λ σ H Q=>to σ H λx H1=>tyV K T x H1∧t σ H1 λxs H2=>r x xs H2 Q
variable{o e:Expr}{es:Nv}{to:TE}{t:TA}{name:Str}{apos cpos:Pos}{T id:String}{r:V→List V→Hp→VK→Prop}
def pe_bm0(pa:PlainAttrs T)(slot:Slot T name id)(iJ:typeOf Ca=pure (.type "method_descriptor"))(hm:MtR X id r)(ho:Z9 o to)(gW:attributeBase o name X.env xh=eval o X.env:=by rfl)(gr:(apos.endLine==cpos.line)=true:=by rfl):Z9 (.Call AB [] [] cpos) (tBM0 X.K T r to):=by intro a5 s σ H Q I h;refine wpAny_Call_method0_late gW gr (thn SV λv s1 ⟨x,H1,I1,r1,ty,q1⟩=>?_);obtain⟨h1,h2⟩:=tyV_is I1 r1 ty;exact⟨T,id,pa,slot,iJ,h1,h2,Kt rfl (PySem.evalArgs_none (hm a5 s1 σ H1 x [] v [] Q I1 r1 .nil q1))⟩
def zf0(pa:PlainAttrs T)(slot:Slot T name id)(iJ:typeOf Ca=pure (.type "method_descriptor"))(hm:MtR X id r)(ho:Z9 o to)(ha:K4 (e::es) t)(gW:attributeBase o name X.env xh=eval o X.env:=by rfl)(ux:((AT (starEach (e::es) X.env)).all (λx=>!x.1) && (backToKw cpos (keywordEach [] X.env)).all (λx=>x.1.isSome)
   && decide ((e::es).length+([]:List Keyword).length+(if([]:List Keyword).isEmpty then 0 else 1)<30))=true:=by rfl)(gr:(apos.endLine==cpos.line)=true:=by rfl)(hs:starEach (e::es) X.env=(false,Eb)::starEach es X.env:=by rfl)(kJ:(AT SH).any (·.1)=false:=by rfl) :
  PE X (.Call AB (e::es) [] cpos) (tBM X.K T r to t):=by
 intro a5 s σ H Q I h;refine wpAny_Call_method_late gW ux gr rfl (thn SV λv s1 ⟨x,H1,I1,r1,ty,q1⟩=>?_);obtain⟨h1,h2⟩:=tyV_is I1 r1 ty;refine⟨T,id,pa,slot,iJ,h1,h2,?_⟩;have hA:=ha cpos a5 s1 σ H1 _ I1 q1;rw[hs]at hA ⊢;exact Kt (by show(false||(backTo cpos SH).any (·.1))=false;rw[kJ]<;>rfl) (Calls.evalArgs_plain (thn hA λus s2 ⟨vs,H2,I2,r2,q2⟩=>hm a5 s2 σ H2 x vs v us Q I2 r1 r2 q2))
def MtM(X:Cx)(id:String)(r:V→List V→Hp→VK→Prop):Prop:=
 ∀(a5:Nh) (s:Ni) (σ:St) (H:Hp) (x:V) (xs:List V) (v:Value) (us:Nj) (Q:VK),ZA H s→WY v→WG us→r x xs H Q →
  wpAny HU X.A (FC (v::us)) Lu X.xe s
end
theorem Vals.one:∀{x:V} {us:Nj},Vals [x] us→∃u,us=[u]∧WY u
 |_,_,.cons r .nil=>⟨_,rfl,r⟩
theorem Vals.zero:∀{us:Nj},Vals [] us→us=[]
 |_,.nil=>rfl
def Vals.dropLast{xs:List V}{us:Nj}(h:WG us):Vals xs.dropLast us.dropLast:=by
 induction h with
 |nil=>exact .nil
 |cons r t ih=>
  cases t with
  |nil=>exact .nil
  |cons q t'=>exact .cons r ih
def Vals.reverse{xs:List V}{us:Nj}(h:WG us):Vals xs.reverse us.reverse:=by
 induction h with
 |nil=>exact .nil
 |cons r t ih=>rw[List.reverse_cons,List.reverse_cons];exact Vals.append ih (SA r)
def erase_last{α:Type}(l:List α):l.eraseIdx (l.length - 1)=l.dropLast:=by
 induction l with
 |nil=>rfl
 | cons a r ih=>
  cases r with
  |nil=>rfl
  |cons b r=>
   have e:(a::b::r).length-1=((b::r).length-1)+1:=by have h1:(a::b::r).length=r.length+2:=rfl;have h2:(b::r).length=r.length+1:=rfl;assumption
   rw[e,List.eraseIdx_cons_succ,ih]
   all_goals rfl
section
variable{X:Cx}{a5:Nh}{σ:St}{H:Hp}{s:Ni}{l b:Nb}{xs ys zs:List V}
def Inv.lset{a7 its':Nj}{n:Nat}{f:Array Value→Array Value}{t':Nat}(I:Ro)(hH:H l=some Tj)(e:s.heap.get? l=some {cls:=.type "list",data:=.seq a7.toArray n})(hf:f a7.toArray=its'.toArray)(hv:Y3 its')(hz:ys.length≤sizeLine) :
  Inv X a5 σ (Lc l ys) {s with heap:=s.heap.update l (Obj.mapSeq f),toks:=t'}:=by
 have q:=PySem.IsL.update e f;rw[hf]at q;exact I.write (x:=l) (e:=l) (by rw[hH];exact trivial) Sf (λb' u hb hu=>(Yc s.heap (Obj.mapSeq f) Pq).trans hu) ⟨_,q⟩ ⟨hz,its',_,hv,q⟩
def Inv.lnew(I:Ro)(hv:Y3 a7)(hz:ys.length≤sizeLine) :
  Inv X a5 σ (PP vB) {s with heap:=s.heap.push {cls:=.type "list",data:=.seq a7.toArray},toks:=t'}:=
 I.laid (λ_ _ q=>WF q) Rf ⟨hz,a7,0,hv,To⟩
def Inv.fresh(I:Ro):H s.heap.objs.size=none:=I.hok.fresh Rf
def Inv.lstM(I:Ro)(hH:H l=some Tj):xs.length≤sizeLine∧∃(a7:Nj) (n:Nat),WG a7∧xs.length=a7.length∧s.heap.get? l=some {cls:=.type "list",data:=.seq a7.toArray n}:=by obtain⟨z,a7,n,r,e⟩:=I.hok l _ hH;exact⟨z,a7,n,r,r.length,e⟩
end
section
variable{X:Cx}
inductive RrAppend(x:V)(vs:List V)(H:Hp)(Q:VK):Prop
 |mk(l:_)(xs:_)(y:_)(h0:x=.ref l)(h1:vs=[y])(h2:H l=some (.lst xs))(h3:xs.length<sizeLine)(h4:Q .non (upd H l (.lst (xs++[y]))))
def rAppend:V→List V→Hp→VK→Prop:=λx vs H Q=>RrAppend  x vs H Q
def zcd:MtM X "list.append" rAppend:=by intro a5 s σ H x vs v us Q I rx rv h;obtain⟨l,xs,y,rfl,rfl,hH,hz,q⟩:=h;cases rx;obtain⟨u,rfl,ru⟩:=rv.one;obtain⟨z,a7,n,r,hl,e⟩:=I.lstM hH;refine call_meets F.slot_list_append ⟨_,e,rfl⟩ F.entry_list_append (N9 _) (PySem.list_append l a7.toArray n u (by rw[Qv];exact zfr ‹_› ‹_›)) ⟨e,.non,_,I.lset (its':=a7++[u]) hH e HA (r.append (SA ru)) ?_,rfl,q⟩;rw[Za,Kp];assumption
inductive RrPop(x:V)(vs:List V)(H:Hp)(Q:VK):Prop
 |mk(l:_)(xs:_)(y:_)(h0:x=.ref l)(h1:vs=[])(h2:H l=some (.lst xs))(h3:xs[xs.length-1]?=some y)(h4:Q y (upd H l (.lst xs.dropLast)))
def rPop:V→List V→Hp→VK→Prop:=λx vs H Q=>RrPop  x vs H Q
def mt_pop:MtM X "list.pop" rPop:=by
 intro a5 s σ H x vs v us Q I rx rv h;obtain⟨l,xs,y,rfl,rfl,hH,hy,q⟩:=h;cases rx;have jf:=rv.zero;subst jf;obtain⟨z,a7,n,r,hl,e⟩:=I.lstM hH;obtain⟨u,hu,ru⟩:=r.get hy;have bf:a7.toArray[a7.toArray.size-1]?=some u:=by show a7.toArray[a7.length-1]?=some u;rw[←Yx,←hl];exact hu
 refine call_meets F.slot_list_pop ⟨_,e,rfl⟩ F.entry_list_pop (F.args_list_pop_1 _) (MeetsSeq.list_pop_last l a7.toArray n u bf (by rw[Qv];exact zfr ‹_› ‹_›)) ⟨e,y,_,I.lset (its':=a7.dropLast) hH e ?_ r.dropLast ?_,ru,q⟩
 ·show a7.toArray.eraseIdxIfInBounds (a7.toArray.size - 1)=a7.dropLast.toArray;rw[Qv,List.eraseIdxIfInBounds_toArray,erase_last]
 rw[List.length_dropLast];lia
inductive RrCat(x:V)(y:V)(H:Hp)(Q:VK):Prop
 |mk(l:_)(b:_)(xs:_)(zs:_)(h0:x=.ref l)(h1:y=.ref b)(h2:H l=some (.lst xs))(h3:H b=some (.lst zs))(h4:xs.length+zs.length≤sizeLine)(h5:∀p,H p=none→Q (.ref p) (upd H p (.lst (xs++zs))))
def rCat:R2:=λx y H Q=>RrCat  x y H Q
def zh8:YQ O8 rCat:=by
 intro a5 s σ H x y v u Q I rx ry h;obtain⟨l,b,xs,zs,rfl,rfl,hH,hB,hz,q⟩:=h;cases rx;cases ry;obtain⟨z,a7,n,r,hl,e⟩:=I.lstM hH;obtain⟨z2,aQ,n2,r2,av,e2⟩:=I.lstM hB;refine PySem.P.add_list e e2 ?_ (by rw[Qv,Qv];lia);have ea:a7.toArray++aQ.toArray=(a7++aQ).toArray:=by simp
 rw[ea];exact⟨HK _,_,I.lnew (t':=s.toks) (r.append r2) (by rw[Za];assumption),rfl,q _ I.fresh⟩
end
end L2
namespace Att
open PySem PySem.W PySem.Calls PyProof.Rows
def zhj:∀(ns:List Int) (vs:Nj),WellAll P h vs xq→K7 ns:=by
 intro ns;induction ns with
 |nil=>intro vs w;rw[Jj]at w;cases w;exact .nil
 |cons n ns ih=>
  intro vs w;rw[Qn]at w;cases w with
  |cons a b=>cases a;exact .cons _ _ (ih _ b)
def script_of{l:OpenLaw}{n:Nat}(hn:l.most=some n){P:Params}{h:Nn}{args:List WData}{jI:Nj}(iM:l.row.toRowW.claim.pre args=true)(dZ:WellAll P h jI args) :
  ∃a vs ns,jI=[ww a]∧args=[WData.list xq]∧h.get? a=some {cls:=.type "list",data:=.seq vs.toArray}∧K7 ns∧ns.length≤n:=by
 have tH:WShape.hasAll [] args [.list .int]=true:=(pre_splitW iM).1;have hc:l.pre.holds [] {args:=args}=true:=(pre_splitW iM).2;obtain⟨d,r,rfl,h1,h2⟩:=hasAllW_cons tH;obtain rfl:=hasAllW_nil h2;obtain⟨xs,rfl,h3⟩:=hasW_list h1;obtain⟨ns,rfl⟩:=items_int h3;have ae:ns.length≤n:=by
  unfold OpenLaw.pre at hc;have h4:(WTm.not (.lt (.lit (.int (n:Int))) (.len (.arg 0)))).holds [] {args:=[.list (ns.map .int)]}=true:=by have h4:=(holds_andW hc).1;rw[hn]at h4;exact h4
  have h5:=condW_of h4 (w_not (w_lt w_lit (w_len_list (w_arg rfl))));rw[Qa]at h5;refine Xr λq=>?_;have q':(n:Int)<((ns.length:Nat):Int):=by exact zar9 ‹_›
  first
   |(rw[decide_eq_true q']at h5;exact absurd h5 (by decide))
   |(simp at h5;lia)
 cases dZ with
 |cons w1 w2=>
  cases w2;cases w1 with
  |list ho ak=>exact⟨_,_,ns,rfl,rfl,ho,zhj ns _ ak,ae⟩
def post_true(l:OpenLaw)(args:List WData):l.row.toRowW.claim.post args TL args=true:=
 postW_of (r:=l.row.toRowW) (X:=(true==true))
  (show WShape.has [] TL .bool=true by first|rfl|decide|simp[WShape.has,WShape.arms,WShape.armsAll])
  (show(WTm.eq .res (.lit TL)).value [] {args:=args,res:=some TL,after:=args}=some (Oi (true==true)) from w_eq_bool (w_res rfl) w_lit) rfl
def attach_call{l:OpenLaw}{n:Nat}{q:Nk}{loose:Ng}{XP:(Str→Option Value)→Heap→Prop}{YP:World→Heap→Prop}{d:DefRec}(hn:l.most=some n)(pq:d.params.defaults=[])(call:∀ (w:Nl) (s₀ s₁:Ni) (mg mb:Nd) (fa:Nb) (o:Obj) (pm cd doc:Value) (a:Nb) (vs:Nj) (ns:List Int),
   Ground q loose [] XP w s₀ mg mb s₁.heap→YP w s₁.heap →
   s₁.heap.get? fa=some o→o.data=.func (docDef d.name d.params d.body d.scope pm cd doc)→s₁.heap.CodeRec cd d.name→mg d.name=some Oo →
   s₁.heap.get? a=some {cls:=.type "list",data:=.seq vs.toArray}→K7 ns→ns.length≤n→s₁.gens=#[] →
   codeAny (model l.prog w) callerA (.call Oo ⟨[Sg],[]⟩) (λr s'=>r=.ok (.ret TL)∧OldK s₁.heap s'.heap∧s'.os=s₁.os∧AllBare s'.gens) s₁) :
  WalkO q loose XP YP l.row.toRowW d [] (λf vs=>N' vs):=by
 intro w s₀ s₁ mg mb G Y fa o pm cd doc dV kV ho hd az hD ub hg args jI as iM hlay hrd dZ mf;obtain rfl:dV=.none:=Dflts.none hD pq;obtain rfl:kV=.none:=Dflts.noKw hD;obtain⟨a,vs,ns,rfl,rfl,kO,gE,ae⟩:=script_of hn iM dZ;refine enter_call (codeAny_mono (call w s₀ s₁ mg mb fa o pm cd doc a vs ns G Y ho (fd_plain hd) az ub kO gE ae hg) λr s' hq=>?_);obtain⟨rfl,h2,h3,h4⟩:=hq;exact⟨.inl ⟨TL,TL,[],rfl,λ_=>rfl,TL,post_true l _,λ_=>⟨List.Pairwise.nil,λ_ hm=>(nomatch hm)⟩⟩,h2,h3,h4⟩
end Att
namespace L2
open PySem PySem.Spec PyProof.Rows
theorem vals_ints:∀{vs:Nj} {ns:List Int},K7 ns→Fo vs
 |_,_,.nil=>.nil
 |_,_,.cons n t h=>.cons ⟨t,rfl⟩ (vals_ints h)
def Only(H:Hp):Prop:=∀b,H b=none∨∃o xs,H b=some (.frz o Tj)
def law_call{P:Nk}{w:Nl}{K:Na}{mg mb:Nd}{CX:CXT}{k:Nat}{fa a:Nb}{fd:Nu}{x:Str}{sp:Sp}{s₁:Ni}{vs:Nj}{ns:List Int}(KX:K.In s₁.heap)(oi:s₁.heap.Ns mainGlobals mg)(hb:s₁.heap.Ns builtinsNs mb)(hbb:∀x:Str,x ≠ "__name__" → mb x=bootBuiltins x)(uj:s₁.heap.NoLimit)(hg:s₁.gens=#[])(ha:s₁.heap.get? a=some {cls:=.type "list",data:=.seq vs.toArray})(hi:K7 ns)(hl:ns.length≤sizeLine)(hr:Y4 callerA)(F:∀base:Heap,K.In base→base.Ns mainGlobals mg→ZC CX k fa fd [x] sp)(pH:∀(s:Shared) (u:Value),UN ⟨[u],[]⟩ [(x,u)])(bA:∀H:Hp,Only H→YE LW→sp [Sg] H (λv _=>v=.bl true) λ_ _ _=>False)(uW:∀H e s',CX [] H s₁ (λ_ _ _=>False) e s'→False) :
  codeAny CO callerA (.call Oo ⟨[Sg],[]⟩) (λr s'=>r=.ok (.ret TL)∧OldK s₁.heap s'.heap∧s'.os=s₁.os∧AllBare s'.gens) s₁:=by
 have rv:=vals_ints hi;have lenV:=hi.length;have core:∀ H:Hp,Only H→YE LW→WV s₁.heap→(∀ b,H b≠none→b=a)→(H a≠none→K.lookup a=none) →
   codeAny CO callerA (.call Oo ⟨[Sg],[]⟩) (λr s'=>r=.ok (.ret TL)∧OldK s₁.heap s'.heap∧s'.os=s₁.os∧AllBare s'.gens) s₁:=by
  intro H hO hS hok hA hK;have base_of:∀{b:Nb} {o:Obj},s₁.heap.get? b=some o→H b=none→(Br H).get? b=some o:=λe n=>hidT_get e n;have noA:∀{b:Nb} {o:Obj} {es:Array DictEntry} {ep:Nat},s₁.heap.get? b=some o→o.data=.dict es ep→H b=none:=λ{b o es ep} e d=>by
   cases q:H b with
   |none=>rfl
   |some u=>have e':b=a:=hA b (by rw[q];simp);subst e';rw[ha]at e;cases e;have d':Data.seq vs.toArray _=Data.dict es ep:=d;cases d'
  have nsK:∀{b:Nb} {m:Nd},s₁.heap.Ns b m→(Br H).Ns b m:=λ{b m} ⟨o,es,ep,e,d,r⟩=>⟨o,es,ep,base_of e (noA e d),d,r⟩;have hKb:K.In (Br H):=λb o e=>base_of (KX b o e) (by
   cases q:H b with
   |none=>rfl
   |some u=>have e':b=a:=hA b (by rw[q];simp);subst e';rw[hK (by rw[q];simp)]at e;cases e)
  have hM:Mod K mg (Br H):=⟨hKb,nsK oi,⟨mb,nsK hb,hbb⟩,let⟨mc,h1,h2⟩:=uj;⟨mc,nsK h1,h2⟩⟩;have e0:Env0 P w K mg (Br H) callerA [] s₁ H:=⟨rfl,hM,λb o e=>of_hidT e,Nat.le_of_eq (hidT_size _ _),trivial,λb hb=>absurd (show b∈([]:List Addr) from hb) HA,hok,.of_eq hg⟩;refine codeAny_mono ((F _ hKb (nsK oi)).run callerA [] s₁ H ⟨[Sg],[]⟩ [Sg] [Sg] _ _ hr e0 (pH s₁ Sg) (SA rfl) (bA H hO hS)) λr s' h=>?_;cases r with
  |error e=>exact(uW H e s' h).elim
  | ok fl=>
   cases fl with
   |next=>exact False.elim h
   |brk=>exact False.elim h
   |cont=>exact False.elim h
   | ret u=>
    obtain⟨v,H',os,bare,un,tY,r',q⟩:=h;have q':v=.bl true:=q;subst q';obtain rfl:u=Value.bool true:=r';refine⟨rfl,OldK.of_keep λb o e=>?_,os,bare⟩;cases q:H b with
    |none=>exact un.keep b o e q (by intro z;exact absurd (show b∈([]:List Addr) from z) HA) HA
    |some u=>
     rcases hO b with z|⟨ob,xs,z⟩
     ·rw[q]at z;cases z
     have z2:=un.frzs b ob _ z;obtain⟨e1,_⟩:=hok b _ z;obtain⟨e2,_⟩:=tY b _ z2;rw[e]at e1;cases e1;exact e2
 cases hk:K.lookup a with
 |some o=>have e:=KX a o hk;rw[ha]at e;cases e;refine core (λ_=>none) (λ_=>.inl rfl) (SJ ⟨_,vs.toArray,_,hk,rfl,rfl,rfl,by rw[Qv,lenV];exact hl,HE rv⟩) (λb u z=>by have z':(none:Option HO)=some u:=z;cases z') (λb z=>absurd rfl z) λz=>absurd rfl z
 | none=>
  refine core (λb=>if b=a then some (.frz {cls:=.type "list",data:=.seq vs.toArray} (HR LW)) else none) (λb=>?_) (Rq (.inr ⟨{cls:=.type "list",data:=.seq vs.toArray},C2⟩)) (λb u z=>?_) (λb z=>?_) λ_=>hk
  ·by_cases hb:b=a
   ·exact .inr ⟨_,_,Sx hb⟩
   exact .inl (So hb)
  ·by_cases hb:b=a
   ·have z':=(Sx hb).symm.trans z;cases z';subst hb;exact⟨ha,y8 hl,vs,_,rv,ha⟩
   have z':=(So hb).symm.trans z;cases z'
  by_cases hb:b=a
  ·exact hb
  exact absurd (So hb) z
def walk_of{l:PySem.W.OpenLaw}{n k:Nat}{q:Nk}{loose:Ng}{XP:(Str→Option Value)→Heap→Prop}{YP:World→Heap→Prop}{d:DefRec}{K:Params→PySem.W.Frag}{CX:World→CXT}{sp:World→Sp}{x:Str}(hn:l.most=some n)(cc:n≤sizeLine)(pq:d.params.defaults=[])(hr:Y4 callerA)(hY:∀(w:World) (h:Heap),YP w h→(K w.params).In h)(F:∀ (w:Nl) (mg:Nd) (fa:Nb) (h:Nn),(K w.params).In h→h.Ns mainGlobals mg→mg d.name=some Oo →
   ∃fd:FuncData,(∀(s:Ni) (u:Value),UN ⟨[u],[]⟩ [(x,u)]) ∧
    ∀base:Heap,(K w.params).In base→base.Ns mainGlobals mg→K8 (CX w) k fa fd [x] (sp w))(bA:∀(w:Nl) (H:Hp) (a:Nb) (ns:List Int),ns.length≤n→Only H→SqL zb H a LW→sp w [Sg] H (λv _=>v=.bl true) λ_ _ _=>False)(uW:∀(w:World) (H:Hp) (s:Shared) (e:Value) (s':Shared),CX w [] H s (λ_ _ _=>False) e s'→False) :
  PySem.W.WalkO q loose XP YP l.row.toRowW d [] (λf vs=>N' vs):=by
 refine Att.attach_call hn pq λw s₀ s₁ mg mb fa o pm cd doc a vs ns G Y ho hd az ub kO gE ae hg=>?_;have KX:=hY w _ Y;obtain⟨fd,hb,hF⟩:=F w mg fa _ KX G.T.g ub;exact law_call KX G.T.g G.T.b G.T.builtins G.T.nolimit hg kO gE (Zi ae cc) hr hF hb (λH hO hS=>bA w H a ns ae hO hS) λH e s'=>uW w H s₁ e s'
def inClass(s:Stmt)(j:Nat):Stmt:=match s with
 |.ClassDef _ _ _ body _ _ _ _ _ _ _=>body.getD j (.Pass ⟨0,0,0,0⟩)
 |_=>.Pass ⟨0,0,0,0⟩
def zc5(s:Stmt):Arguments:=match s with
 |.FunctionDef _ a _ _ _ _ _ _ _ _=>a
 |_=>{posonlyargs:=[],args:=[],vararg:=none,kwonlyargs:=[],kw_defaults:=[],kwarg:=none,defaults:=[]}
def zch(s:Stmt):List Stmt:=match s with
 |.FunctionDef _ _ b _ _ _ _ _ _ _=>b
 |_=>[]
def zah(s:Stmt):Scope:=match s with
 |.FunctionDef _ _ _ _ _ _ sc _ _ _=>sc
 |_=>{kind:=.function,names:=[],isGenerator:=false,isCoroutine:=false}
abbrev CX0:CXT:=λ_ _ _ _ _ _=>False
abbrev E0:XK:=λ_ _ _=>False
def zcv:zfq CX0 X E0:=λ_ _ _ _ _ _ _ h=>h.elim
structure Fun(K:Na)(x qual:Str)(st:Stmt)(f:Nb)(fd:Nu):Prop where
 ex:∃(oc:Value) (od:Option Addr) (kV doc pm:Value) (an:Option Addr) (cdv ct:Value) (osl:Array Tr),
  fd=QK TM .none kV doc pm an cdv ct∧K.lookup f=some ⟨oc,od,.func fd,osl⟩∧JX cdv qual=true
 kp:W4 Ld=true
section
variable{P:Nk}{w:Nl}{K:Na}{mg:Nd}{base:Nn}
def Fun.ok{x qual:Str}{st:Stmt}{f:Nb}{fd:Nu}{N ps:Ng}{k:Nat}{sp:Sp}(F:O0)(S:Vs TM)(len:∀vs H Q E,sp vs H Q E→vs.length=ps.length)(bz:∀ (cdv:Value) (A:Np) (outer:List Env) (s:Ni) (H:Hp) (vs:List V) (Q:VK) (E:XK),Y4 S'→sp vs H Q E →
   ∃t,PSs (WQ E).nox yh t∧t {nx:=λ_ H'=>Q .non H',rt:=Q} On H):ZB (k+1) f fd ps sp:=by
 obtain⟨oc,od,kV,doc,pm,an,cdv,ct,osl,rfl,lk,az⟩:=F.ex;refine fn_of lk az S len λA outer s H vs Q E hr bA=>?_;obtain⟨t,h,q⟩:=bz cdv A outer s H vs Q E hr bA;exact⟨t,h.nox,q⟩
def Fun.binds{x qual:Str}{st:Stmt}{f:Nb}{fd:Nu}{ps:Ng}(F:O0)(h:∀(kV doc pm:Value) (an:Option Addr) (cdv ct:Value) (us:Nj),us.length=ps.length→bindArgs Ep ⟨us,[]⟩=pure LL):WE fd ps []:=by obtain⟨oc,od,kV,doc,pm,an,cdv,ct,osl,rfl,lk,az⟩:=F.ex;exact .all (h kV doc pm an cdv ct)
def fun_mk{x qual:Str}{st:Stmt}{f:Nb}{oc:Value}{od an:Option Addr}{osl:Array Tr}{kV doc pm cdv ct:Value}(l:K.lookup f=some ⟨oc,od,.func Ep,osl⟩)(c:JX cdv qual=true)(k:W4 Ld=true):QD x qual st f Ep:=⟨⟨oc,od,kV,doc,pm,an,cdv,ct,osl,rfl,l,c⟩,k⟩
def zb7(hr:Y4 A):A.units+1<cLine:=Kf (Nat.add_le_add_left (by decide:1≤64) _) hr.units
variable{X:Cx}
def pv(i:Nat)(hN:X.N[i]?=some x:=by rfl)(hv:XN x:=by first|exact Or.inl rfl|exact Or.inr Op|exact Or.inr S8)(hd:RP=false:=by decide)(az:(x==("__classdict__" : Str))=false:=by decide):Z9 Oh (tVar i):=pe_var hN hv hd az
def call_lenD:YJ (.builtin "len") (λxs H Q=>Ex2 λa kvs=>Aj3 (xs=[LZ a]) (H a=some RO) (Q (.int kvs.length) H)):=by intro a5 s σ H xs us Q I r h;obtain⟨a,kvs,rfl,ha,q⟩:=h;obtain⟨u,rfl,ru⟩:=vals1 r;cases ru;exact d_len I (Rq ha) λt s' I'=>⟨.int kvs.length,H,I',⟨t,rfl⟩,q⟩
def iteF{A B:Prop}(h:B):if false=true then A else B:=by rw[if_neg Zh];exact h
def iteT{A B:Prop}(h:A):if true=true then A else B:=by rw[if_pos rfl];exact h
def ite2{c A B:Prop}[Decidable c](h1:c→A)(h2:¬c→B):if c then A else B:=by
 by_cases h:c
 ·rw[Sx h];exact h1 h
 rw[So h];exact h2 h
def clOf(sc:Scope)(env:Env):List (Str×Addr):=sc.names.foldl RI []
theorem cl_fold:∀(l:S1 (Str×NameKind)) (cs:S1 (Str×Addr)),(∀y∈l,y.2=.free→∃c,env.cells.lookup y.1=some c) →
  (forIn l cs (λ(y:Str×NameKind) (r:S1 (Str×Addr))=>(do
   let(name,kind):=y
   if(kind==.free)=true then do
    let a ←cellOf env name
    pure (SM ((name,a)::r))
   else pure (SM r):Sem (ForInStep (S1 (Str×Addr))))))=(pure (l.foldl RI cs):Sem (S1 (Str×Addr)))
 |[],cs,_=>rfl
 | (n,k)::r,cs,h=>by
  rw[List.forIn_cons];have ih:=λcs=>cl_fold (env:=env) r cs λy hy=>h y Cs;by_cases hk:(k==NameKind.free)=true
  ·obtain⟨c,hc⟩:=h (n,k) Qc wb;have cQ:env.cells.lookup n=some c:=hc;have e:cellOf env n=pure c:=by unfold cellOf;rw[cQ]
   rw[Jm];dsimp only;rw[if_pos hk,if_pos hk,e,cQ];exact ih _
  rw[Jm];dsimp only;rw[if_neg hk,if_neg hk];exact ih _
def zd9(h:∀y∈sc.names,y.2=.free→∃c,env.cells.lookup y.1=some c):closureFor sc env=pure (YB env):=by unfold closureFor;have e:=cl_fold (env:=env) sc.names [] h;exact(congrArg (λt:Sem (S1 (Str×Addr))=>t >>= λcs=>pure cs) e).trans rfl
theorem clOf_in{env:Env}{x:Str}{c:Nb}:∀(l:S1 (Str×NameKind)) (cs:S1 (Str×Addr)),(∀y∈l,y.2=.free→∃c,env.cells.lookup y.1=some c)→(∀x c,cs.lookup x=some c→env.cells.lookup x=some c) →
  (l.foldl RI cs).lookup x=some c→env.cells.lookup x=some c
 |[],cs,_,hc,e=>hc _ _ e
 | (n,k)::r,cs,h,hc,e=>by
  rw[Jm]at e;refine clOf_in r _ (λy hy=>h y Cs) ?_ e;by_cases hk:(k==NameKind.free)=true
  ·obtain⟨a,ha⟩:=h (n,k) Qc wb;have mx:env.cells.lookup n=some a:=ha;dsimp only;rw[if_pos hk,mx];intro x c q;rw[Uq]at q;cases hx:x==n with
   |true=>
    rw[hx]at q;have q':a=c:=Qo q;have:x=n:=by simpa using hx
    rw[this,←q'];exact mx
   |false=>rw[hx]at q;exact hc x c q
  dsimp only;rw[if_neg hk];exact hc
theorem zjy{env:Env}{x:Str}:∀(l:S1 (Str×NameKind)) (cs:S1 (Str×Addr)),((x,NameKind.free)∈l∨∃c,cs.lookup x=some c) →
  ∃c,(l.foldl RI cs).lookup x=some c
 |[],cs,h=>by
  rcases h with h|h
  ·exact absurd h HA
  exact h
 | (n,k)::r,cs,h=>by
  rw[Jm];refine zjy r _ ?_;rcases h with h|⟨c,h⟩
  ·rcases Qi.mp h with e|e
   ·obtain⟨rfl,rfl⟩:=Jt e;exact .inr ⟨(env.cells.lookup x).getD 0,by dsimp only;rw[if_pos Rg,List.lookup_cons];simp⟩
   exact .inl e
  refine .inr ?_;dsimp only;by_cases hk:(k==NameKind.free)=true
  ·rw[Sx hk,Uq];cases hx:x==n with
   |true=>exact⟨vG⟩
   |false=>exact⟨c,h⟩
  rw[if_neg hk];exact⟨c,h⟩
end
structure Blk(X:Cx)(sc:Scope)(M:Ng)(ix:Nr):Prop where
 kind:sc.kind=.function
 nocell:∀y∈sc.names,y.2≠.cell
 names:∀y∈sc.names,y.2=.local→sc.names.lookup y.1=some .local
 frees:∀y∈sc.names,y.2=.free→X.env.scope.names.lookup y.1=some .cell∨X.env.scope.names.lookup y.1=some .free
 len:ix.length=M.length
 nd:M.Nodup
 caps:∀(j i:Nat) (x:Str),M[j]?=some x→ix[j]?=some xn→X.N[i]?=some x∧sc.names.lookup x=some .free
def inner(ix:Nr)(σ:St):St:=ix.map λo=>match o with|none=>none|some i=>(σ[i]?).join
def zi5{sc:Scope}{env:Env}{x:Str}{oz:Option Str}(hn:∀ y∈sc.names,y.2=.cell→oz=some y.1)(h:(OL sc).names.lookup x=some .cell∨(OL sc).names.lookup x=some .free):(x,NameKind.free)∈sc.names∨oz=some x:=by
 have key:∀k',k'=.cell∨k'=.free→(x,k')∈(OL sc).names→(x,NameKind.free)∈sc.names∨oz=some x:=λk' oI hm=>by
  obtain⟨⟨n,k⟩,hy,e⟩:=Qe.mp hm;dsimp only at e;by_cases hb:(k==NameKind.free&&env.scope.kind==.function&&env.kindOf n==some .cell)=true
  ·rw[Sx hb]at e;obtain⟨rfl,_⟩:=Jt e;have hk:k=.free:=by have:=(Bool.and_eq_true_iff.mp (Bool.and_eq_true_iff.mp hb).1).1;simpa using this
   rw[hk]at hy;exact .inl hy
  rw[So hb]at e;obtain⟨rfl,rfl⟩:=Jt e;rcases oI with q|q
  ·exact .inr (hn _ hy q)
  rw[q]at hy;exact .inl hy
 rcases h with h|h
 ·exact key _ Sf (Wu h)
 exact key _ (SJ rfl) (Wu h)
def ocl(oz:Option Str)(C:Nb)(cl:List (Str×Addr)):List (Str×Addr):=match oz with
 |none=>cl
 |some z=>(z,C+1)::cl
def och(oz:Option Str)(h:Nn):Heap:=match oz with
 |none=>h
 |some _=>h.push {cls:=.type "cell",data:=.cell none}
structure BlkG(X:Cx)(sc:Scope)(oz:Option Str)(M:Ng)(ix:Nr):Prop where
 kind:sc.kind=.function
 own:∀y∈sc.names,y.2=.cell→oz=some y.1
 one:∀n cl,cellsFrom (n+1) sc.names cl=K9 n cl
 psh:∀h,pushCells h sc.names=Da h
 zc:∀z,oz=some z→sc.names.lookup z=some .cell
 names:∀y∈sc.names,y.2=.local→sc.names.lookup y.1=some .local
 frees:∀y∈sc.names,y.2=.free→X.env.scope.names.lookup y.1=some .cell∨X.env.scope.names.lookup y.1=some .free
 len:ix.length=M.length
 nd:M.Nodup
 caps:∀(j i:Nat) (x:Str),M[j]?=some x→ix[j]?=some xn→X.N[i]?=some x∧sc.names.lookup x=some .free
theorem zj0:∀{l:List (Str×NameKind)} (_:∀y∈l,y.2≠.cell),(∀n cl,cellsFrom n l cl=cl)∧∀h,pushCells h l=h
 |[],_=>⟨HX,λ_=>rfl⟩
 |(a,k)::t,h=>by obtain⟨h1,h2⟩:=zj0 λy hy=>h y Cs;have hk:(k==NameKind.cell)=false:=beq_eq_false_iff_ne.mpr (h (a,k) Qc);exact⟨λn cl=>by unfold cellsFrom;rw[hk];exact h1 n cl,λg=>by unfold pushCells;rw[hk];exact h2 g⟩
def Blk.g(B:YM ix):BlkG X sc none M ix:=
 ⟨B.kind,λy hy h=>absurd h (B.nocell y hy),λn cl=>(zj0 B.nocell).1 _ cl,(zj0 B.nocell).2,λ_ h=>(by cases h),B.names,B.frees,B.len,B.nd,B.caps⟩
def zen(X:Cx)(sc:Scope)(oz:Option Str)(M:Ng)(C:Nb)(a5:Nh)(ex:No)(s:Ni)(H:Hp):Cx:=
 {X with N:=M,s₀:=s,H₀:=H,env:=compEnvC sc (K9 C TC) C X.env,outer:=X.stack,ex:=ex,fn:=λx=>oz==some x,pn:=X.pn++a5,xe:=λ_ _=>False}
abbrev zca(X:Cx)(sc:Scope)(M:Ng)(C:Nb)(a5:Nh)(ex:No)(s:Ni)(H:Hp):Cx:=zen X sc none M C a5 ex s H
section
variable{M:Model}{A:Np}{E:Nc}{s:Ni}
def zf1(one:∀n cl,cellsFrom (n+1) sc.names cl=K9 n cl)(psh:∀h,pushCells h sc.names=Da h)(hQ:Q (newEnv sc s.heap.objs.size g (K9 s.heap.objs.size cl) q none .none (HW env) builtinsNs) {s with heap:=Da (s.heap.push {cls:=.type "dict",data:=.dict #[]})}) :
  wpAny M A (newFunctionEnv sc g cl [] q none .none (HW env)) Q E s:=by
 simp only[newFunctionEnv,Option.isSome_some,if_true];refine wpAny_bind (wpAny_alloc (wpAny_bind (wpAny_layCells _ (λname kind cells=>by cases hkc:kind==NameKind.cell<;>simp[hkc]) _ _ _ _ ?_)));rw[psh,show({s with heap:=s.heap.push {cls:=.type "dict",data:=.dict #[]}}:Shared).heap.objs.size=s.heap.objs.size+1 from Wj ..,one];exact wpAny_pure hQ
end
section
variable{X:Cx}{sc:Scope}{oz:Option Str}{M:Ng}{ix:Nr}{a5:Nh}{σ:St}{H:Hp}{s:Ni}
def BlkG.clos(B:UG ix)(I:Ro):∀y∈sc.names,y.2=.free→∃c,X.env.cells.lookup y.1=some c:=λy hy hf=>I.ok.has y.1 (by rcases B.frees y hy hf with z|z;exact .inl z;exact .inr z)
def Blk.clos(B:YM ix)(I:Ro):∀y∈sc.names,y.2=.free→∃c,X.env.cells.lookup y.1=some c:=B.g.clos I
def inv_blkG{ex:No}{s':Ni}{C:Nb}(B:UG ix)(I:Ro)(hx:∀ b∈ex,Y2 b)(ad:∀ b∈ex,b < s.heap.objs.size)(hC:C=s.heap.objs.size)(hn:s'.heap.Ns C λ_=>none)(hz:∀z,oz=some z→s'.heap.IsCell (C+1) none)(hk:∀b o,s.heap.get? b=some o→s'.heap.get? b=some o)(hg:s'.gens=s.gens)(ho:s'.os=s.os):Inv P7 [] CL H s':=by
 have cls:=B.clos I;have cin:∀x c,(YB X.env).lookup x=some c→X.env.cells.lookup x=some c:=λx c e=>clOf_in sc.names [] cls (λ_ _ z=>by cases z) e;have cne:∀x c,(YB X.env).lookup x=some c→c<s.heap.objs.size:=λx c e=>by obtain⟨v,q⟩:=JV (cin x c e);exact q.lt
 have zne:∀c:Addr,c<s.heap.objs.size→c≠C+1:=λc h e=>by rw[e,hC]at h;exact absurd (Xh h) OS
 have zin:∀x c,(K9 C TC).lookup x=some c→(oz=some x∧c=C+1)∨oz≠some x∧(YB X.env).lookup x=some c:=λx c e=>by
  cases oz with
  |none=>exact .inr ⟨λz=>(by cases z),e⟩
  |some zn=>
   have e:((zn,C+1)::YB X.env).lookup x=some c:=e;rw[Uq]at e;cases q:x==zn with
   |true=>rw[q]at e;exact .inl ⟨by rw[eq_of_beq q],(Qo e).symm⟩
   |false=>rw[q]at e;exact .inr ⟨λz=>(by rw[Qo z,beq_self_eq_true]at q;cases q),e⟩
 have zout:∀x c,oz≠some x→(YB X.env).lookup x=some c→(K9 C TC).lookup x=some c:=λx c hx e=>by
  cases oz with
  |none=>exact e
  |some zn=>show((zn,C+1)::YB X.env).lookup x=_;rw[Uq,beq_eq_false_iff_ne.mpr λz=>hx (by rw[z])];exact e
 refine⟨⟨I.ok.mod,?_,I.ok.glob,I.ok.blt,?_,λx y c h1 h2=>?_,λx hx=>?_,λx c h e=>?_,I.ok.hd,I.ok.frames,Sf,λb hb=>?_,I.bs,?_,λb o e hb=>?_,λb hb=>?_,I.stack,I.stkFree⟩,
  ?_,?_,Un.kept hk,⟨_,hn,λj x v e1 e2 e3=>?_⟩,λx c e=>?_,?_,λx c e=>?_,λp hp=>?_,I.hok.kept hk,?_⟩
 ·show (relabel sc X.env).kind=.function;exact B.kind
 ·show s.heap.objs.size≤C;rw[hC];exact Qf _
 ·rcases zin x c h1 with⟨a,b⟩|⟨_,a⟩ <;> rcases zin y c h2 with⟨a',b'⟩|⟨_,a'⟩
  ·exact Qo (a.symm.trans a')
  ·exact absurd b (zne c (cne y c a'))
  ·exact absurd b' (zne c (cne x c a))
  exact I.ok.inj x y c (cin x c a) (cin y c a')
 ·by_cases q:oz=some x
  ·exact⟨C+1,by show(K9 C TC).lookup x=_;rw[q];show((x,C+1)::YB X.env).lookup x=_;rw[Uq,beq_self_eq_true]⟩
  obtain⟨c,hc⟩:=zjy (env:=X.env) sc.names [] (Rq ((zi5 B.own hx).resolve_right q));exact⟨c,zout x c q hc⟩
 ·have h':oz=some x:=by have:(oz==some x)=true:=h;exact eq_of_beq this
  rcases zin x c e with⟨_,b⟩|⟨b,_⟩
  ·show s.heap.objs.size≤c;rw[b,hC];exact Uo _
  exact absurd h' b
 ·have:=ad b hb;refine⟨λz=>?_,λx c e=>(zin x c e).elim (λq h=>zne b this (h.symm.trans q.2)) λe=>(hx b hb).2.2.2.2.1 x c (cin x c e.2)⟩;have z':b=C:=z;rw[z',hC]at this;exact We _ this
 ·exact DV I.sz
 ·rcases (hx b hb).2.2.2.1 with z|z
  ·exact M' e z
  have h1:b < X.base.objs.size:=Qx e;have h2:=I.ok.bsz;have h3:X.s₀.heap.objs.size≤b:=z;exact absurd (Zy h1 (Zi h2 h3)) OS
 ·intro z;rcases Qi.mp (Fw z) with q|q
  ·exact(hx b hb).2.1 q
  exact(hx b hb).2.2.1 q
 ·exact ho
 ·rw[hg];exact I.bare
 ·have hj:∃ i,ix[j]?=some xn∧σ[i]?=some IQ:=by
   unfold inner at e2;rw[Qk]at e2;cases q:ix[j]? with
   |none=>rw[q]at e2;cases e2
   | some o=>
    rw[q]at e2;cases o with
    |none=>cases e2
    |some i=>
     have rS:(σ[i]?).join=some v:=Qo e2;cases q2:σ[i]? with
     |none=>rw[q2]at rS;cases rS
     |some w=>rw[q2]at rS;exact⟨i,rfl,by rw[q2];exact congrArg some rS⟩
  obtain⟨i,hi,hσ⟩:=hj;obtain⟨hN,bx⟩:=B.caps j i x e1 hi;have hm:=Wu bx;have dL:=B.frees (x,.free) hm rfl;obtain⟨m,_,hl⟩:=I.loc;obtain⟨u,ru,lk⟩:=hl i x v hN hσ (by rcases dL with z|z;exact .inr (Rq z);exact .inr (SJ z));refine⟨u,ru,.inr ?_⟩;obtain⟨c,hc⟩:=zjy (env:=X.env) sc.names [] (Rq hm);have cQ:=cin x c hc;have lk2:s.heap.IsCell c xc:=by
   rcases lk with⟨k,_⟩|⟨_,c',e',z⟩
   ·have k':X.env.scope.names.lookup x=some .local:=k;rcases dL with q|q<;>(rw[show X.env.scope.names.lookup x=_ from q]at k';cases k')
   rw[cQ]at e';cases e';exact z
  refine⟨?_,c,zout x c (λq=>by rw[B.zc x q]at bx;cases bx) hc,?_⟩
  ·have e3':Vis (relabel sc X.env) x:=e3;rcases e3' with z|z|z
   ·exfalso;have:=@lookup_relabel_local;have dI:∀(l:List (Str×NameKind)),l.lookup x=some .free→(l.map λ(y:Str×NameKind)=>match y with|(n,k)=>if(k==NameKind.free&&X.env.scope.kind==.function&&X.env.kindOf n==some .cell) then(n,NameKind.cell) else(n,k)).lookup x≠some .local:=by
     intro l;induction l with
     |nil=>intro h;cases h
     | cons y r ih=>
      obtain⟨n,k⟩:=y;intro h;rw[Uq]at h;rw[Qn];dsimp only;by_cases hb:(k==NameKind.free&&X.env.scope.kind==.function&&X.env.kindOf n==some .cell)=true
      ·rw[Sx hb,Uq];cases hx:x==n with
       |true=>intro q;cases q
       |false=>rw[hx]at h;exact ih h
      rw[So hb,Uq];cases hx:x==n with
      |true=>rw[hx]at h;intro q;have h':k=NameKind.free:=Qo h;have q':k=NameKind.local:=Qo q;rw[h']at q';cases q'
      |false=>rw[hx]at h;exact ih h
    exact dI sc.names bx z
   ·exact .inl z
   exact .inr z
  obtain⟨o,dz,iX⟩:=lk2;exact⟨o,hk c o dz,iX⟩
 ·rcases zin x c e with⟨a,b⟩|⟨_,b⟩
  ·rw[b];exact⟨none,hz x a⟩
  obtain⟨v,o,dz,iX⟩:=JV (cin x c b);exact⟨v,o,hk c o dz,iX⟩
 ·show H C=none;rw[hC];exact I.hok.fresh Rf
 ·rcases zin x c e with⟨_,b⟩|⟨_,b⟩
  ·rw[b];exact I.hok.fresh (by rw[hC];exact Uo _)
  exact J4 (cin x c b)
 ·have qV:p∈X.pn++a5:=by have:p∈(X.pn++a5)++[]:=hp;rwa[Zt]at this
  obtain⟨e,n,ne,nf,d⟩:=BK qV;refine⟨hk _ _ e,n,?_,λz=>?_,d⟩
  ·intro z;have z':p.1=C:=z;have:=Qx e;rw[z',hC]at this;exact We _ this
  rcases Qi.mp (I.stkSub _ z) with q|q
  ·exact ne q
  exact nf q
 unfold inner;rw[Qa];exact B.len
def PTs(X:Cx)(ifs:Nv)(t:TT):Prop:=
 ∀(a5:Nh) (s:Ni) (σ:St) (H:Hp) (Q:Bool→Hp→Prop),ZA H s→t σ H Q →
  wpAny HU X.A (forIn ifs true λc r=>if r=true then do let ok ←isTrue c X.env (Rr c);pure (SM ok) else pure (SM r)) (Mz Q) X.xe s
def tAll:TT:=λ_ H Q=>Q true H
def zb1:PTs X [] tAll:=λ_ _ _ H _ I h=>wpAny_tests_nil ⟨H,I,h⟩
def zcp(h:Md c t):PTs X [c] t:=λa5 s σ H Q I q=>wpAny_tests_one (LO Q q)
def lTree(elt target iter:Expr)(ifs:Nv)(it ag:Value)(env:Env)(c:Code):Sem PySem.Fin:=do
   standAt iter.pos
   match ←pyNext it with
   |none=>pure (.done .next)
   | some v=>
    letOwnedTupleGo target it v
    assign target env v
    let mut ok:=true
    for c in ifs do
     if ok then ok ←isTrue c env (Ci c)
    if ok then
     (do let _ ←call (.builtin "list.append") [ag,←eval elt env])
    again c
end
def loop_by(hT:(model prog w).den (.compLoop e k it ag env)=(lTree elt target iter ifs it ag env (.compLoop e k it ag env)).onRaise (λx=>do noteFrame x env;theTreesLotGoes x))(hU:A.under (.compLoop e k it ag env)=A)(I:Nat→Shared→Prop)(turn:∀ n s,I n s→wpAny (model prog w) A (pyNext it) (λr s₁=>match r with
   |none=>R E6 s₁
   | some v=>ZE A Cd (λ_ s₁'=>ZE A EN (λ_ s₂=>
     wpAny Rb A (forIn ifs true λc r=>if r=true then do let ok ←isTrue c env (Ci c);pure (SM ok) else pure (SM r)) (λok s₃=>
      if ok=true then ZE A (Ci elt) (λx s₄=>wpAny Rb A (call (.builtin "list.append") [ag,x]) (λ_ s₅=>∃m,m<n∧I m s₅) (λ_ _=>False) s₄) (λ_ _=>False) s₃
      else ∃m,m<n∧I m s₃) (λ_ _=>False) s₂) (λ_ _=>False) s₁') (λ_ _=>False) s₁) (λ_ _=>False) s)(n:Nat)(h:I n s):codeAny Rb A (Ee e k ag) R s:=by
 refine codeAny_loop rfl I (λn s hI=>?_) n h;rw[hU,hT];refine wpAny_noted ?_;unfold lTree;refine wpAny_bind (wpAny_standAt (wpAny_bind (BV (λr s₁ h₁=>?_) λ_ _ h'=>h'.elim)));cases r with
 |none=>exact wpAny_pure h₁
 |some v=>
  refine wpAny_bind (XO (λ_ s₁' h₁'=>?_) λ_ _ h'=>h'.elim);refine wpAny_bind (VI (λ_ s₂ h₂=>wpAny_bind (XQ (λok s₃ h₃=>?_) λ_ _ h'=>h'.elim)) λ_ _ h'=>h'.elim);cases ok with
  |false=>exact wpAny_pure ⟨rfl,h₃⟩
  |true=>exact wpAny_bind (wpAny_bind (Mg (λx s₄ h₄=>wpAny_bind (wpAny_mono h₄ (λ_ s₅ h₅=>wpAny_pure (wpAny_pure ⟨rfl,h₅⟩)) λ_ _ h'=>h'.elim)) λ_ _ h'=>h'.elim))
def rLC(g:TG)(tc:TT)(te:TE)(Q:VK)(J:It)(τ:St)(H1:Hp):Prop:=∃W:Nat→Nat→List V→St→Hp→Prop,(∃m,W 0 m [] τ H1)∧∀i m ys τ H,W i m ys τ H →
 (Vo H∧∀D,H D=none→Q Td (Lc D ys)) ∨
 (N6 H∧ys.length<sizeLine∧∀x H',BL H'→g x τ H' λ τ2 H2=>tc τ2 H2 λb H3=>if b=true then te τ2 H3 λy H4=>∃m',m'<m∧W Rm m' (ys++[y]) τ2 H4 else ∃m',m'<m∧W Rm m' ys τ2 H3)
def tLC(ix:Nr)(wi:TI)(g:TG)(tc:TT)(te:TE):TE:=λ σ H Q=>wi σ H λJ H1=>rLC g tc te Q J CL H1
def rIn2(g:TG)(tc:TT)(te:TE)(Fin:List V→St→Hp→Prop)(J:It)(ys:List V)(τ:St)(H1:Hp):Prop:=∃W:Nat→Nat→List V→St→Hp→Prop,(∃m,W 0 m ys τ H1)∧∀i m ys τ H,W i m ys τ H →
 (Vo H∧Fin ys τ H) ∨
 (N6 H∧ys.length<sizeLine∧∀x H',BL H'→g x τ H' λ τ2 H2=>tc τ2 H2 λb H3=>if b=true then te τ2 H3 λy H4=>∃m',m'<m∧W Rm m' (ys++[y]) τ2 H4 else ∃m',m'<m∧W Rm m' ys τ2 H3)
def in_loop{e:Expr}{k:Nat}{Y:Cx}{D:Nb}{P1:Nh}{elt tg iter:Expr}{ifs:Nv}{g:TG}{tc:TT}{te:TE}{fp:No}{it:Nb}{tn:Nat→Heap→Prop}{J:It}{Fin:List V→St→Hp→Prop}{τ0:St}{H0:Hp}{s0:Ni}{qj:List V}{jT:Nj}{k0:Nat}(hT:(model Y.prog Y.w).den El=(lTree elt tg iter ifs SS Td Y.env El).onRaise (λx=>do noteFrame x Y.env;theTreesLotGoes x))(hU:Y.A.under El=Y.A)(hc:Y.calm=true)(eX:Y.xe=λ_ _=>False)(Yg:PG Y tg g)(Yt:PTs Y ifs tc)(Ye:PE Y elt te)(T:JY tn)(fpD:D∉fp)(fD:∀{H':Hp},H' D=none→ME P1 H' D)(f2:∀{H':Hp} {b:Nb},b∈fp→H' b=none→ME P1 H' b)(I0:JF P1 τ0 H0 s0)(t0:tn 0 s0.heap)(n0:∀b∈D::fp,H0 b=none)(d0:s0.heap.get? D=some {cls:=.type "list",data:=.seq jT.toArray k0})(v0:Vals qj jT)(z0:qj.length≤sizeLine)(q:rIn2 g tc te Fin J qj τ0 H0){R:Nw}(hR:∀ys a7 k τ H' s',JF P1 τ H' s'→H' D=none→s'.heap.get? D=some {cls:=.type "list",data:=.seq (a7:Nj).toArray k}→Y3 a7→ys.length≤sizeLine→Fin ys τ H'→R E6 s') :
  codeAny (model Y.prog Y.w) Y.A El R s0:=by
 obtain⟨W,⟨m0,w0⟩,turn⟩:=q;refine loop_by hT hU (λn s'=>Ex6 λi τ H' ys a7 k=>Aj7 (JF P1 τ H' s') E3 (∀b∈D::fp,H' b=none) (s'.heap.get? D=some {cls:=.type "list",data:=.seq (a7:Nj).toArray k}) (Y3 a7) (ys.length≤sizeLine) OT) ?_ m0 ⟨0,τ0,H0,qj,jT,k0,I0,t0,n0,d0,v0,z0,w0⟩;rintro n s5 ⟨i,τ,H5,ys,a7,k,I5,t5,n5,d5,v5,z5,w5⟩;have oD:∀b∈[D],∃o,s5.heap.get? b=some o∧∀v,o.data≠.cell v:=λb hb=>by rw[Qd.mp hb];exact⟨_,d5,λv z=>by cases z⟩
 have im:JF (P1++zb0 [D] s5.heap) τ H5 s5:=I5.pinned (λb hb=>by rw[Qd.mp hb];exact fD (n5 D Qc)) oD;have pD:∀p∈zb0 [D] s5.heap,p.1=D:=λp hp=>Qd.mp (zd4 hp).1;have fN:∀{H':Hp},(∀b∈fp,H' b=none)→∀b∈fp,ME (P1++zb0 [D] s5.heap) H' b:=λhn b hb=>by
  obtain⟨f0,f1,f3,f4,f5,f6⟩:=f2 hb zQ;refine⟨f0,f1,f3,f4,f5,λp hp=>?_⟩;rw[←Qw]at hp;rcases Qm.mp hp with z|z
  ·exact f6 p z
  rw[pD p z];exact λe=>fpD (e▸hb)
 rcases turn i n ys τ H5 w5 with⟨stop,qn⟩|⟨go,zl,step⟩
 ·refine thn (T.done Y rfl rfl rfl hc i _ s5 τ H5 (λ_ _=>False) im (fN λb hb=>n5 b Cu) t5 stop) λr s6 ⟨hr,I6⟩=>?_;subst hr;have hp:=zbt (fp:=[D]) Tk d5;have z:=I6.pin (D,_) (WI wc);exact hR ys a7 k τ H5 s6 I6.unpinned (n5 D Qc) z.1 v5 z5 qn
 refine thn (T.item Y rfl rfl rfl hc i _ s5 τ H5 (λ_ _=>False) im (fN λb hb=>n5 b Cu) t5 go) λr s6 ⟨u,hr,h7⟩=>?_;subst hr;refine thn h7 λ_ s7 ⟨x,H7,I7,r7,y7,t7,n7⟩=>?_;have qi:=Vv (U9 t7);have h8:=Yg _ s7 τ H7 x u _ qi r7 (GY y7);rw[eX]at h8;refine thn h8 λ_ s8 ⟨τ8,H8,I8,q8⟩=>?_;have h9:=Yt _ s8 τ8 H8 _ I8 q8;rw[eX]at h9;refine thn h9 λok s9 ⟨H9,I9,q9⟩=>?_;have again:∀{τ':St} {H':Hp} {s':Ni},JF ((P1++zb0 [D] s5.heap)++BU s7.heap) τ' H' s'→s'.heap.get? D=some {cls:=.type "list",data:=.seq a7.toArray k}∧H' D=none∧tn Rm s'.heap∧∀b∈fp,H' b=none:=λ{τ' H' s'} I'=>by
  have pp:∀{b:Nb} {o:Obj},b∈fp→s7.heap.get? b=some o→s'.heap.get? b=some o∧H' b=none:=λ{b o} hb e=>
   let z:=I'.pin (b,o) L9
   ⟨z.1,z.2.1⟩
  have hp:=zbt (fp:=[D]) Tk d5;have z:=I'.pin (D,_) (WI (YG wc));refine⟨z.1,z.2.1,WO t7 λb hb o e=>(pp hb e).1,λb hb=>?_⟩;obtain⟨o,e,_⟩:=U9 t7 b hb;exact(pp hb e).2
 have drop:∀{τ':St} {H':Hp} {s':Ni},JF ((P1++zb0 [D] s5.heap)++BU s7.heap) τ' H' s'→JF P1 τ' H' s':=λI'=>I'.unpinned.unpinned;cases ok with
 |false=>rw[if_neg HH]at q9 ⊢;obtain⟨m',hm,w9⟩:=q9;obtain⟨d9,H9D,t9,n9⟩:=again I9;exact⟨m',hm,i+1,τ8,H9,ys,a7,k,drop I9,t9,λb hb=>(Qi.mp hb).elim (λe=>e▸H9D) (n9 b),d9,v5,z5,w9⟩
 | true=>
  rw[if_pos rfl]at q9 ⊢;have fG:=Ye _ s9 τ8 H9 _ I9 q9;rw[eX]at fG;refine thn fG λy iu ⟨yv,dD,jF,qq,m',hm,w10⟩=>?_;obtain⟨ve,H10D,qo,n10⟩:=again jF;refine call_meets F.slot_list_append ⟨_,ve,rfl⟩ F.entry_list_append (N9 _) (PySem.list_append D a7.toArray k y (by rw[Qv,←v5.length];assumption)) ⟨ve,?_⟩;have q:=PySem.IsL.update ve (λa=>a.push y);have e11:(a7.toArray.push y)=(a7++[y]).toArray:=by simp
  rw[e11]at q;have kk:∀b o,b≠D→iu.heap.get? b=some o→(iu.heap.update D (Obj.mapSeq λa=>a.push y)).get? b=some o:=λb o hb e=>(Yc iu.heap (Obj.mapSeq λa=>a.push y) Pq).trans e;obtain⟨g0,g1,g2',g3,g4,g5⟩:=fD H10D;have rZ:=(drop jF).turned (h':=iu.heap.update D (Obj.mapSeq λa=>a.push y)) (t':=iu.toks) (it:=D) kk H10D g1 g3 g4 g5;exact⟨m',hm,i+1,τ8,dD,ys++[yv],a7++[y],_,rZ,WO qo λb hb o e=>kk b o (λz=>fpD (z▸hb)) e,λb hb=>(Qi.mp hb).elim (λe=>e▸H10D) (n10 b),q,v5.append (SA qq),
   by rw[Za,Kp];assumption,w10⟩
section
variable{X Y:Cx}{sc:Scope}{oz:Option Str}{M:Ng}{ix:Nr}{a5 pl:Nh}{σ τ:St}{H H5:Hp}{s s6:Ni}{O:Obj}{D:Nb}{g2 h₁:Nn}{fp:No}{it:Nb}{tn:Nat→Heap→Prop}{J:It}{tg:Expr}{U:HO}
structure Opn(X Y:Cx)(sc:Scope)(oz:Option Str)(M:Ng)(ix:Nr)(a5:Nh)(σ:St)(H:Hp)(s:Ni)(O:Obj)(fp:No)(D:Nb)(g2 h₁:Nn):Prop where
 hX:V3 (D::fp) {s with heap:=g2} H=Y
 hC:g2.objs.size=D+1
 I3:ZA H {s with heap:=g2}
 HD:H D=none
 k:∀b o,s.heap.get? b=some o→h₁.get? b=some o
 D1:h₁.get? D=some O
 fpx:∀b∈D::fp,Y2 b
 fpD:D∉fp
 IY:JF [] CL H {s with heap:=h₁,toks:=s.toks+([]:List (Str×Value)).length}
 fY:∀{H':Hp} {pl:Nh} {b:Nb},b∈D::fp→H' b=none→(∀p∈pl,p.1≠b)→ME pl H' b
 eP:Y.prog=X.prog
 eW:Y.w=X.w
 eK:Y.K=X.K
 eA:Y.A=X.A
 eC:Y.calm=X.calm
 eE:Y.env=compEnvC sc vq g2.objs.size X.env
 eX:Y.xe=λ_ _=>False
def zj5(B:UG ix)(I:Ro)(T:VJ tn)(h0:tn 0 s.heap)(hf:∀b∈fp,Y2 b)(hD:s.heap.objs.size=D)(gY:s.heap.push O=g2)(hO:O.isFreed=false)(cg:Da (g2.push {cls:=.type "dict",data:=.dict #[]})=h₁) :
  ∃Y,X1 h₁:=by
 have kp:∀(q:Nn) (b:Nb) (o:Obj),q.get? b=some o→(Da q).get? b=some o:=λq b o e=>by
  cases oz with
  |none=>exact e
  |some _=>exact WF e
 have hns₁:h₁.Ns g2.objs.size (λ_=>none):=cg▸(Heap.Ns.new g2 (.type "dict")).keeps λb o e=>kp _ b o e;have hz₁:∀z,oz=some z→h₁.IsCell (g2.objs.size+1) none:=λz ez=>by have e:(g2.push {cls:=.type "dict",data:=.dict #[]}).objs.size=g2.objs.size+1:=Wj ..;rw[←cg,←e,ez];exact⟨_,To,rfl⟩
 have hC:g2.objs.size=D+1:=by rw[←gY,Wj,hD]
 have k2:∀b o,s.heap.get? b=some o→g2.get? b=some o:=λb o e=>by rw[←gY];exact WF e
 have I3:ZA H {s with heap:=g2}:=I.kept (t':=s.toks) k2;have HD:H D=none:=I.hok.fresh (RN hD);have fD:Y2 D:=I.fpOk (RN hD) HD;have D2:g2.get? D=some O:=by rw[←gY,←hD];exact U5 hO
 have k1:∀b o,g2.get? b=some o→h₁.get? b=some o:=λb o e=>cg▸kp _ b o IE;have fpx:∀b∈D::fp,Y2 b:=λb hb=>by
  rcases Qi.mp hb with e|e
  ·rw[e];exact fD
  exact hf b e
 have fplt:∀b∈D::fp,b<g2.objs.size:=λb hb=>by
  rcases Qi.mp hb with e|e
  ·rw[e,hC];exact Yy _
  obtain⟨o,q,_⟩:=U9 h0 b e;exact Qx (k2 b o q)
 have fpD:D∉fp:=λhm=>by obtain⟨o,q,_⟩:=U9 h0 D hm;have:=Qx q;rw[hD]at this;exact We _ this
 generalize fe:V3 (D::fp) {s with heap:=g2} H=Y;have IY:JF [] CL H {s with heap:=h₁,toks:=s.toks+([]:List (Str×Value)).length}:=by rw[←fe];exact inv_blkG B I3 fpx fplt rfl hns₁ hz₁ k1 rfl rfl
 have eEx:Y.ex=D::fp:=by rw[←fe];rfl
 have eFs:Y.fs=frs X.stack:=by rw[←fe];rfl
 have ePn:Y.pn=X.pn++a5:=by rw[←fe];rfl
 have eL:Y.env.locals=g2.objs.size:=by rw[←fe];rfl
 have fY:∀{H':Hp} {pl:Nh} {b:Nb},b∈D::fp→H' b=none→(∀p∈pl,p.1≠b)→ME pl H' b:=λ{H' pl b} hb hn hp=>by
  obtain⟨f0,f1,f2,f3,f4,f5⟩:=fpx b hb;refine⟨hn,?_,?_,.inl (HP eEx hb),IY.ok.exf b (HP eEx hb) |>.2,λp qV=>?_⟩
  ·rw[eL];exact Zj (fplt b hb)
  ·rw[eFs];intro z;rcases Qi.mp (I3.stkSub b z) with q|q
   ·exact f1 q
   exact f2 q
  rw[ePn]at qV;rcases Qm.mp qV with z|z
  ·exact f5 p z
  exact hp p z
 exact⟨Y,fe,hC,I3,HD,λb o e=>k1 b o (k2 b o e),k1 _ _ D2,fpx,fpD,IY,fY,by rw[←fe];rfl,by rw[←fe];rfl,by rw[←fe];rfl,by rw[←fe];rfl,by rw[←fe];rfl,by rw[←fe];rfl,by rw[←fe];rfl⟩
def Opn.fin(o:X1 h₁)(I6:JF pl τ H5 s6)(H5D:H5 D=none)(hu:Z1 (QZ D U) s6.heap D U) :
  Inv X a5 σ (QZ D U) s6∧(∃m,s6.heap.Ns g2.objs.size m)∧QZ D U g2.objs.size=none:=by
 obtain⟨mL,nL,_⟩:=I6.loc;have fr:=I6.free;have u6:=I6.base;have os6:=I6.os;have ok6:=I6.hok;have eL:Y.env.locals=g2.objs.size:=by rw[o.eE];rfl
 rw[eL]at nL fr;rw[o.eP,o.eW]at ok6;rw[←o.hX]at u6 os6;refine⟨?_,⟨mL,nL⟩,?_⟩
 ·refine o.I3.call' (ch:=D::fp) os6 ⟨u6.keep,u6.slot,λb o' e n hx=>?_,u6.there,λb xs e=>?_,λb o' u e=>?_,λb ps e=>?_⟩ ?_ I6.bare λb hb=>?_
  ·rw[zag (λz=>hx (HP z Qc))];exact u6.free b o' e n hx
  ·rw[zag (Fc o.HD)];exact u6.tups b xs e
  ·rw[zag (Fc o.HD)];exact u6.frzs b o' u e
  ·rw[zag (Fc o.HD)];exact u6.tbls b ps e
  ·intro b u e;by_cases hb:b=D
   ·subst hb;rw[zab]at e;cases e;exact hu
   rw[yT]at e;exact(ok6 b u e).stay (λc v _ q=>q) (λc q=>by rw[zag (DU H5D)];exact q) λc xs q=>by rw[zag (DU H5D)];exact q
  obtain⟨f0,f1,f2,f3,f4,f5⟩:=o.fpx b hb;exact⟨f3,f1,f4,f5⟩
 rw[zag (by rw[o.hC];exact Nat.succ_ne_self _)];exact fr
def Inv.letgo{C:Nb}{m:Nd}{h':Nn}{s₀:Nn}(I:Ro)(hn:s.heap.Ns C m)(hC:H C=none)(ad:X.env.locals<s₀.objs.size)(cO:∀x c,X.env.cells.lookup x=some c→c<s₀.objs.size)(hp:∀p∈X.pn++a5,p.1<s₀.objs.size)(ar:X.s₀.heap.objs.size≤s₀.objs.size)(hc:s₀.objs.size<C)(hs:Heap.SameBut C s.heap h'):ZA H {s with heap:=h'}:=
 I.turned (t':=s.toks) (it:=C) (λb o hb e=>(AN hb).trans e) hC (Wa (Uk ad hc)) (SJ (Zi ar (Ud hc))) (λx c e=>Zj (Uk (cO x c e) hc)) λp q=>Zj (Uk (hp p q) hc)
def Inv.cl_lt(I:Ro):∀x c,X.env.cells.lookup x=some c→c<s.heap.objs.size:=λx c e=>by obtain⟨v,q⟩:=JV e;exact q.lt
def Inv.pin_lt(I:Ro):∀p∈X.pn++a5,p.1<s.heap.objs.size:=λp hp=>Qx (BK hp).1
variable{e elt iter:Expr}{mk:Sem Value}{rr:VK→It→St→Hp→Prop}{ifs ifs':Nv}{gs:List Comprehension}{pos p py spos:Pos}{g:TG}{tc:TT}{te:TE}{wi:TI}{i:Nat}{y:Str}
def BOk(X:Cx)(sc:Scope)(ix:Nr)(e tg:Expr)(mk:Sem Value)(rr:VK→It→St→Hp→Prop):Prop:=
 ∀ {a5:Nh} {σ:St} {H:Hp} {s:Ni} {fp:No} {it:Nb} {tn:Nat→Heap→Prop} {J:It} {Q:VK} {RR:Value→Addr→Result→Shared→Prop} {E:Nc},ZA H s→VJ tn→tn 0 s.heap→(∀ b∈fp,Y2 b)→rr Q J CL H →
  (∀D C m U H' s',ZA (U6 D U) s'→Q Td (U6 D U)→s'.heap.Ns C m→U6 D U C=none→s.heap.objs.size<C→RR Td C E6 s') →
  wpAny HU X.A mk (λag s₃=>ZF (newFunctionEnv sc X.env.globals TC [] X.env.qual none .none (some X.env)) (λcenv s₄=>codeAny HU X.A (.compStart e 0 SS ag {cenv with scope:=relabel sc X.env}) (RR ag cenv.locals) s₄) E s₃) E s
def lc_blockG(B:UG ix)(hc:X.calm=true)(hg:∀C a5 ex s H,PG P7 tg g)(ht:∀C a5 ex s H,PTs P7 ifs tc)(he:∀C a5 ex s H,PE P7 elt te) :
  BOk X sc ix (.ListComp elt [⟨tg,iter,ifs,0⟩] sc pos) tg (newList []) (rLC g tc te):=by
 intro a5 σ H s fp it tn J Q RR E I T h0 hf q pQ;refine wpAny_newObj_type (zf1 B.one B.psh ?_);dsimp only;generalize hD:s.heap.objs.size=D;generalize gY:s.heap.push {cls:=.type "list",dict:=none,data:=.seq ([]:List Value).toArray}=g2;generalize cg:Da (g2.push {cls:=.type "dict",data:=.dict #[]})=h₁;obtain⟨Y,o⟩:=zj5 B I T h0 hf hD gY rfl cg;have loop:codeAny HU X.A (ze (.ListComp elt [⟨tg,iter,ifs,0⟩] sc pos) SS (Ev vq)) E7 {s with heap:=h₁,toks:=s.toks+([]:List (Str×Value)).length}:=by rw[←o.eP,←o.eW,←o.eA,←o.eE];refine in_loop (P1:=[]) rfl rfl (o.eC.trans hc) o.eX (o.hX▸hg _ _ _ _ _) (o.hX▸ht _ _ _ _ _) (o.hX▸he _ _ _ _ _) (by rw[o.eP,o.eW,o.eK];exact T) o.fpD (λhn=>o.fY Qc hn HA) (λhb hn=>o.fY Cu hn HA) o.IY (WO h0 λb _ o' e=>o.k b o' e) (λb hb=>(o.fpx b hb).1) o.D1 .nil SW q λys a7 k τ H' s' I' n' d' v' z' fin=>?_;obtain⟨j1,⟨m,j2⟩,j3⟩:=o.fin (U:=.lst ys) I' n' ⟨z',a7,k,v',d'⟩;exact pQ D _ m _ H' s' j1 (fin D n') j2 j3 (by rw[o.hC,hD];exact Yy _)
 exact codeAny_compStart_list loop (VL (WO h0 λb _ o' e=>o.k b o' e) loop)
end
section
variable{X:Cx}{sc:Scope}{oz:Option Str}{M:Ng}{ix:Nr}{a5:Nh}{σ:St}{H:Hp}{s:Ni}{e tg elt iter:Expr}{mk:Sem Value}{rr:VK→It→St→Hp→Prop}{ifs ifs':Nv}{gs:List Comprehension}{pos p py spos:Pos}{g:TG}{tc:TT}{te:TE}{wi:TI}{i:Nat}{y:Str}
def pe_comp(bk:Fp rr)(B:UG ix)(hi:YI wi)(hs:∀x,foldedSetIterable iter X.env x=pure x)(cO:clausesOf e=⟨tg,iter,ifs,0⟩::gs)(uz:eval e X.env=comprehension e sc X.env p mk false Ol) :
  PE X e (λ σ H Q=>wi σ H λJ H1=>rr Q J CL H1):=by
 intro a5 s σ H Q I h;rw[uz];refine wpAny_comprehension_free (use:=none) cO hs (zd9 (B.clos I)) B.kind B.names (thn Li λv s1 h1=>thn h1 λitv s2 h2=>?_);obtain⟨it,fp,tn,J,H2,e,I2,T,cj,f2,q⟩:=h2;subst e;refine bk (RR:=λag C=>compPost HU X.A X.xe none Lu ag C) I2 T cj f2 q ?_;intro D C m U H' s' I' q' hn hC ad;refine⟨m,hn,λh' dF=>⟨Td,_,I'.letgo hn hC I2.lt I2.cl_lt I2.pin_lt I2.sz ad dF,rfl,q'⟩⟩
def ps_comp(bk:Fp rr)(hN:X.N.Nodup)(ap:X.N[i]?=some y)(hy:X.env.scope.names.lookup y=some .local)(B:UG ix)(hi:YI wi)(hs:∀x,foldedSetIterable iter X.env x=pure x)(cO:clausesOf e=⟨tg,iter,ifs,0⟩::gs)(uz:∀u,evalThenUse e X.env u=do let _ ←comprehension e sc X.env p mk false Ol xc)(i5:swapsWith e wd spos.line X.env=pure true) :
  PS X (.Assign [Tu] e spos) (tAsg (λ σ H Q=>wi σ H λJ H1=>rr Q J CL H1) Iq):=by
 intro a5 s σ H D' I h;rw[exec_Assign_Name_used _ _ _ _ i5,uz];refine wpAny_bind (wpAny_standAt (wpAny_bind ?_));refine wpAny_bind (wpAny_mono (wpAny_comprehension_free (use:=some we) (Q:=λ_ s'=>Mo D' .next s') cO hs (zd9 (B.clos I)) B.kind B.names
  (thn Li λv s1 h1=>thn h1 λitv s2 h2=>?_)) (λ_ s' hq=>wpAny_pure (RK hq)) λ_ _ e=>e)
 obtain⟨it,fp,tn,J,H2,e,I2,T,cj,f2,q⟩:=h2;subst e;refine bk (RR:=λag C=>compPost HU X.A X.xe (HW we) (λ_ s'=>Mo D' .next s') ag C) I2 T cj f2 q ?_;intro D C m U H' s' I' q' hn hC ad;show ZV X.A (assign Tu X.env Td) _ _ s';refine wpAny_assign_Name (store_ok2 I' hN ap (Rq hy) (v:=.ref D) rfl (λqp I'' ⟨a,sb,ha⟩=>?_) zf);have aC:C≠a:=by
  rcases ha with z|z
  ·rw[z];exact Wa (Uk I2.lt ad)
  exact Wa (Uk (I2.cl_lt _ _ z) ad)
 have cc:=hn.sameBut sb aC;exact⟨m,cc,λh' dF=>⟨_,_,I''.letgo cc hC I2.lt I2.cl_lt I2.pin_lt I2.sz ad dF,q'⟩⟩
def pe_lcC(B:UG ix)(hc:X.calm=true)(hi:YI wi)(hg:∀C a5 ex s H,PG P7 tg g)(ht:∀C a5 ex s H,PTs P7 ifs tc)(he:∀C a5 ex s H,PE P7 elt te)(hs:∀x,foldedSetIterable iter X.env x=pure x:=by intro _;rfl):Z9 (.ListComp elt [⟨tg,iter,ifs,0⟩] sc pos) (MF te):=pe_comp (lc_blockG B hc hg ht he) B hi hs rfl (eval_ListComp ..)
def zdu(B:YM ix)(hc:X.calm=true)(hi:YI wi)(hg:∀C a5 ex s H,UO tg g)(ht:∀C a5 ex s H,YV tc)(he:∀C a5 ex s H,UP elt te)(hs:∀x,foldedSetIterable iter X.env x=pure x:=by intro _;rfl):Z9 (.ListComp elt [⟨tg,iter,ifs,0⟩] sc pos) (MF te):=pe_lcC B.g hc hi hg ht he hs
def ps_lc(hN:X.N.Nodup)(ap:X.N[i]?=some y)(hy:X.env.scope.names.lookup y=some .local)(B:YM ix)(hc:X.calm=true)(hi:YI wi)(hg:∀C a5 ex s H,UO tg g)(ht:∀C a5 ex s H,YV tc)(he:∀C a5 ex s H,UP elt te)(i5:swapsWith (.ListComp elt [⟨tg,iter,ifs,0⟩] sc pos) wd spos.line X.env=pure true)(hs:∀x,foldedSetIterable iter X.env x=pure x:=by intro _;rfl):KO (.Assign [Tu] (.ListComp elt [⟨tg,iter,ifs,0⟩] sc pos) spos) (tAsg (MF te) Iq):=
 ps_comp (lc_blockG B.g hc hg ht he) hN ap hy B.g hi hs rfl (λ_=>rfl) i5
end
end L2
namespace Tm
open PySem PyProof.Rows
def gallopT:Bool→Keyed→Array Keyed→Nat→Nat→Nat→StateT SortSt Sem (Option Nat):=sortPriv% PySem.Builtin.gallop
def mergeLoT:Array Keyed→Array Keyed→StateT SortSt Sem (Array Keyed):=sortPriv% PySem.Builtin.mergeLo
def mergeHiT:Array Keyed→Array Keyed→StateT SortSt Sem (Array Keyed):=sortPriv% PySem.Builtin.mergeHi
section
variable{σ α β:Type}{M:Model}{A:Np}{E:Nc}{s:Ni}{Q:α→σ→Prop}{st:σ}{c:Prop}[Decidable c]
def zdp(h:∀Q0:α→σ→Prop,(∀r aa,Q r aa→Q0 r aa)→J7 m Q0 st):J7 m Q st:=h Q λ_ _ z=>z
def jp_if{f:Unit→β→StateT σ Sem α}(h:∀z,J7 (f () z) Q st):J7 (if c then f () x else f () y) Q st:=by
 split
 ·exact h _
 exact h _
def zaq{x y:StateT σ Sem α}(h1:c→J7 x Q st)(h2:¬c→J7 y Q st):J7 (if c then x else y) Q st:=by
 split
 next z=>exact h1 z
 next z=>exact h2 z
end
section
variable{prog:Nk}{w:Nl}{A:Np}{E:Nc}{s:Ni}{kd:SortKind}{a₀:Array Keyed}
def Cmp(prog:Nk)(w:Nl)(A:Np)(E:Nc)(s:Ni)(kd:SortKind)(a₀:Array Keyed):Prop:=
 ∀(x y:Keyed) (st:SortSt) (Q:Option Bool→SortSt→Prop),x∈a₀.toList→y∈a₀.toList→kindOf st=kd→(∀b,Q (HW b) st)→ZM (lt' x y) Q st
def Of(a₀ xs:Array Keyed):Prop:=∀(i:Nat) (p:Keyed),xs[i]?=some p→p∈a₀.toList
def za3{arr:Array Keyed}{i:Nat}{p:Keyed}{Q:Keyed→SortSt→Prop}{st:SortSt}(h:arr[i]?=some p)(q:Q p st):ZM (elem' arr i) Q st:=by rw[elem'_eq,h];exact wpS_pure q
def beyondT(left:Bool)(ky:Keyed)(arr:Array Keyed)(i:Nat):JG (Option Bool):=do
 let x ←elem' arr i
 if left=true then lt' x ky else do
  let r ←lt' ky x
  pure (r.map λz=>!z)
def wpS_beyond{left:Bool}{ky:Keyed}{arr:Array Keyed}{i:Nat}{Q:Option Bool→SortSt→Prop}{st:SortSt}(C:QU a₀)(hk:kindOf st=kd)(hO:KH arr)(hy:ky∈a₀.toList)(hi:i<arr.size)(q:∀b,Q (HW b) st):ZM (Fq i) Q st:=by
 have e:=getElem?_pos arr i hi;unfold beyondT;refine wpS_bind (za3 e ?_);have m:=hO _ _ e;cases left with
 |true=>exact C _ _ _ _ m hy hk q
 |false=>exact wpS_bind (C _ _ _ _ hy m hk λb=>wpS_pure (q _))
def zcz{left:Bool}{ky:Keyed}{arr:Array Keyed}{base n hint:Nat}{Q:Option Nat→SortSt→Prop}{st:SortSt}(C:QU a₀)(hk:kindOf st=kd)(hO:KH arr)(hy:ky∈a₀.toList)(hb:base+n≤arr.size)(hh:hint<n)(h:∀k,k≤n→Q (HW k) st):ZM (gallopT left ky arr base n hint) Q st:=by
 have ask:∀{i:Nat} {Q':Option Bool→SortSt→Prop},i<n→(∀b,Q' (HW b) st)→ZM (Fq (base+i)) Q' st:=λ{i Q'} hi q=>wpS_beyond C hk hO hy HB q;have last:∀(f:Nat→(Option Oq×Nat×Nat)→JG (ForInStep (Option Oq×Nat×Nat))) (lo hi:Nat),lo≤hi→hi≤n →
   (∀x l r Q',l≥r→Q' (ForInStep.done (none,l,r)) st→ZM (f x (none,l,r)) Q' st) →
   (∀x l r Q',¬l≥r→r≤n→Q' (SM (none,l+(r-l)/2+1,r)) st→Q' (SM (none,l,l+(r-l)/2)) st→ZM (f x (none,l,r)) Q' st) →
   wpS Rb A E s (forIn [:n] (none,lo,hi) f) (λc aa=>aa=st∧∃k,c=(none,k,k)∧k≤n) st:=by
  intro f lo hi h1 h2 f1 f2;refine wpS_forRange (I:=λx c aa=>Aj2 (aa=st) (Ex2 λl r=>Aj4 (c=(none,l,r)) (l≤r) (r≤n) (r-l≤n-x))) ?step ?fin ?init
  case init=>exact⟨rfl,lo,hi,rfl,h1,h2,HB⟩
  case fin=>
   rintro c aa ⟨rfl,l,r,rfl,a1,a2,a3⟩;have:l=r:=by lia
   subst this;exact⟨rfl,l,rfl,a2⟩
  case step=>
   rintro x c aa _ hx ⟨rfl,l,r,rfl,a1,a2,a3⟩;by_cases eV:l≥r
   ·refine f1 x l r _ eV ?_;have:l=r:=Nat.le_antisymm a1 eV;subst this;exact⟨rfl,l,rfl,a2⟩
   exact f2 x l r _ eV a2 ⟨rfl,_,_,rfl,HB,a2,HB⟩ ⟨rfl,_,_,rfl,FA _,HB,HB⟩
 unfold gallopT;refine wpS_bind (ask (i:=hint) hh λb0=>?_);cases b0 with
 | true=>
  refine wpS_bind (wpS_mono (wpS_forRange
   (I:=λx c aa=>Aj2 (aa=st) (Ex2 λla of=>Aj4 (c=(none,la,of)) (hint+la<n) (la<of) (x<of)))
   (Q:=λc aa=>Aj2 (aa=st) (Ex2 λla of=>Aj3 (c=(none,la,of)) (hint+la<n) (la<of))) ?step ?fin ?init) ?post)
  case init=>exact⟨rfl,0,1,rfl,hh,Rf,Rf⟩
  case fin=>rintro c aa ⟨rfl,la,of,rfl,a2,a3,a4⟩;exact⟨rfl,la,of,rfl,a2,a3⟩
  case step=>
   rintro x c aa _ hx ⟨rfl,la,of,rfl,a2,a3,a4⟩;dsimp only;refine zaq (λ_=>wpS_pure ⟨rfl,la,of,rfl,a2,a3⟩) λeV=>wpS_bind (ask (i:=hint+of) HB λb=>?_);cases b with
   |true=>exact wpS_pure ⟨rfl,of,2*of+1,rfl,HB,HB,HB⟩
   |false=>exact wpS_pure ⟨rfl,la,of,rfl,a2,a3⟩
  case post=>
   rintro c aa ⟨rfl,la,of,rfl,a2,a3⟩;refine wpS_bind (wpS_mono (last _ (hint+la+1) (hint+min of (n-hint)) HB HB ?_ ?_) ?_)
   ·intro x l r Q' eV q;exact zaq (λ_=>wpS_pure q) λz=>absurd eV z
   ·intro x l r Q' eV hr q1 q2;refine zaq (λz=>absurd z eV) λ_=>wpS_bind (ask (i:=l+(r-l)/2) HB λb=>?_);cases b with
    |true=>exact wpS_pure q1
    |false=>exact wpS_pure q2
   rintro c aa ⟨rfl,k,rfl,b1⟩;exact wpS_pure (h k b1)
 | false=>
  refine wpS_bind (wpS_mono (wpS_forRange
   (I:=λx c aa=>Aj2 (aa=st) (Ex2 λla of=>Aj4 (c=(none,la,of)) (la≤hint) (la<of) (x<of)))
   (Q:=λc aa=>Aj2 (aa=st) (Ex2 λla of=>Aj3 (c=(none,la,of)) (la≤hint) (la<of))) ?step ?fin ?init) ?post)
  case init=>exact⟨rfl,0,1,rfl,SW,Rf,Rf⟩
  case fin=>rintro c aa ⟨rfl,la,of,rfl,a2,a3,a4⟩;exact⟨rfl,la,of,rfl,a2,a3⟩
  case step=>
   rintro x c aa _ hx ⟨rfl,la,of,rfl,a2,a3,a4⟩;dsimp only;refine zaq (λ_=>wpS_pure ⟨rfl,la,of,rfl,a2,a3⟩) λeV=>wpS_bind (ask (i:=hint-of) HB λb=>?_);cases b with
   |true=>exact wpS_pure ⟨rfl,la,of,rfl,a2,a3⟩
   |false=>exact wpS_pure ⟨rfl,of,2*of+1,rfl,HB,HB,HB⟩
  case post=>
   rintro c aa ⟨rfl,la,of,rfl,a2,a3⟩;refine wpS_bind (wpS_mono (last _ (hint+1-min of (hint+1)) (hint-la) HB HB ?_ ?_) ?_)
   ·intro x l r Q' eV q;exact zaq (λ_=>wpS_pure q) λz=>absurd eV z
   ·intro x l r Q' eV hr q1 q2;refine zaq (λz=>absurd z eV) λ_=>wpS_bind (ask (i:=l+(r-l)/2) HB λb=>?_);cases b with
    |true=>exact wpS_pure q1
    |false=>exact wpS_pure q2
   rintro c aa ⟨rfl,k,rfl,b1⟩;exact wpS_pure (h k b1)
variable{all out ra rb seg:List Keyed}
def Pm(all out ra rb:List Keyed):Prop:=(out++(ra++rb)).Perm all
def Pm.appA(j:Pm all out (seg++ra) rb):Pm all (out++seg) ra rb:=by unfold Pm at *;rw[Qw,←Qw seg];exact j
def Pm.appB(j:Pm all out ra (seg++rb)):Pm all (out++seg) ra rb:=by unfold Pm at *;rw[Qw];refine List.Perm.trans (Mh ?_) j;rw[←Qw,←Qw];exact Wn.append_right _
def drop_cons{a:Array Keyed}{i:Nat}(h:i<a.size):a.toList.drop i=a[i]::a.toList.drop Rm:=by rw[Yu (HE h)];simp
def zdq{a:Array Keyed}{i:Nat}:(a.extract i a.size).toList=a.toList.drop i:=by simp[Qr]
def zhl{a:Array Keyed}{i k:Nat}(h:i+k≤a.size):(yi i (i+k)).toList++a.toList.drop (i+k)=a.toList.drop i:=by
 rw[Array.toList_extract,Xe];have:i+k-i=k:=by lia
 rw[this,←List.drop_drop,Wm]
abbrev Pa(a b o:Array Keyed)(i k:Nat):Prop:=Pm RV o.toList (a.toList.drop i) (b.toList.drop k)
variable{a b o:Array Keyed}{i k n:Nat}
def Pa.pushA(j:Y5 k)(h:i<a.size):UH (o.push a[i]) Rm k:=by have:=Pm.appA (seg:=[a[i]]) (ra:=a.toList.drop Rm) (by rw[List.singleton_append,←drop_cons h];exact j);rwa[←Jc]at this
def Pa.pushB(j:Y5 k)(h:k<b.size):UH (o.push b[k]) i (k+1):=by have:=Pm.appB (seg:=[b[k]]) (rb:=b.toList.drop (k+1)) (by rw[List.singleton_append,←drop_cons h];exact j);rwa[←Jc]at this
def Pa.runA(j:Y5 k)(h:i+n≤a.size):UH (o++a.extract i (i+n)) (i+n) k:=by have:=Pm.appA (seg:=(yi i (i+n)).toList) (ra:=a.toList.drop (i+n)) (by rw[zhl h];exact j);show Pm _ (o++a.extract i (i+n)).toList _ _;rw[Ys];exact this
def Pa.runB(j:Y5 k)(h:k+n≤b.size):UH (o++b.extract k (k+n)) i (k+n):=by have:=Pm.appB (seg:=(b.extract k (k+n)).toList) (rb:=b.toList.drop (k+n)) (by rw[zhl h];exact j);show Pm _ (o++b.extract k (k+n)).toList _ _;rw[Ys];exact this
def Pa.end1(j:Y5 k):(o++a.extract i++b.extract k).toList.Perm RV:=by rw[Ys,Ys,zdq,zdq,Qw];exact j
def Pa.end2(j:Y5 k):(o++b.extract k++a.extract i).toList.Perm RV:=by rw[Ys,Ys,zdq,zdq,Qw];exact(Mh Wn).trans j
def SG(st aa:SortSt):Prop:=∃g,aa=Vj (Sk st) g (yj st)
def wpS_mergeLo{Q:Array Keyed→SortSt→Prop}{st:SortSt}(C:QU a₀)(hk:kindOf st=kd)(oa:KH a)(ob:KH b)(ha:0 < a.size)(hb:0 < b.size)(h:∀(res:Array Keyed) (aa:SortSt),res.toList.Perm RV→Gm aa→Q res aa):ZM (mergeLoT a b) Q st:=by
 have ia_:∀i (hi:i<a.size),a[i]∈a₀.toList:=λi hi=>oa i _ (getElem?_pos a i hi);have ib_:∀i (hi:i<b.size),b[i]∈a₀.toList:=λi hi=>ob i _ (getElem?_pos b i hi);have ea:∀i (hi:i<a.size),a[i]?=some a[i]:=λi hi=>getElem?_pos a i hi;have eb:∀i (hi:i<b.size),b[i]?=some b[i]:=λi hi=>getElem?_pos b i hi;have sgk:∀{aa},Gm aa→kindOf aa=kd:=λ⟨g,e⟩=>by rw[e];exact hk
 unfold mergeLoT;refine wpS_bind (wpS_lift (wpAny_rule ⟨rfl,wpS_bind (za3 (eb 0 hb) ?_)⟩));have j0:UH (#[b[0]]:Array Keyed) 0 1:=by
  have j:UH (#[]:Array Keyed) 0 0:=by show List.Perm _ _;simp
  exact j.pushB hb
 refine zaq (λc1=>wpS_pure (h _ _ j0.end1 ⟨_,rfl⟩)) λc1=>zaq (λc2=>wpS_pure (h _ _ j0.end2 ⟨_,rfl⟩)) λc2=>?_;have vf:¬b.size=1:=λz=>c1 (by simp[z]);have c2':¬a.size=1:=λz=>c2 (by simp[z]);refine wpS_bind (wpS_get ?_);refine wpS_bind (wpS_mono (wpS_forRange
  (I:=λx c aa=>YW (Ex4 λo i k g=>Aj5 (c=(none,o,i,k,g)) (i+1<a.size) (k<b.size) xr (x≤i+k)))
  (Q:=λc aa=>YW Sc) ?step ?fin ?init) ?post)
 case init=>exact⟨⟨vG⟩,_,0,1,vG,HB,HB,j0,HB⟩
 case fin=>rintro c aa ⟨_,o,i,k,g,rfl,a1,a2,a3,a4⟩;exfalso;lia
 case post=>rintro c aa ⟨g,res,r,rfl,m⟩;exact wpS_pure (h res aa m g)
 case step=>
  rintro x c bq _ hx ⟨g1,o1,i1,k1,mg,rfl,a1,a2,a3,a4⟩;dsimp -zeta only;refine wpS_bind (wpS_mono (wpS_forRange
   (I:=λy c aa=>Aj2 (aa=bq) (Ex5 λo i k ac bc=>Aj5 (c=(none,o,i,k,ac,bc)) (i+1<a.size) (k<b.size) xr (i1+k1+y≤i+k)))
   (Q:=λc aa=>Aj2 (aa=bq) (Sc∨Ex5 λo i k ac bc=>Aj5 (c=(none,o,i,k,ac,bc)) (i+1<a.size) (k<b.size) xr (i1+k1<i+k))) ?step1 ?fin1 ?init1) ?post1)
  case init1=>exact⟨rfl,o1,i1,k1,0,0,rfl,a1,a2,a3,Rf⟩
  case fin1=>rintro c aa ⟨_,o,i,k,ac,bc,rfl,b1,b2,b3,b4⟩;exfalso;lia
  case step1=>
   rintro y c cj _ hy ⟨rfl,o,i,k,ac,bc,rfl,b1,b2,b3,b4⟩;have rX:i<a.size:=by lia
   dsimp -zeta only;refine wpS_bind (za3 (eb k b2) (wpS_bind (za3 (ea i rX) (wpS_bind (C _ _ _ _ (ib_ k b2) (ia_ i rX) (sgk g1) λe=>?_)))));dsimp -zeta only;refine zaq (λ_=>?_) (λ_=>?_)
   ·refine wpS_bind (za3 (eb k b2) ?_);have j:=b3.pushB b2;refine zaq (λ_=>wpS_pure ⟨rfl,Rq ⟨_,_,rfl,j.end1⟩⟩) λd1=>?_;have qe:¬k+1=b.size:=λz=>d1 RJ;exact zaq (λ_=>wpS_pure ⟨rfl,SJ ⟨_,i,k+1,_,_,rfl,b1,HB,j,HB⟩⟩) λ_=>wpS_pure ⟨rfl,_,i,k+1,_,_,rfl,b1,HB,j,HB⟩
   refine wpS_bind (za3 (ea i rX) ?_);have j:=b3.pushA rX;refine zaq (λ_=>wpS_pure ⟨rfl,Rq ⟨_,_,rfl,j.end2⟩⟩) λd1=>?_;have qe:¬i+1+1=a.size:=λz=>d1 RJ;exact zaq (λ_=>wpS_pure ⟨rfl,SJ ⟨_,i+1,k,_,_,rfl,HB,b2,j,HB⟩⟩) λ_=>wpS_pure ⟨rfl,_,i+1,k,_,_,rfl,HB,b2,j,HB⟩
  case post1=>
   rintro c cj ⟨rfl,⟨res,r,rfl,m⟩|⟨o2,i2,k2,ac2,bc2,rfl,b1,b2,b3,b4⟩⟩
   ·exact wpS_pure ⟨g1,res,_,rfl,m⟩
   dsimp -zeta only;refine wpS_bind (wpS_lift (wpAny_rule ⟨rfl,?_⟩));refine wpS_bind (wpS_mono (wpS_forRange
    (I:=λy c aa=>YW (Ex6 λo i k g ac bc=>Aj5 (c=(none,o,i,k,g,ac,bc)) (i+1<a.size) (k<b.size) xr (i2+k2≤i+k)))
    (Q:=λc aa=>YW (Sc∨Ex6 λo i k g ac bc=>Aj5 (c=(none,o,i,k,g,ac,bc)) (i+1<a.size) (k<b.size) xr (i2+k2≤i+k))) ?step2 ?fin2 ?init2) ?post2)
   case init2=>exact⟨g1,o2,i2,k2,_,_,vG,b1,b2,b3,Rf⟩
   case fin2=>rintro c aa ⟨g,o,i,k,g',ac,bc,rfl,c1,c2,c3,c4⟩;exact⟨g,SJ ⟨o,i,k,g',ac,bc,rfl,c1,c2,c3,c4⟩⟩
   case post2=>
    rintro c aA ⟨g3,⟨res,r,rfl,m⟩|⟨o3,i3,k3,g',vn,vg,rfl,c1,c2,c3,c4⟩⟩
    ·exact wpS_pure ⟨g3,res,_,rfl,m⟩
    dsimp -zeta only;refine wpS_bind (wpS_modify ?_);obtain⟨gg,e3⟩:=g3;exact wpS_pure ⟨⟨_,by rw[e3]⟩,o3,i3,k3,_,rfl,c1,c2,c3,HB⟩
   case step2=>
    rintro y c aA _ hy ⟨g3,o3,i3,k3,mg3,vn,vg,rfl,c1,c2,c3,c4⟩;refine zdp λQ0 bH=>?_;dsimp -zeta only;have sgm:∀g',Gm (LM g'):=λg'=>by obtain⟨g,e⟩:=g3;exact⟨g',by rw[e]⟩
    extract_lets -underBinder+onlyGivenNames s1 out s2 ia s3 ib s4 mn s5 ac bc jp;refine jp_if (f:=jp) λm'=>wpS_bind (wpS_modify (wpS_bind (za3 (eb k3 c2) (wpS_bind (zcz (base:=i3) (n:=a.size-i3) (hint:=0) C yk oa (ib_ k3 c2) HB HB λk q1=>?_)))));dsimp -zeta only;have jr:=c3.runA (n:=k) HB;extract_lets -underBinder+onlyGivenNames ac' jp2;have h2:∀(n':Nat) (o':Array Keyed) (f1:n'+1<a.size),i3≤n'→UH o' n' k3→ZM (jp2 () o' n') Q0 wf:=by
     intro n' o' f1 f2 fJ;have f0:n'<a.size:=by lia
     refine wpS_bind (za3 (eb k3 c2) ?_);have fK:=fJ.pushB c2;refine zaq (λ_=>wpS_pure (LG ⟨Er,Rq ⟨_,_,rfl,fK.end1⟩⟩)) λd=>?_;have d':¬k3+1=b.size:=λz=>d RJ;refine wpS_bind (za3 (ea n' f0) (wpS_bind (zcz (base:=k3+1) (n:=b.size-(k3+1)) (hint:=0) C yk ob (ia_ n' f0) HB HB λk' r1=>?_)));dsimp -zeta only;have js:=fK.runB (n:=k') HB;extract_lets -underBinder+onlyGivenNames bc' jp3;have h3:∀(m2:Nat) (o2:Array Keyed) (p1:m2<b.size),k3+1≤m2→UH o2 n' m2→ZM (jp3 () o2 m2) Q0 wf:=by intro m2 o2 p1 p2 pJ;refine wpS_bind (za3 (ea n' f0) ?_);have pK:=pJ.pushA f0;refine zaq (λ_=>wpS_pure (LG ⟨Er,Rq ⟨_,_,rfl,pK.end2⟩⟩)) λd=>?_;have d2:¬n'+1+1=a.size:=λz=>d RJ;exact zaq (λ_=>wpS_pure (LG ⟨Er,SJ ⟨_,n'+1,m2,_,_,_,rfl,HB,p1,pK,HB⟩⟩)) λ_=>wpS_pure (LG ⟨Er,_,n'+1,m2,_,_,_,rfl,HB,p1,pK,HB⟩)
     refine zaq (λkz=>?_) (λkz=>?_)
     ·refine zaq (λ_=>wpS_pure (LG ⟨Er,Rq ⟨_,_,rfl,js.end1⟩⟩)) λd4=>?_;have d4':¬k3+1+k'=b.size:=λz=>d4 RJ;exact h3 (k3+1+k') _ HB (FA _) js
     exact h3 (k3+1) _ HB Rf fK
    refine zaq (λkz=>?_) (λkz=>?_)
    ·refine zaq (λ_=>wpS_pure (LG ⟨Er,Rq ⟨_,_,rfl,jr.end2⟩⟩)) λd=>zaq (λ_=>wpS_pure (LG ⟨Er,Rq ⟨_,_,rfl,jr.end1⟩⟩)) λe=>?_;have d':¬i3+k+1=a.size:=λz=>d RJ;have e':¬i3+k=a.size:=λz=>e RJ;exact h2 (i3+k) _ HB (FA _) jr
    exact h2 i3 _ c1 Rf c3
end
section
variable{prog:Nk}{w:Nl}{A:Np}{E:Nc}{s:Ni}{kd:SortKind}{a₀:Array Keyed} {a b o:Array Keyed}{na nb at_:Nat}
def zgt:(yi 0 n).toList=a.toList.take n:=by simp
def zgl{a:Array Keyed}{i n:Nat}(hi:i≤n)(h:n≤a.size):a.toList.take i++(yi i n).toList=a.toList.take n:=by
 rw[Array.toList_extract,Xe];have e:a.toList.take i=(a.toList.take n).take i:=by rw[List.take_take];congr 1;lia
 have e2:(a.toList.drop i).take (n-i)=(a.toList.take n).drop i:=by rw[List.drop_take]
 rw[e,e2,Wm]
def Ph(a b o:Array Keyed)(na nb:Nat):Prop:=(a.toList.take na++(b.toList.take nb++o.toList)).Perm RV
def mvA{t sg mJ u r all:List Keyed}(h:((t++sg)++(u++r)).Perm all)(hs:mJ.Perm sg):(t++(u++(r++mJ))).Perm all:=by refine List.Perm.trans ?_ h;rw[Qw,←Qw u];exact Mh ((Mh hs).trans Wn)
def mvB{t sg mJ u r all:List Keyed}(h:(t++((u++sg)++r)).Perm all)(hs:mJ.Perm sg):(t++(u++(r++mJ))).Perm all:=by refine List.Perm.trans ?_ h;rw[Qw];exact Mh (Mh ((Mh hs).trans Wn))
def Ph.runA(j:AI)(hi:at_≤na)(h:na≤a.size):UI (o++(yi at_ na).reverse) at_ nb:=by unfold Ph at *;rw[←zgl hi h]at j;rw[Ys,Ku];exact mvA j (Uz _)
def Ph.runB(j:AI)(hi:at_≤nb)(h:nb≤b.size):UI (o++(b.extract at_ nb).reverse) na at_:=by unfold Ph at *;rw[←zgl hi h]at j;rw[Ys,Ku];exact mvB j (Uz _)
def Ph.pushA(j:UI o (na+1) nb)(h:na<a.size):UI (o.push a[na]) na nb:=by unfold Ph at *;rw[Qh (HE h)]at j;rw[Jc];exact mvA j HA
def Ph.pushB(j:UI o na (nb+1))(h:nb<b.size):UI (o.push b[nb]) na nb:=by unfold Ph at *;rw[Qh (HE h)]at j;rw[Jc];exact mvB j HA
def Ph.end1(j:AI):(a.extract 0 na++b.extract 0 nb++o.reverse).toList.Perm RV:=by rw[Ys,Ys,Ku,zgt,zgt,Qw];exact(Mh (Mh (Uz _))).trans j
def Ph.end2(j:AI):(b.extract 0 nb++a.extract 0 na++o.reverse).toList.Perm RV:=by rw[Ys,Ys,Ku,zgt,zgt];refine List.Perm.trans ?_ j;rw[←Qw];exact(Wn).append (Uz _)
def wpS_mergeHi{Q:Array Keyed→SortSt→Prop}{st:SortSt}(C:QU a₀)(hk:kindOf st=kd)(oa:KH a)(ob:KH b)(ha:0 < a.size)(hb:0 < b.size)(h:∀(res:Array Keyed) (aa:SortSt),res.toList.Perm RV→Gm aa→Q res aa):ZM (mergeHiT a b) Q st:=by
 have ia_:∀i (hi:i<a.size),a[i]∈a₀.toList:=λi hi=>oa i _ (getElem?_pos a i hi);have ib_:∀i (hi:i<b.size),b[i]∈a₀.toList:=λi hi=>ob i _ (getElem?_pos b i hi);have ea:∀i (hi:i<a.size),a[i]?=some a[i]:=λi hi=>getElem?_pos a i hi;have eb:∀i (hi:i<b.size),b[i]?=some b[i]:=λi hi=>getElem?_pos b i hi;have sgk:∀{aa},Gm aa→kindOf aa=kd:=λ⟨g,e⟩=>by rw[e];exact hk
 obtain⟨n0,me⟩:∃n0,a.size=n0+1:=⟨a.size-1,HB⟩;have bB:n0<a.size:=by lia
 have j0:UI (#[a[n0]]:Array Keyed) n0 b.size:=by
  have j:UI (#[]:Array Keyed) (n0+1) b.size:=by have e1:a.toList.take (n0+1)=a.toList:=Qr (by simp;lia);have e2:b.toList.take b.size=b.toList:=Qr HA;unfold Ph;rw[e1,e2];simp
  exact j.pushA bB
 unfold mergeHiT;refine wpS_bind (wpS_lift (wpAny_rule ⟨rfl,?_⟩));have e2:a.size-1=n0:=by lia
 simp -zeta only[e2];refine wpS_bind (za3 (ea n0 bB) ?_);refine zaq (λc1=>wpS_pure (h _ _ j0.end1 ⟨_,rfl⟩)) λc1=>zaq (λc2=>wpS_pure (h _ _ j0.end2 ⟨_,rfl⟩)) λc2=>?_;have vf:¬n0=0:=λz=>c1 (by simp[z]);have c2':¬b.size=1:=λz=>c2 (by simp[z]);refine wpS_bind (wpS_get ?_);obtain⟨n1,rfl⟩:∃n1,n0=n1+1:=⟨n0-1,HB⟩;obtain⟨m1,bZ⟩:∃m1,b.size=m1+1+1:=⟨b.size-2,HB⟩;rw[bZ]at j0;refine wpS_bind (wpS_mono (wpS_forRange
  (I:=λx c aa=>YW (Ex4 λo i k g=>Aj5 (c=(none,i+1,k+1+1,o,g)) (i<a.size) (k+1<b.size) (UI o Rm (k+1+1)) (i+k+x+4≤a.size+b.size)))
  (Q:=λc aa=>YW Sc) ?step ?fin ?init) ?post)
 case init=>exact⟨⟨vG⟩,_,n1,m1,_,by rw[bZ],HB,HB,j0,HB⟩
 case fin=>rintro c aa ⟨_,o,i,k,g,rfl,a1,a2,a3,a4⟩;exfalso;lia
 case post=>rintro c aa ⟨g,res,r,rfl,m⟩;exact wpS_pure (h res aa m g)
 case step=>
  rintro x c bq _ hx ⟨g1,o1,i1,k1,mg,rfl,a1,a2,a3,a4⟩;dsimp -zeta only;refine wpS_bind (wpS_mono (wpS_forRange
   (I:=λy c aa=>Aj2 (aa=bq) (Ex5 λo i k ac bc=>Aj5 (c=(none,i+1,k+1+1,o,ac,bc)) (i<a.size) (k+1<b.size) (UI o Rm (k+1+1)) (i+k+y≤i1+k1)))
   (Q:=λc aa=>Aj2 (aa=bq) (Sc∨Ex5 λo i k ac bc=>Aj5 (c=(none,i+1,k+1+1,o,ac,bc)) (i<a.size) (k+1<b.size) (UI o Rm (k+1+1)) (i+k<i1+k1))) ?step1 ?fin1 ?init1) ?post1)
  case init1=>exact⟨rfl,o1,i1,k1,0,0,rfl,a1,a2,a3,Rf⟩
  case fin1=>rintro c aa ⟨_,o,i,k,ac,bc,rfl,b1,b2,b3,b4⟩;exfalso;lia
  case step1=>
   rintro y c cj _ hy ⟨rfl,o,i,k,ac,bc,rfl,b1,b2,b3,b4⟩;dsimp -zeta only;refine wpS_bind (za3 (eb (k+1) b2) (wpS_bind (za3 (ea i b1) (wpS_bind (C _ _ _ _ (ib_ (k+1) b2) (ia_ i b1) (sgk g1) λe=>?_)))));dsimp -zeta only;refine zaq (λ_=>?_) (λ_=>?_)
   ·refine wpS_bind (za3 (ea i b1) ?_);have j:=b3.pushA b1;refine zaq (λ_=>wpS_pure ⟨rfl,Rq ⟨_,_,rfl,j.end1⟩⟩) λd1=>?_;have qe:¬i=0:=λz=>d1 RJ;cases i with
    |zero=>exact absurd rfl qe
    |succ i'=>exact zaq (λ_=>wpS_pure ⟨rfl,SJ ⟨_,i',k,_,_,rfl,HB,b2,j,HB⟩⟩) λ_=>wpS_pure ⟨rfl,_,i',k,_,_,rfl,HB,b2,j,HB⟩
   refine wpS_bind (za3 (eb (k+1) b2) ?_);have j:=b3.pushB b2;refine zaq (λ_=>wpS_pure ⟨rfl,Rq ⟨_,_,rfl,j.end2⟩⟩) λd1=>?_;have qe:¬k+1=1:=λz=>d1 RJ;cases k with
   |zero=>exact absurd rfl qe
   |succ k'=>exact zaq (λ_=>wpS_pure ⟨rfl,SJ ⟨_,i,k',_,_,rfl,b1,HB,j,HB⟩⟩) λ_=>wpS_pure ⟨rfl,_,i,k',_,_,rfl,b1,HB,j,HB⟩
  case post1=>
   rintro c cj ⟨rfl,⟨res,r,rfl,m⟩|⟨o2,i2,k2,ac2,bc2,rfl,b1,b2,b3,b4⟩⟩
   ·exact wpS_pure ⟨g1,res,_,rfl,m⟩
   dsimp -zeta only;refine wpS_bind (wpS_lift (wpAny_rule ⟨rfl,?_⟩));refine wpS_bind (wpS_mono (wpS_forRange
    (I:=λy c aa=>YW (Ex6 λo i k g ac bc=>Aj5 (c=(none,i+1,k+1+1,o,g,ac,bc)) (i<a.size) (k+1<b.size) (UI o Rm (k+1+1)) (i+k≤i2+k2)))
    (Q:=λc aa=>YW (Sc∨Ex6 λo i k g ac bc=>Aj5 (c=(none,i+1,k+1+1,o,g,ac,bc)) (i<a.size) (k+1<b.size) (UI o Rm (k+1+1)) (i+k≤i2+k2))) ?step2 ?fin2 ?init2) ?post2)
   case init2=>exact⟨g1,o2,i2,k2,_,_,vG,b1,b2,b3,Rf⟩
   case fin2=>rintro c aa ⟨g,o,i,k,g',ac,bc,rfl,c1,c2,c3,c4⟩;exact⟨g,SJ ⟨o,i,k,g',ac,bc,rfl,c1,c2,c3,c4⟩⟩
   case post2=>
    rintro c aA ⟨g3,⟨res,r,rfl,m⟩|⟨o3,i3,k3,g',vn,vg,rfl,c1,c2,c3,c4⟩⟩
    ·exact wpS_pure ⟨g3,res,_,rfl,m⟩
    dsimp -zeta only;refine wpS_bind (wpS_modify ?_);obtain⟨gg,e3⟩:=g3;exact wpS_pure ⟨⟨_,by rw[e3]⟩,o3,i3,k3,_,rfl,c1,c2,c3,HB⟩
   case step2=>
    rintro y c aA _ hy ⟨g3,o3,i3,k3,mg3,vn,vg,rfl,c1,c2,c3,c4⟩;refine zdp λQ0 bH=>?_;dsimp -zeta only;have sgm:∀g',Gm (LM g'):=λg'=>by obtain⟨g,e⟩:=g3;exact⟨g',by rw[e]⟩
    extract_lets -underBinder+onlyGivenNames s1 na s2 nb s3 out s4 mn s5 ac bc jp;refine jp_if (f:=jp) λm'=>wpS_bind (wpS_modify (wpS_bind (za3 (eb (k3+1) c2) (wpS_bind (zcz (n:=i3+1) (hint:=i3) C yk oa (ib_ (k3+1) c2) HB HB λrY q1=>?_)))));dsimp -zeta only;have jr:=c3.runA (at_:=rY) q1 HB;extract_lets -underBinder+onlyGivenNames kk ac' jp2;have h2:∀(n':Nat) (o':Array Keyed) (f1:n'<a.size),n'≤i3→UI o' (n'+1) (k3+1+1)→ZM (jp2 () (n'+1) o') Q0 wf:=by
     intro n' o' f1 f2 fJ;refine wpS_bind (za3 (eb (k3+1) c2) ?_);have fK:=fJ.pushB c2;refine zaq (λ_=>wpS_pure (LG ⟨Er,Rq ⟨_,_,rfl,fK.end2⟩⟩)) λd=>?_;have d':¬k3+1=1:=λz=>d RJ;refine wpS_bind (za3 (ea n' f1) (wpS_bind (zcz (n:=k3+1) (hint:=k3) C yk ob (ia_ n' f1) HB HB λqg r1=>?_)));dsimp -zeta only;have js:=fK.runB (at_:=qg) r1 HB;extract_lets -underBinder+onlyGivenNames kk2 bc' jp3;have h3:∀(m2:Nat) (o2:Array Keyed) (p1:m2+1<b.size),m2≤k3→UI o2 (n'+1) (m2+1+1)→ZM (jp3 () (m2+1+1) o2) Q0 wf:=by
      intro m2 o2 p1 p2 pJ;refine wpS_bind (za3 (ea n' f1) ?_);have pK:=pJ.pushA f1;refine zaq (λ_=>wpS_pure (LG ⟨Er,Rq ⟨_,_,rfl,pK.end1⟩⟩)) λd=>?_;have d2:¬n'=0:=λz=>d RJ;cases n' with
      |zero=>exact absurd rfl d2
      |succ t=>exact zaq (λ_=>wpS_pure (LG ⟨Er,SJ ⟨_,t,m2,_,_,_,rfl,HB,p1,pK,HB⟩⟩)) λ_=>wpS_pure (LG ⟨Er,_,t,m2,_,_,_,rfl,HB,p1,pK,HB⟩)
     refine zaq (λkz=>?_) (λkz=>?_)
     ·refine zaq (λ_=>wpS_pure (LG ⟨Er,Rq ⟨_,_,rfl,js.end2⟩⟩)) λd4=>zaq (λ_=>wpS_pure (LG ⟨Er,Rq ⟨_,_,rfl,js.end1⟩⟩)) λd5=>?_;have d4':¬qg=1:=λz=>d4 RJ;have d5':¬qg=0:=λz=>d5 RJ;obtain⟨m2,e2⟩:∃m2,qg=m2+1+1:=⟨qg-2,HB⟩;have:=h3 m2 _ HB HB (by rw[←e2];exact js);rw[←e2]at this;exact this
     obtain⟨m2,e2⟩:∃ m2,k3=m2+1:=⟨k3 - 1,HB⟩;have:=h3 m2 _ HB HB (by rw[←e2];exact fK);rw[←e2]at this;exact this
    refine zaq (λkz=>?_) (λkz=>?_)
    ·refine zaq (λ_=>wpS_pure (LG ⟨Er,Rq ⟨_,_,rfl,jr.end1⟩⟩)) λd=>?_;have d':¬rY=0:=λz=>d RJ;obtain⟨n',e1⟩:∃n',rY=n'+1:=⟨rY-1,HB⟩;have:=h2 n' _ HB HB (by rw[←e1];exact jr);rw[←e1]at this;exact this
    exact h2 i3 _ c1 Rf c3
variable{p:Array (Nat×Nat×Nat)}{lo:Nat}
structure Bs(kd:SortKind)(a₀:Array Keyed)(p:Array (Nat×Nat×Nat))(st:SortSt):Prop where
 kind:kindOf st=kd
 failed:failedOf st=none
 pend:pendingOf st=p
 perm:(Ts st).Perm a₀
def Bs.size{st:SortSt}(B:QJ st):(Ts st).size=a₀.size:=B.perm.size_eq
def Bs.mem{st:SortSt}(B:QJ st){i:Nat}(hi:i<a₀.size):∃q,(Ts st)[i]?=some q∧q∈a₀.toList:=by
 have ap:i<(Ts st).size:=by rw[B.size];exact hi
 exact⟨_,getElem?_pos _ i ap,(Yr.mp B.perm).mem_iff.mp HA⟩
end
section
variable{prog:Nk}{w:Nl}{A:Np}{E:Nc}{s:Ni}{kd:SortKind}{a₀:Array Keyed}{p:Array (Nat×Nat×Nat)}{lo:Nat}
def zhy{st:SortSt}{i j:Nat}{Q:Option Bool→SortSt→Prop}(C:QU a₀)(B:QJ st)(hi:i<a₀.size)(hj:j<a₀.size)(h:∀b,Q (HW b) st):ZM (ltAt' i j) Q st:=by obtain⟨x,e1,m1⟩:=B.mem hi;obtain⟨y,e2,m2⟩:=B.mem hj;rw[ltAt'_eq];exact wpS_bind (wpS_get (wpS_bind (za3 e1 (wpS_bind (za3 e2 (C x y st Q m1 m2 B.kind h))))))
def Bs.mirror{st:SortSt}(B:QJ st)(i j k:Nat):QJ (setArr st (mirror zg i j k)):=⟨B.kind,B.failed,B.pend,(mirror_perm _ _ _ _).trans B.perm⟩
def Bs.bubble{st:SortSt}(B:QJ st)(src d:Nat):QJ (setArr st (bubble zg src d)):=⟨B.kind,B.failed,B.pend,(bubble_perm _ _ _).trans B.perm⟩
def wpS_binary{st:SortSt}{n ok:Nat}{Q:Bool→SortSt→Prop}(C:QU a₀)(hn:lo+n≤a₀.size)(B:QJ st)(h:∀aa,QJ aa→Q true aa):ZM (binarySort' lo n ok) Q st:=by
 rw[binarySort'_eq];refine wpS_bind (wpS_mono (wpS_forRange (I:=λk c aa=>Aj2 (c=(none,())) (QJ aa)) (Q:=λc aa=>Aj2 (c=(none,())) (QJ aa)) ?step (λ_ _ z=>z) ⟨rfl,B⟩) ?post)
 case post=>rintro c aa ⟨rfl,B'⟩;exact wpS_pure (h aa B')
 case step=>
  rintro k c aa hak cK ⟨rfl,B'⟩;refine wpS_bind (wpS_mono (wpS_forRange
   (I:=λx c dR=>Aj2 (dR=aa) (Ex2 λl r=>Aj4 (c=(none,l,r)) (l≤r) (r≤k) (r-l≤k-x)))
   (Q:=λc dR=>Aj2 (dR=aa) (Ex1 λl=>Aj2 (c=(none,l,l)) (l≤k))) ?is ?if_ ?ii) ?ip)
  case ii=>exact⟨rfl,0,k,rfl,SW,Rf,Rf⟩
  case if_=>
   rintro c dR ⟨rfl,l,r,rfl,b1,b2,b3⟩;have:l=r:=by lia
   subst this;exact⟨rfl,l,rfl,b2⟩
  case is=>
   rintro x c dR _ hx ⟨rfl,l,r,rfl,b1,b2,b3⟩;dsimp only;refine zaq (λge=>?_) λge=>wpS_bind (zhy C B' HB HB λb=>?_)
   ·have:l=r:=Nat.le_antisymm b1 ge;subst this;exact wpS_pure ⟨rfl,l,rfl,b2⟩
   cases b with
   |true=>exact wpS_pure ⟨rfl,l,(l+r)/2,rfl,HB,HB,HB⟩
   |false=>exact wpS_pure ⟨rfl,(l+r)/2+1,r,rfl,HB,b2,HB⟩
  case ip=>rintro c dR ⟨rfl,l,rfl,b2⟩;show wpS _ _ _ _ (do moveDown' (lo+k) (lo+l);pure (SM (none,()))) _ _;rw[moveDown'_eq];exact wpS_bind (wpS_modify (wpS_pure ⟨rfl,B'.bubble _ _⟩))
def jp_rev{α:Type}{c:Prop}[Decidable c]{i j:Nat}{f:Unit→JG α}{Q:α→SortSt→Prop}{st:SortSt}(B:QJ st)(h:∀aa,QJ aa→ZM (f ()) Q aa):ZM (if c then reverseSlice' i j >>= f else f ()) Q st:=by
 split
 ·exact wpS_bind (wpS_reverse (h _ (B.mirror _ _ _)))
 exact h _ B
def wpS_count{st:SortSt}{nrem:Nat}{Q:Option Nat→SortSt→Prop}(C:QU a₀)(hn:lo+nrem≤a₀.size)(h1:1≤nrem)(B:QJ st)(h:∀m aa,QJ aa→1≤m→m≤nrem→Q (HW m) aa):ZM (countRun' lo nrem) Q st:=by
 have asc:∀(f:Nat→(Option Oq×Nat)→JG (ForInStep (Option Oq×Nat))) (a:Nat) (bq:SortSt),1≤a→a≤nrem →
   (∀x y Q',1≤y→y<nrem→Q' (ForInStep.done (none,y)) bq→Q' (SM (none,y+1)) bq→ZM (f x (none,y)) Q' bq) →
   wpS Rb A E s (forIn [a:nrem] (none,a) f) (λc aa=>Aj2 (aa=bq) (Ex1 λn=>Aj3 (c=(none,n)) (a≤n) (n≤nrem))) bq:=by
  intro f a bq a1 a2 hf;refine wpS_forRange (I:=λx c aa=>Aj2 (aa=bq) (c=(none,x))) ?step ?fin ⟨rfl,rfl⟩
  case fin=>rintro c aa ⟨rfl,rfl⟩;rw[show max a nrem=nrem by lia];exact⟨rfl,nrem,rfl,a2,Rf⟩
  case step=>rintro x c aa g1 g2 ⟨rfl,rfl⟩;exact hf x x _ HB g2 ⟨rfl,x,rfl,g1,Ud g2⟩ ⟨rfl,rfl⟩
 have two:∀{bq:SortSt},QJ bq→∀{y:Nat},1≤y→y<nrem→lo+y<a₀.size∧lo+y-1<a₀.size:=λ_ y y1 y2=>⟨HB,HB⟩;rw[countRun'_eq];refine wpS_bind (wpS_mono (asc _ 1 st Rf h1 ?_) ?_)
 ·intro x y Q' y1 y2 q1 q2;refine wpS_bind (zhy C B (two B y1 y2).1 (two B y1 y2).2 λb=>?_);cases b with
  |true=>exact wpS_pure q1
  |false=>exact wpS_pure q2
 rintro c aa ⟨rfl,n,rfl,n1,n2⟩;refine zdp λQ0 bH=>zaq (λd=>wpS_pure yl) λd=>?_;have d':n<nrem:=by have:¬n=nrem:=λz=>d RJ;lia
 extract_lets -underBinder+onlyGivenNames jp;have oK:∀bq,QJ bq→ZM (jp ()) Q0 bq:=by
  intro bq B1;refine wpS_bind (wpS_lift (wpAny_rule ⟨rfl,?_⟩));refine wpS_bind (wpS_mono (wpS_forRange
   (I:=λx c cj=>Ex1 λq=>Aj4 (c=(none,x,q)) (QJ cj) (2≤x) (x≤nrem))
   (Q:=λc cj=>Ex2 λx q=>Aj4 (c=(none,x,q)) (QJ cj) (2≤x) (x≤nrem)) ?step ?fin ⟨0,rfl,B1,HB,d'⟩) ?post)
  case fin=>rintro c cj ⟨q,rfl,b1,b2,b3⟩;exact⟨_,q,rfl,b1,b2,b3⟩
  case step=>
   rintro x c cj x1 x2 ⟨q,rfl,b1,b2,b3⟩;refine zdp λQ1 ij=>wpS_bind (zhy (i:=lo+x) (j:=lo+x-1) C b1 HB HB λe1=>?_);cases e1 with
   |true=>refine zaq (λ_=>?_) (λz=>absurd rfl z);exact jp_rev b1 λaA B3=>wpS_pure (ij _ _ ⟨0,rfl,B3,HB,x2⟩)
   |false=>
    refine zaq (λz=>absurd z HH) λ_=>wpS_bind (zhy (i:=lo+x-1) (j:=lo+x) C b1 HB HB λe2=>?_);cases e2 with
    |true=>exact zaq (λ_=>wpS_pure (ij _ _ ⟨x,q,rfl,b1,b2,b3⟩)) (λz=>absurd rfl z)
    |false=>exact zaq (λz=>absurd z HH) λ_=>wpS_pure (ij _ _ ⟨q+1,rfl,b1,HB,x2⟩)
  case post=>
   rintro c cj ⟨x,q,rfl,b1,b2,b3⟩;refine jp_rev b1 λaA B3=>wpS_bind (wpS_reverse ?_);have B6:=B3.mirror lo (lo+x) ((lo+x-lo)/2);refine wpS_bind (wpS_mono (asc _ x _ HB b3 ?_) ?_)
   ·intro z y Q' y1 y2 q1 q2;refine wpS_bind (zhy C B6 (two B6 y1 y2).1 (two B6 y1 y2).2 λb=>?_);cases b with
    |true=>exact wpS_pure q1
    |false=>exact wpS_pure q2
   rintro c st6 ⟨rfl,m,rfl,m1,m2⟩;exact wpS_pure (LG (h m _ B6 HB m2))
 refine zaq (λd2=>?_) λd2=>oK _ B;refine wpS_bind (zhy C B HB HB λe=>?_);cases e with
 |true=>exact zaq (λ_=>wpS_pure yl) (λz=>absurd rfl z)
 |false=>exact zaq (λz=>absurd z HH) λ_=>wpS_bind (wpS_reverse (oK _ (B.mirror _ _ _)))
def PL:List (Nat×Nat×Nat)→Nat→Nat→Prop
 |[],off,tot=>off=tot
 |q::ps,off,tot=>q.1=off∧0<q.2.1∧PL ps (off+q.2.1) tot
def PL.split{gZ:List (Nat×Nat×Nat)}{tot:Nat}:∀{dl:List (Nat×Nat×Nat)} {off:Nat},PL (dl++gZ) off tot→∃mid,PL dl off mid∧PL gZ mid tot:=by
 intro dl;induction dl with
 |nil=>intro off h;exact⟨off,rfl,h⟩
 |cons q ps ih=>intro off h;obtain⟨mid,a,b⟩:=ih h.2.2;exact⟨mid,⟨h.1,h.2.1,a⟩,b⟩
def PL.join{gZ:List (Nat×Nat×Nat)}{mid tot:Nat}:∀{dl:List (Nat×Nat×Nat)} {off:Nat},PL dl off mid→PL gZ mid tot→PL (dl++gZ) off tot:=by
 intro dl;induction dl with
 |nil=>intro off a b;cases(show off=mid from a);exact b
 |cons q ps ih=>intro off a b;exact⟨a.1,a.2.1,ih a.2.2 b⟩
def PL.len{tot:Nat}:∀{ps:List (Nat×Nat×Nat)} {off:Nat},PL ps off tot→off+ps.length≤tot:=by
 intro ps;induction ps with
 |nil=>intro off h;exact Nat.le_of_eq h
 |cons q ps ih=>intro off h;have:=ih h.2.2;have:=h.2.1;rw[Qy];lia
def put_back{sa:Nat}:∀ (l:List Keyed) (n:Nat) (arr:Array Keyed) (F M S:List Keyed),arr.toList=F++(M++S)→F.length=sa+n→M.length=l.length →
  ((l.zipIdx n).foldl (λ(a:Array Keyed) (q:Keyed×Nat)=>a.setIfInBounds (sa+q.2) q.1) arr).toList=F++(l++S):=by
 intro l;induction l with
 |nil=>intro n arr F M S e _ hl;have:M=[]:=Ug.mp (HE hl);rw[this]at e;simpa using e
 | cons p l ih=>
  intro n arr F M S e hf hl;cases M with
  |nil=>simp at hl
  |cons m M=>
   rw[List.zipIdx_cons,Jm];have e2:(arr.setIfInBounds (sa+n) p).toList=(F++[p])++(M++S):=by rw[Array.toList_setIfInBounds,e,←hf,M7 Rf,Ky];simp
   rw[ih (n+1) _ (F++[p]) M S e2 (by rw[Za];simp;lia) (HE hl)];simp
structure Rn(kd:SortKind)(a₀:Array Keyed)(tot:Nat)(st:SortSt):Prop where
 kind:kindOf st=kd
 failed:failedOf st=none
 perm:(Ts st).Perm a₀
 pend:PL (Sk st).toList 0 tot
 le:tot≤a₀.size
def of_perm{xs:Array Keyed}(h:xs.Perm a₀):KH xs:=λi p e=>by
 refine(Yr.mp h).mem_iff.mp ?_;have:xs.toList[i]?=some p:=by simpa using e
 exact Yb this
def of_ext{xs:Array Keyed}(h:xs.Perm a₀)(i j:Nat):KH (xs.extract i j):=λk p e=>by
 have e1:(xs.extract i j).toList[k]?=some p:=by rw[Yx];exact e
 have:=Yb e1;rw[Array.toList_extract,Xe]at this;exact(Yr.mp h).mem_iff.mp (Os (Ue this))
def wpS_set{Q:PUnit→SortSt→Prop}{st aa:SortSt}(h:Q ⟨⟩ aa):ZM (set aa:JG PUnit) Q st:=by unfold wpS;rw[StateT.run_set];exact wpAny_pure ⟨rfl,h⟩
def zgv{i tot:Nat}{Q:Bool→SortSt→Prop}{st:SortSt}(C:QU a₀)(R:Q3 st)(hi:i+1 < (Sk st).size)(h:∀aa,Q3 aa→(Sk aa).size+1=(Sk st).size→Q true aa):ZM (mergeAt' i) Q st:=by
 obtain⟨dl,q1,q2,gZ,hp,hl⟩:∃dl q1 q2 gZ,(Sk st).toList=dl++q1::q2::gZ∧dl.length=i:=by
  have h1:i<(Sk st).toList.length:=by simp;lia
  have h2:i+1<(Sk st).toList.length:=by simp;lia
  refine⟨(Sk st).toList.take i,(Sk st).toList[i],(Sk st).toList[i+1],(Sk st).toList.drop (i+2),?_,Rc Zo⟩;rw[←Yu h2,←Yu h1,Wm]
 have pr:=R.pend;rw[hp]at pr;obtain⟨sa,pr1,e1,hA,e2,hB,ss⟩:=pr.split;obtain⟨aJ,na,pw⟩:=q1;obtain⟨sb',nb,pw2⟩:=q2;dsimp only at e1 hA e2 hB ss;subst e1 e2;have x1:(Sk st)[i]?=some (aJ,na,pw):=by
  have:(Sk st)[i]?=(Sk st).toList[i]?:=by simp
  rw[this,hp,←hl];simp
 have x2:(Sk st)[i+1]?=some (aJ+na,nb,pw2):=by
  have:(Sk st)[i+1]?=(Sk st).toList[i+1]?:=by simp
  rw[this,hp,←hl];simp
 have hsz:aJ+na+nb≤(Ts st).size:=by have:=ss.len;have:=R.le;rw[R.perm.size_eq];lia
 have oA:=of_perm R.perm;have mem:∀j (hj:j<(Ts st).size),(Ts st)[j]∈a₀.toList:=λj hj=>oA j _ (getElem?_pos _ j hj);have fin:∀(aa:SortSt),kindOf aa=kd→failedOf aa=none→(Ts aa).Perm a₀→pendingOf aa=((Sk st).setIfInBounds i (aJ,na+nb,pw)).eraseIdxIfInBounds Rm→Q true aa:=by
  intro aa m3 m4 m5 m6;have e:(Sk aa).toList=dl++(aJ,na+nb,pw)::gZ:=by
   rw[m6];have e1:((Sk st).setIfInBounds i (aJ,na+nb,pw)).toList=dl++(aJ,na+nb,pw)::(aJ+na,nb,pw2)::gZ:=by rw[Array.toList_setIfInBounds,hp,←hl,M7 Rf,Ky];rfl
   rw[Array.toList_eraseIdxIfInBounds,e1,←hl,List.eraseIdx_append_of_length_le (FA _)];simp
  refine h aa ⟨m3,m4,m5,?_,R.le⟩ ?_
  ·rw[e];exact pr1.join ⟨rfl,Nat.add_pos_left hA _,by rw[←Nat.add_assoc];exact ss⟩
  rw[←Zz,←Zz,e,hp];simp;lia
 unfold mergeAt';refine wpS_bind (wpS_get ?_);rw[x1,x2];dsimp only;refine wpS_bind (wpS_set ?_);have mw:aJ+na<(Ts st).size:=by lia
 refine wpS_bind (za3 (getElem?_pos zg (aJ+na) mw) ?_);refine wpS_bind (zcz (arr:=arrOf st) (base:=aJ) (n:=na) (hint:=0) C R.kind oA (mem _ mw) HB hA λk k1=>zaq (λc1=>wpS_pure (Mi rfl)) λc1=>?_);have vf:¬na-k=0:=λz=>c1 RJ;have hla:aJ+k+(na-k)-1<(Ts st).size:=by lia
 refine wpS_bind (za3 (getElem?_pos zg (aJ+k+(na-k)-1) hla) ?_);refine wpS_bind (zcz (arr:=arrOf st) (base:=aJ+na) (n:=nb) (hint:=nb-1) C R.kind oA (mem _ hla) HB HB λm n1=>zaq (λc2=>wpS_pure (Mi rfl)) λc2=>?_);have c2':¬m=0:=λz=>c2 RJ;have qh:(Ts st).toList=(Ts st).toList.take (aJ+k)++((((Ts st).extract (aJ+k) (aJ+na)).toList++((Ts st).extract (aJ+na) (aJ+na+m)).toList)++(Ts st).toList.drop (aJ+na+m)):=by rw[←Qw,←Qw,zgl HB HB,zgl HB HB,Wm]
 have oX:=of_ext R.perm (aJ+k) (aJ+na);have oY:=of_ext R.perm (aJ+na) (aJ+na+m);have zX:0<((Ts st).extract (aJ+k) (aJ+na)).size:=by rw[Array.size_extract];lia
 have zY:0<((Ts st).extract (aJ+na) (aJ+na+m)).size:=by rw[Array.size_extract];lia
 have done:∀(res:Array Keyed) (aa:SortSt),res.toList.Perm (((Ts st).extract (aJ+k) (aJ+na)).toList++((Ts st).extract (aJ+na) (aJ+na+m)).toList)→SG (Vj (((Sk st).setIfInBounds i (aJ,na+nb,pw)).eraseIdxIfInBounds Rm) (gallopOf st) (yj st)) aa →
   wpS Rb A E s (do
    modify λz=>SortSt.mk' (kindOf z) (res.toList.zipIdx.foldl (λ(a:Array Keyed) (q:Keyed×Nat)=>a.setIfInBounds (aJ+k+q.2) q.1) (Ts z)) (Sk z) (gallopOf z) (yj z)
    let z ←get
    pure (yj z).isNone) Q aa:=by
  intro res aa mg ⟨g,est⟩;subst est;refine wpS_bind (wpS_modify (wpS_bind (wpS_get ?_)));have oj:failedOf st=none:=R.failed;show wpS _ _ _ _ (pure (yj st).isNone) _ _;rw[oj];refine wpS_pure (fin _ R.kind rfl ?_ rfl);have pb:=put_back (sa:=aJ+k) res.toList 0 zg _ _ _ qh (by rw[Zo,Zz];lia) mg.length_eq.symm;refine Yr.mpr (List.Perm.trans ?_ (Yr.mp R.perm));refine List.Perm.trans (List.Perm.of_eq pb) ?_
  conv=>rhs;rw[qh]
  exact Mh (NA mg)
 exact zaq (λ_=>wpS_bind (wpS_mergeLo C R.kind oX oY zX zY done)) λ_=>wpS_bind (wpS_mergeHi C R.kind oX oY zX zY done)
def PL.congr:∀{ps lJ:List (Nat×Nat×Nat)} {off:Nat},(ps.map λq=>(q.1,q.2.1))=(lJ.map λq=>(q.1,q.2.1))→PL ps off tot→PL lJ off tot:=by
 intro ps;induction ps with
 |nil=>
  intro lJ off e h;cases lJ with
  |nil=>exact h
  |cons q r=>cases e
 |cons q ps ih=>
  intro lJ off e h;cases lJ with
  |nil=>cases e
  |cons q' r=>rw[Qn,Qn]at e;obtain⟨e1,e2⟩:=List.cons.inj e;obtain⟨e3,e4⟩:=Jt e1;exact⟨e3.symm.trans h.1,e4▸h.2.1,ih e2 (e4▸h.2.2)⟩
def map_mod(f:Nat×Nat×Nat→Nat×Nat×Nat)(hf:∀q,((f q).1,(f q).2.1)=(q.1,q.2.1))(l:S1 (Nat×Nat×Nat))(i:Nat):((l.modify i f).map λq=>(q.1,q.2.1))=l.map λq=>(q.1,q.2.1):=by
 apply List.ext_getElem?;intro k;rw[Qk,Qk,List.getElem?_modify];cases l[k]? with
 |none=>simp
 |some q=>
  by_cases e:i=k
  ·simp[e];exact Jt (hf q)
  simp[e]
def Rn.mod{tot:Nat}{st:SortSt}(R:Q3 st)(i:Nat)(f:Nat×Nat×Nat→Nat×Nat×Nat)(hf:∀q,((f q).1,(f q).2.1)=(q.1,q.2.1)):Q3 (setPending st ((Sk st).modify i f)):=
 ⟨R.kind,R.failed,R.perm,by show PL ((Sk st).modify i f).toList 0 tot;rw[Array.toList_modify];exact R.pend.congr (map_mod f hf _ i).symm,R.le⟩
def zgu{st:SortSt}{Q:Unit→SortSt→Prop}(C:QU a₀)(hk:kindOf st=kd)(hf:failedOf st=none)(hp:(Ts st).Perm a₀)(gp:pendingOf st=#[])(h:∀aa,(Ts aa).Perm a₀→failedOf aa=none→Q () aa):ZM sortRuns' Q st:=by
 have R0:Rn kd a₀ 0 st:=⟨hk,hf,hp,by rw[gp];rfl,SW⟩;rw[sortRuns'_eq];refine wpS_bind (wpS_get ?_);dsimp -zeta only;have hz:(Ts st).size=a₀.size:=hp.size_eq;rw[hz];refine wpS_bind (wpS_mono (wpS_forRange
  (I:=λx c aa=>Ex1 λtot=>Aj3 (c=(none,tot)) (Q3 aa) (x≤tot))
  (Q:=λc aa=>Ex1 λtot=>Aj3 (c=(none,tot)) (Q3 aa) (a₀.size≤tot)) ?step ?fin ⟨0,rfl,R0,SW⟩) ?post)
 case fin=>rintro c aa ⟨tot,rfl,R,hx⟩;exact⟨tot,rfl,R,HB⟩
 case step=>
  rintro x c bq _ hx ⟨tot,rfl,R,hx2⟩;refine zdp λQ0 bH=>zaq (λc0=>wpS_pure (LG ⟨tot,rfl,R,c0⟩)) λc0=>?_;have B0:M8 bq:=⟨R.kind,R.failed,rfl,R.perm⟩;refine wpS_bind (wpS_count (lo:=tot) (nrem:=a₀.size-tot) C HB HB B0 λm cj B2 m1 m2=>?_);dsimp -zeta only;extract_lets -underBinder+onlyGivenNames n0 jp;have oK:∀(n':Nat) (aA:SortSt),1≤n'→tot+n'≤a₀.size→M8 aA→ZM (jp () n') Q0 aA:=by
   intro n' aA l1 l2 B3;have R3:Q3 aA:=⟨B3.kind,B3.failed,B3.perm,by rw[B3.pend];exact R.pend,R.le⟩;have push:∀be,Q3 be→Rn kd a₀ (tot+n') (setPending be ((Sk be).push (tot,n',0))):=λbe R4=>⟨R4.kind,R4.failed,R4.perm,by show PL ((Sk be).push _).toList 0 _;rw[Jc];exact R4.pend.join ⟨rfl,l1,rfl⟩,l2⟩;refine wpS_bind (wpS_get ?_);extract_lets -underBinder+onlyGivenNames jp2;have oJ:∀be,Q3 be→ZM (jp2 ()) Q0 be:=λbe R4=>wpS_bind (wpS_modify (wpS_pure (LG ⟨tot+n',rfl,push be R4,HB⟩)));cases(Sk aA).back? with
   |none=>exact oJ _ R3
   | some q=>
    obtain⟨s1,n1,o1⟩:=q;refine wpS_bind (wpS_mono (wpS_forRange (I:=λ_ c be=>Aj2 (c=(none,())) wg) (Q:=λc be=>Aj2 (c=(none,())) wg) ?istep (λ_ _ z=>z) ⟨rfl,R3⟩) ?ipost)
    case istep=>
     rintro y c be _ _ ⟨rfl,R4⟩;refine zdp λQ1 ij=>wpS_bind (wpS_get ?_);dsimp only;by_cases hs:(Sk be).size>1
     ·rw[Sx hs,getElem?_pos (Sk be) ((Sk be).size - 2) HB];exact zaq (λ_=>wpS_pure (ij _ _ ⟨rfl,R4⟩)) λ_=>wpS_bind (zgv C R4 HB λdQ R5 _=>zaq (λz=>absurd z HH) λ_=>wpS_pure (ij _ _ ⟨rfl,R5⟩))
     rw[So hs];exact wpS_pure (ij _ _ ⟨rfl,R4⟩)
    case ipost=>rintro c be ⟨rfl,R4⟩;exact wpS_bind (wpS_modify (oJ _ (R4.mod _ _ λq=>rfl)))
  refine zaq (λc1=>?_) λc1=>oK m cj m1 HB B2;have vf:m<minRun' a₀.size a₀.size 0:=c1;exact wpS_bind (wpS_lift (wpAny_rule ⟨rfl,wpS_bind (wpS_binary (lo:=tot) (n:=min (a₀.size-tot) (minRun' a₀.size a₀.size 0)) C HB B2 λaA B3=>zaq (λz=>absurd z HH) λ_=>oK _ aA HB HB B3)⟩))
 case post=>
  rintro c bq ⟨tot,rfl,R,hx⟩;refine wpS_bind (wpS_mono (wpS_forRange (I:=λ_ c be=>Aj2 (c=(none,())) wg) (Q:=λc be=>Aj2 (c=(none,())) wg) ?istep (λ_ _ z=>z) ⟨rfl,R⟩) ?ipost)
  case istep=>
   rintro y c be _ _ ⟨rfl,R4⟩;refine zdp λQ1 ij=>wpS_bind (wpS_get ?_);dsimp only;refine zaq (λ_=>wpS_pure (ij _ _ ⟨rfl,R4⟩)) λhs=>wpS_bind (zgv C R4 ?_ λdQ R5 _=>?_)
   ·repeat' split
    all_goals lia
   exact zaq (λz=>absurd z HH) λ_=>wpS_pure (ij _ _ ⟨rfl,R5⟩)
  case ipost=>rintro c be ⟨rfl,R4⟩;exact wpS_pure (h be R4.perm R4.failed)
end
end Tm
namespace Tm
open PySem PyProof.Rows PySem.W
section
variable{O:KeyOrd}{kf:Nat→O.α}{n:Nat}{s:Ni}{cmp:Nat→Nat→(Bool→Shared→Prop)→Shared→Prop}
def kk(kf:Nat→O.α)(p:Array Nat)(i:Nat):O.α:=kf zh
def kk_rev{p:Array Nat}{i j:Nat}(hj:j≤p.size)(k:Nat):WB (kas_rev p i j) k=if i≤k∧k<j then QM (i+j-1-k) else QM k:=by unfold kk kas_rev;simp only[Wr,getElem?_mirror_all hj k];split<;>rfl
def kk_bub(hs:a<p.size)(hd:d≤a)(k:Nat):WB (bubble p a d) k=if k=a-d then QM a else if a-d<k∧k≤a then QM (k-1) else QM k:=by
 unfold kk;simp only[Wr,getElem?_bubble hs d hd k]
 repeat' split
 all_goals rfl
def Up(kf:Nat→O.α)(p:Array Nat)(k:Nat):Prop:=∀i j,i≤j→j<k→Db (QM j)
def Dn(kf:Nat→O.α)(p:Array Nat)(k:Nat):Prop:=∀i j,i≤j→j<k→O.kle (QM j) xt
def Up.snoc{p:Array Nat}{a:Nat}(h1:1≤a)(h:KI a)(e:O.kle (QM (a-1)) (QM a)):KI (a+1):=λi j dh hj=>by
 by_cases z:j<a
 ·exact h i j dh z
 obtain rfl:j=a:=by lia
 by_cases z2:i=j
 ·subst z2;exact Kx _
 exact Jw (h i (j-1) HB HB) e
def Dn.snoc{p:Array Nat}{a:Nat}(h1:1≤a)(h:Dc a)(e:O.kle (QM a) (QM (a-1))):Dc (a+1):=λi j dh hj=>by
 by_cases z:j<a
 ·exact h i j dh z
 obtain rfl:j=a:=by lia
 by_cases z2:i=j
 ·subst z2;exact Kx _
 exact Jw e (h i (j-1) HB HB)
structure Ar(n:Nat)(p:Array Nat):Prop where
 sz:p.size=n
 lt:∀i,0<n→p.getD i 0<n
 pm:p.Perm zR
def Ar.of(h:p.Perm zR):XS p:=by
 have z:p.size=n:=by rw[h.size_eq];simp
 refine⟨z,λi h0=>?_,h⟩;by_cases hi:i<p.size
 ·have:p[i]∈List.range n:=(Yr.mp h).mem_iff.mp HA;rw[Wr,getElem?_pos p i hi];exact Yz.mp this
 rw[Wr,getElem?_neg p i hi];exact h0
def Ar.rev{p:Array Nat}(h:XS p)(i j:Nat):XS (kas_rev p i j):=.of ((mirror_perm _ _ _ _).trans h.pm)
def Ar.bub(h:XS p)(i j:Nat):XS (bubble p i j):=.of ((bubble_perm _ _ _).trans h.pm)
variable(h0:0<n)(hc:∀i j C,i<n→j<n→C (O.blt (kf i) (kf j)) s→cmp i j C s)
include h0 hc
theorem t_ask{p:Array Nat}(P:XS p){α:Type}{i j:Nat}{k:Bool→KasT α}{Q:α→Shared→Prop}(h1:O.klt xt (QM j)→(k true).kasWp cmp Q s)(h2:O.kle (QM j) xt→(k false).kasWp cmp Q s):(KasT.ask zh (p.getD j 0) k).kasWp cmp Q s:=by
 refine hc _ _ _ (P.lt _ h0) (P.lt _ h0) ?_;cases e:O.blt (kf zh) (kf (p.getD j 0)) with
 |true=>exact h1 e
 |false=>exact h2 e
theorem t_asc(P:XS p){Q:Nat→Shared→Prop}:∀(f a:Nat),1≤a→a+f≤n→KI a→(∀m,a≤m→m≤a+f→KI m→(m=a+f∨O.klt (QM m) (QM (m-1)))→Q m s)→(kas_asc p f a).kasWp cmp Q s
 |0,a,_,_,hs,h=>h a Rf Rf hs Sf
 |f+1,a,h1,hn,hs,h=>BW (λe=>h a Rf HB hs (SJ e)) λe=>t_asc P f (a+1) HB HB (hs.snoc h1 e) λm h2 h3=>h m HB HB|>λq h4 h5=>q h4 (h5.imp HB id)
theorem t_desc{Q:Array Nat×Nat×Nat→Shared→Prop}:∀(f:Nat) (p:Array Nat) (a q:Nat),XS p→1≤a→a+f≤n→Dc a→q<a→(∀i,a-(q+1)≤i→i<a→QM i=QM (a-1))→(∀p' m q',XS p'→a≤m→m≤a+f→Dn kf p' m→q'<m→(∀i,m-(q'+1)≤i→i<m→WB p' i=WB p' (m-1))→Q (p',m,q') s)→(kas_desc f p a q).kasWp cmp Q s
 |0,p,a,q,P,_,_,hs,hq,he,h=>h p a q P Rf Rf hs hq he
 | f+1,p,a,q,P,h1,hn,hs,hq,he,h=>by
  have again:∀p',XS p'→Dn kf p' (a+1)→∀q'<a+1,(∀i,a+1-(q'+1)≤i→i<a+1→WB p' i=WB p' (a+1-1))→(kas_desc f p' (a+1) q').kasWp cmp Q s:=λp' P' dF q' cZ bi=>t_desc f p' (a+1) q' P' HB HB dF cZ bi λp2 m q2 P2 h3 h4=>h p2 m q2 P2 HB HB;have one:∀(p':Array Nat) (i:Nat),a+1-(0+1)≤i→i<a+1→WB p' i=WB p' (a+1-1):=λp' i h2 h3=>by rw[show i=a+1-1 by lia]
  refine BW (λe=>?_) λe=>?_
  ·rw[C2];have same:∀k,WB (kas_rev p (a-(q+1)) a) k=QM k:=λk=>by
    rw[kk_rev (by rw[P.sz];lia)];split
    ·rw[he _ HB HB,he k HB HB]
    rfl
   split
   ·refine again _ (P.rev _ _) (λi j dh hj=>?_) 0 HB (one _);rw[same,same];exact hs.snoc h1 (Xc e) i j dh hj
   exact again _ P (hs.snoc h1 (Xc e)) 0 HB (one _)
  rw[So HA];refine BW (λe2=>?_) λe2=>?_
  ·rw[if_pos rfl];exact h p a q P Rf HB hs hq he
  rw[So HA];have eq:=KeyOrd.kle_antisymm e2 e;refine again _ P (hs.snoc h1 e2) (q+1) HB λi h2 h3=>?_;rw[Nat.add_sub_cancel];by_cases z:i=a
  ·rw[z]
  rw[he i HB HB,eq]
theorem t_tail(P:XS p)(h1:1≤m)(hm:m≤n)(hs:Dc m)(h:∀p' k,XS p'→1≤k→k≤n→Up kf p' k→Q (k,p') s):(kas_tail3 m n p).kasWp cmp Q s:=by unfold kas_tail3;rw[Xn];refine t_asc h0 hc ym _ m h1 HB (λi j dh hj=>?_) λk h2 h3 h4 _=>h _ k ym HB HB h4;rw[kk_rev (by rw[P.sz];lia),kk_rev (by rw[P.sz];lia),if_pos HB,if_pos HB];exact hs _ _ HB HB
theorem t_dpart(P:XS p)(hm:m+1≤n)(hs:Dc (m+1))(h:∀p' k,XS p'→1≤k→k≤n→Up kf p' k→Q (k,p') s):(kas_descPart m n p).kasWp cmp Q s:=by
 unfold kas_descPart;rw[Xn];refine t_desc h0 hc _ p (m+1) 0 P HB HB hs HB (λi h2 h3=>by rw[show i=m+1-1 by lia]) λp' k q P' h2 h3 dF hq he=>?_;dsimp only;split
 ·refine t_tail h0 hc (P'.rev _ _) HB HB (λi j dh hj=>?_) h;have same:∀i,WB (kas_rev p' (k-(q+1)) k) i=WB p' i:=λi=>by
   rw[kk_rev (by rw[P'.sz];lia)];split
   ·rw[he _ HB HB,he i HB HB]
   rfl
  rw[same,same];exact dF i j dh hj
 exact t_tail h0 hc P' HB HB dF h
theorem t_count(P:XS p){Q:Nat×Array Nat→Shared→Prop}(h:∀p' k,XS p'→1≤k→k≤n→Up kf p' k→Q (k,p') s):(kas_count n p).kasWp cmp Q s:=by
 unfold kas_count;rw[Xn];refine t_asc h0 hc P _ 1 Rf HB (λi j dh hj=>by rw[show i=j by lia];exact Kx _) λm h1 h2 hs hor=>?_;split
 ·exact h p m P h1 HB hs
 rename_i au;have ox:m≠n:=by simpa using au
 have ad:=hor.resolve_left HB;split
 ·refine BW (λ_=>?_) λe=>?_
  ·rw[if_pos rfl];exact h p m P h1 HB hs
  rw[So HA];have all:∀k,k<m→QM k=QM (m-1):=λk hk=>KeyOrd.kle_antisymm (hs k (m-1) HB HB) (Jw e (hs 0 k HB hk));have same:∀k,WB (kas_rev p 0 m) k=QM k:=λk=>by
   rw[kk_rev (by rw[P.sz];lia)];split
   ·rw[all _ HB,all k HB]
   rfl
  refine t_dpart h0 hc ym HB (Dn.snoc h1 (λi j dh hj=>?_) (by rw[same,same];exact Xc ad)) h;rw[same,same,all i HB,all j hj];exact Kx _
 obtain rfl:m=1:=by lia
 exact t_dpart h0 hc P HB (Dn.snoc Rf (λi j dh hj=>by rw[show i=j by lia];exact Kx _) (Xc ad)) h
theorem t_place{k:Nat}(P:XS p)(hs:KI k){Q:Nat→Shared→Prop}:∀(f l r:Nat),l≤r→r≤k→r-l≤f→(∀i,i<l→Db (QM k))→(∀i,r≤i→i<k→O.klt (QM k) xt)→(∀l,l≤k→(∀i,i<l→Db (QM k))→(∀i,l≤i→i<k→O.klt (QM k) xt)→Q l s)→(kas_place p k f l r).kasWp cmp Q s
 |0,l,r,h1,h2,h3,h4,h5,h=>h l HB h4 λi q=>h5 i HB
 |f+1,l,r,h1,h2,h3,h4,h5,h=>by
  unfold kas_place;split
  ·exact h l HB h4 λi q=>h5 i HB
  refine BW (λe=>?_) λe=>?_
  ·rw[C2];exact t_place P hs f l _ HB HB HB h4 (λi q1 q2=>KeyOrd.klt_of_klt_of_kle e (hs _ _ q1 q2)) h
  rw[So HA];exact t_place P hs f _ r HB h2 HB (λi q=>Jw (hs i ((l+r)/2) HB HB) e) h5 h
theorem t_bin(h:∀p,XS p→KI n→Q p s):∀(f:Nat) (p:Array Nat) (k:Nat),XS p→KI k→k+f=n→(kas_bin f p k).kasWp cmp Q s
 |0,p,k,P,hs,e=>h p P (by rwa[←e])
 | f+1,p,k,P,hs,e=>by
  unfold kas_bin;rw[Xn];refine t_place h0 hc P hs k 0 k HB HB HB (λi q=>absurd q HB) (λi q1 q2=>absurd q2 HB) λl hl mf hhi=>t_bin h f _ (k+1) (P.bub _ _) (λi j dh hj=>?_) HB;have hk:k<p.size:=by rw[P.sz];lia
  rw[kk_bub hk HB,kk_bub hk HB,show k-(k-l)=l by lia]
  repeat' split
  all_goals first
   |(exfalso;lia)
   |exact Kx _
   |exact mf _ (by lia)
   |exact Xc (hhi _ (by lia) (by lia))
   |exact hs _ _ (by lia) (by lia)
theorem t_sort(h:∀p,XS p→KI n→Q p s):(kas_sort n).kasWp cmp Q s:=by
 unfold kas_sort;rw[Xn];refine t_count h0 hc (.of IF) λp k P h1 h2 hs=>?_;dsimp only;split
 ·exact t_bin h0 hc h _ p _ P (by rwa[Nat.max_eq_left h1]) HB
 exact h p P (by rwa[show k=n by lia]at hs)
end
end Tm
namespace Tm
open PySem PyProof.Rows PySem.W MeetsSeq MeetsSeq2 MeetsSeq3 SeqRoads2
open AutoSeq1 (wpAny_loadPart')
section
variable{prog:Nk}{w:Nl}{A:Np}{E:Nc}{s:Ni}{R:List Value→Prop}{vs:Nj}
structure zcg(prog:Nk)(w:Nl)(A:Np)(E:Nc)(s:Ni)(R:List Value→Prop)(vs:Nj):Prop where
 few:vs.length<2→R vs
 go:2≤vs.length→∃kd:SortKind,(∀Q:SortKind→Shared→Prop,Q kd s→ZE A L8 Q E s) ∧
  ∀Q:Unit→SortSt→Prop,(∀aa,(Ts aa).Perm Lq→failedOf aa=none→R ((Ts aa).toList.map (·.2))→Q () aa)→ZM sortRuns' Q (SortSt.mk' kd Pr #[] 7 none)
def zej(vs:Nj):(pairsOf vs).toList=vs.map λv=>(v,v):=by
 rw[pairsOf_toList];induction vs with
 |nil=>rfl
 |cons v r ih=>rw[Kg,Qn,ih]
def perm_back{l:List Keyed}{vs:Nj}(h:l.Perm (vs.map λv=>(v,v))):(EF (·.2)).Perm vs:=by have:=h.map (·.2);rwa[Zg,show((λ(p:Keyed)=>p.2)∘λv=>(v,v))=id from rfl,List.map_id]at this
def cmp_of{kd:SortKind}(h:∀x y,x∈vs→y∈vs→∀(Q:Bool→Shared→Prop) (E':Value→Shared→Prop),(∀b,Q b s)→ZE A Pe Q E' s):QU Lq:=by intro x y st Q hx hy hk q;rw[zej]at hx hy;obtain⟨v,hv,rfl⟩:=Qe.mp hx;obtain⟨u,hu,rfl⟩:=Qe.mp hy;rw[lt'_eq];refine wpS_bind (wpS_get ?_);rw[hk];exact wpS_bind (wpS_lift (wpAny_attempt (h v u hv hu _ _ λb=>⟨rfl,wpS_pure (q b)⟩)))
def zcg.any(h:2≤vs.length→∃kd:SortKind,(∀Q:SortKind→Shared→Prop,Q kd s→ZE A L8 Q E s)∧∀x y,x∈vs→y∈vs→∀(Q:Bool→Shared→Prop) (E':Nc),(∀b,Q b s)→ZE A Pe Q E' s):U7 A E s (λ_=>True) vs:=
 ⟨λ_=>trivial,λh2=>by obtain⟨kd,a1,a2⟩:=h h2;exact⟨kd,a1,λQ q=>zgu (cmp_of a2) rfl rfl IF rfl λaa p1 p2=>q aa p1 p2 trivial⟩⟩
def zcg.ord{O:KeyOrd}{kv:Value→O.α}(h:2≤vs.length→∃ kd:SortKind,(∀ Q:SortKind→Shared→Prop,Q kd s→ZE A L8 Q E s)∧∀ x y,x∈vs→y∈vs→∀ (Q:Bool→Shared→Prop) (E':Nc),Q (O.blt (kv x) (kv y)) s→ZE A Pe Q E' s):U7 A E s (λws=>vs.length < 64→ws.Pairwise λx y=>O.kle (kv x) (kv y)) vs:=by
 refine⟨λh2 _=>?_,λh2=>?_⟩
 ·obtain _|⟨v,_|⟨v',r⟩⟩:=vs
  ·exact List.Pairwise.nil
  ·exact Xt _ _
  exact absurd h2 HA
 obtain⟨kd,a1,a2⟩:=h h2;refine⟨kd,a1,λQ q=>?_⟩;by_cases mB:vs.length<64
 ·have at_:∀ i,i < vs.length→vs.getD i .none∈vs:=λi hi=>by rw[Ze,Qb hi];exact Qq hi
  have st0:SortSt.mk' kd Pr #[] 7 none=kas_st kd Lq (List.toArray (List.range vs.length)):=by unfold kas_st;rw[←pairsOf_size vs,kas_range];rfl
  rw[st0];refine kas_runs (κ:=kd) (it:=pairsOf vs) (E:=E) (Q:=λr st s'=>s'=s∧Q r st) (G:=λp s'=>Aj3 (s'=s) (Ar vs.length p) (Up (O:=O) (λi=>kv Ot) p vs.length)) h2 mB (λp aa s' hz ha hf ⟨hs,P,U⟩=>⟨hs,q aa ?_ hf λ_=>?_⟩) (t_sort (O:=O) (kf:=λi=>kv Ot) HB (λi j C hi hj hC=>?_) λp P U=>⟨rfl,P,U⟩)
  ·have:=(Yr.mp P.pm).map (kas_item Lq);rw[←Xx,←Xx,←pairsOf_size vs,kas_range]at this;rw[ha];exact Yr.mpr this
  ·rw[ha,Xx,Zg,Ja,Xd];intro i j hi hj dh;have e:∀k (hk:k<p.toList.length),kv ((kas_item Lq p.toList[k]).2)=kk (λi=>kv Ot) p k:=λk hk=>by unfold kk;rw[kas_item_eq,Wr,getElem?_pos p k wb];rfl
   show O.kle (kv _) (kv _);dsimp only[Function.comp];rw[e i hi,e j hj];exact U i j (Ud dh) (by simpa[P.sz] using hj)
  unfold kas_cmp;rw[kas_item_eq,kas_item_eq];exact a2 _ _ (at_ i hi) (at_ j hj) _ _ hC
 exact zgu (cmp_of λx y hx hy Q' E' q'=>a2 x y hx hy Q' E' (q' _)) rfl rfl IF rfl λaa p1 p2=>q aa p1 p2 λz=>absurd z mB
abbrev strO:KeyOrd:=strKind.toKeyOrd
def kvS(v:Value):List Nat:=(strOf v).cps.toList
def zdi(hv:∀v∈vs,∃x t,v=.str x t):U7 A E s (λws=>vs.length<64→ws.Pairwise λx y=>strO.kle (kvS x) (kvS y)) vs:=by
 refine .ord λh2=>⟨oneType',λQ q=>kas_kind (T:=.type "str") h2 (λv hm=>?_) HH HH q,λx y hx hy Q E' q=>?_⟩
 ·obtain⟨x,t,rfl⟩:=hv v hm;exact Looks.of_pure rfl
 obtain⟨a,t,rfl⟩:=hv x hx;obtain⟨b,u,rfl⟩:=hv y hy;rw[keyLt'_oneType];exact oneLt_str q
def sort_list{a:Nb}{n:Nat}{P:Fin→Shared→Prop}(ho:s.heap.get? a=some (seqObj "list" vs.toArray n))(hz:vs.length≤sizeLine)(hS:∀s':Shared,(∀b o,b≠a→s.heap.get? b=some o→s'.heap.get? b=some o)→U7 A E s' R vs)(h:∀ws:List Value,ws.Perm vs→R ws→P (.done Ou) {s with heap:=sortedHeap s.heap a vs ws.toArray}) :
  wpAny Rb A (Builtin.«list.sort» ⟨[Sg],[]⟩) P E s:=by
 have lt:a<s.heap.objs.size:=Qx ho;rw[list_sort_plain];refine wpAny_bind (listItems_at ho rfl (Sd (listUpdate_at ho rfl ?_ (hsz:=by simpa using hz) (hsz2:=by simp))));obtain⟨e1,k1⟩:∃e,(s.heap.update a (Obj.mapSeq λ_=>#[])).get? a=some (seqObj "list" #[] e):=⟨_,get?_update_seq ho λ_=>#[]⟩;refine wpAny_bind (wj k1 (Pf (wpAny_newTuple (Sd (wpAny_newList (wpAny_holding ?_))))));show ZE A _ P E {s with heap:=((s.heap.update a (Obj.mapSeq λ_=>#[])).push (seqObj "tuple" vs.toArray 0)).push (seqObj "list" #[] 0)};generalize hg:((s.heap.update a (Obj.mapSeq λ_=>#[])).push (seqObj "tuple" vs.toArray 0)).push (seqObj "list" #[] 0)=g;have k6:g.get? a=some (seqObj "list" #[] e1):=by rw[←hg];exact WF (WF k1)
 have kk:∀b o,b≠a→s.heap.get? b=some o→g.get? b=some o:=λb o hb e=>by rw[←hg];exact WF (WF ((Yc s.heap _ Pq).trans e))
 have eh:∀out,sortedHeap s.heap a vs out=g.update a (Obj.mapSeq λ_=>out):=λout=>by rw[←hg];rfl
 have S:=hS {s with heap:=g} kk;dsimp only;have fin:∀(l:Array Keyed),l.toList.Perm (vs.map λv=>(v,v))→R (l.toList.map (·.2))→P (.done Ou) {s with heap:=g.update a (Obj.mapSeq λ_=>l.map (·.2))}:=λl p1 p2=>by have:=h _ (perm_back p1) p2;rw[eh]at this;rw[show l.map (·.2)=(l.toList.map (·.2)).toArray by rw[←Xx]];exact this
 have lz:vs.toArray.size=vs.length:=Qv;have szOk:∀l:Array Keyed,l.toList.Perm (vs.map λv=>(v,v))→(EF (·.2)).size≤sizeLine+1:=λl p1=>by rw[Array.size_map,←Zz,p1.length_eq,Qa];exact zar16 ‹_›
 by_cases few:vs.toArray.size<2
 ·rw[Sx few,Sx few];refine wpAny_bind Rw;rw[StateT.run_pure];have pr:(pairsOf vs).toList.Perm (vs.map λv=>(v,v)):=by rw[zej]
  refine wpAny_bind (RK (Pf (wj k6 (Sd (listUpdate_at k6 rfl ?_ (hsz:=by simp) (hsz2:=szOk Lq pr))))));simp only[bne_self_eq_false,Ut,if_false];refine wpAny_pure (fin Lq pr ?_);rw[zej,Zg,show((λ(p:Keyed)=>p.2)∘λv=>(v,v))=id from rfl,List.map_id];exact S.few (by rw[←lz];exact few)
 rw[So few,So few];obtain⟨kd,ask,C⟩:=S.go HB;refine wpAny_bind (ask _ (wpAny_bind (wpAny_mono (C (λ_ aa=>Aj3 ((Ts aa).Perm Lq) (failedOf aa=none) (R ((Ts aa).toList.map (·.2)))) λaa p1 p2 p3=>⟨p1,p2,p3⟩) ?_ λ_ _ e=>e)));rintro⟨⟨⟩,aa⟩ s' ⟨rfl,p1,p2,p3⟩;have pr:(Ts aa).toList.Perm (vs.map λv=>(v,v)):=by rw[←zej];exact Yr.mp p1
 dsimp only;refine wpAny_bind (wj k6 (Sd (listUpdate_at k6 rfl ?_ (hsz:=by simp) (hsz2:=szOk (Ts aa) pr))));rw[p2];simp only[bne_self_eq_false,Ut,if_false];exact wpAny_pure (fin _ pr p3)
def zg2{x:Value}{G:List Value→Drawn→Prop}{R:List Value→List Value→Prop}{Q:Nc}(lj:∀(E':Nc) (R:List Value→Shared→Prop),(∀(g:Nn) (tk:Nat) (d:Drawn) (vs:Nj),HS→s.heap.objs.size≤g.objs.size→G vs d→R vs {s with heap:=g,toks:=tk,drawn:=d})→ZE A.in1 (collect x) R E' s)(hz:∀vs d,G vs d→vs.length≤sizeLine)(hS:∀vs d,G vs d→∀(A':Around) (E':Value→Shared→Prop) (s':Shared),A'.units≤A.units+8→(∀b o,s.heap.get? b=some o→s'.heap.get? b=some o)→U7 A' E' s' (R vs) vs)(h:∀(vs ws:Nj) (l:Nb) (g:Nn) (tk e:Nat) (d:Drawn),G vs d→ws.Perm vs→R vs ws→s.heap.objs.size≤l→HS→g.get? l=some (seqObj "list" ws.toArray e)→Q SO {s with heap:=g,toks:=tk,drawn:=d}) :
  wpAny Rb A (call (.builtin "sorted") [x]) Q E s:=by
 refine Calls.call_function_entry kind_sorted plain_sorted entry_sorted (args_sorted1 _) ?_;unfold Builtin.«sorted»;refine wpAny_bind (m:=checkCount "sorted" 1 1 _) (wpAny_pure (wpAny_bind (lj _ _ λg tk d vs kg le hG=>?_)));have hzv:=hz vs d hG;refine wpAny_bind (wpAny_newList ?_ (hsz:=hzv));have o1:(g.push (seqObj "list" vs.toArray 0)).get? g.objs.size=some (seqObj "list" vs.toArray 0):=U5 rfl;show ZV _ _ _ _ {s with heap:=g.push (seqObj "list" vs.toArray 0),toks:=tk,drawn:=d};refine wpAny_bind (wpAny_holding (wpAny_call_entry slot_list_sort ⟨_,o1,rfl⟩ entry_list_sort (sort_list (R:=R vs) o1 hzv (λs' k=>hS vs d hG _ _ s' ?_ λb o e=>k b o (λz=>?_) (WF (kg b o e))) λws p1 p2=>⟨_,rfl,?_⟩) (args_list_sort _)))
 ·show A.units+1+1≤A.units+8;lia
 ·have lt:b < g.objs.size:=Qx (kg b o e);rw[z]at lt;exact absurd lt OS
 obtain⟨e,he⟩:=sortedHeap_at (out:=ws.toArray) o1;refine wpAny_pure ⟨_,rfl,h vs ws _ _ _ e d hG p1 p2 le (λb o q=>?_) he⟩;have lt:b<g.objs.size:=Qx (kg b o q);rw[sortedHeap_old Ps (by rw[size_push'];exact Jq lt)];exact WF (kg b o q)
def zfv{x:Value}{G:List Value→Prop}{R:List Value→List Value→Prop}{Q:Nc}(lj:∀(E':Nc) (R:List Value→Shared→Prop),(∀(g:Nn) (tk:Nat) (vs:Nj),HS→s.heap.objs.size≤g.objs.size→G vs→R vs {s with heap:=g,toks:=tk})→ZE A.in1 (collect x) R E' s)(hz:∀vs,G vs→vs.length≤sizeLine)(hS:∀vs,G vs→∀(A':Around) (E':Value→Shared→Prop) (s':Shared),A'.units≤A.units+8→(∀b o,s.heap.get? b=some o→s'.heap.get? b=some o)→U7 A' E' s' (R vs) vs)(h:∀(vs ws:Nj) (l:Nb) (g:Nn) (tk e:Nat),G vs→ws.Perm vs→R vs ws→s.heap.objs.size≤l→HS→g.get? l=some (seqObj "list" ws.toArray e)→Q SO {s with heap:=g,toks:=tk}) :
  wpAny Rb A (call (.builtin "sorted") [x]) Q E s:=
 zg2 (G:=λvs d=>G vs∧d=s.drawn) (λE' R hR=>lj E' R λg tk vs kg le hG=>hR g tk s.drawn vs kg le ⟨hG,rfl⟩) (λvs _ hG=>hz vs hG.1) (λvs _ hG=>hS vs hG.1) λvs ws l g tk e d hG p1 p2 le k he=>by obtain⟨hG,rfl⟩:=hG;exact h vs ws l g tk e hG p1 p2 le k he
def zho{T:String}{r d:Nb}{n:Nat}{P:Nat→Value→Prop}{OK:Heap→Prop}{R:List Value→Shared→Prop}(K:KdlSrc prog w T r d n P OK)(hh:A.handled=none)(ok:OK s.heap)(hn:n≤sizeLine)(h:∀(g:Nn) (tk:Nat) (ag:Array Value),HS→s.heap.objs.size≤g.objs.size→ItemsOf P ag n→R ag.toList {s with heap:=g,toks:=tk}) :
  wpAny Rb A (collect (HK r)) R E s:=by
 have there:=K.there _ ok;unfold collect;refine wpAny_bind (wpAny_runValue (codeAny_builtin entry_proto_collect' ?_));rw[VM _];show ZV A.in1 (newList [] >>= λl=>again (.builtin "list.__iadd__" ⟨[l,HK r],[]⟩)) _ _ s;refine wpAny_bind (IG ⟨CS Kj,codeAny_builtin entry_list_iadd' ?_⟩);rw[Yf Kj _];show ZV A.in1 (Builtin.List.listExtendWith HY
  (.ref r) HY) _ _ _
 have il:(s.heap.push {cls:=.type "list",data:=.seq ([]:List Value).toArray}).get? s.heap.objs.size=some {cls:=.type "list",data:=.seq #[]}:=U5 rfl;refine wpAny_mono (kdl_extend (A:=A) (s:={s with heap:=s.heap.push {cls:=.type "list",data:=.seq ([]:List Value).toArray}})
  (R:=λ(q:Result) (s':Ni)=>∃ (g:Nn) (tk:Nat) (ag:Array Value) (c:Nat),q=.ok (.ret HY)∧s'={ s with heap:=g,toks:=tk } ∧
   (∀b o,s.heap.get? b=some o→g.get? b=some o)∧g.get? s.heap.objs.size=some {cls:=.type "list",dict:=none,data:=.seq ag c,slots:=#[]}∧ItemsOf P ag n)
  K hh (K.keep _ _ ok λb _ o e=>WF e) s.heap.objs.size (Wa there.1) (Wa there.2) HY 0 il
  (λg tk ag c hk hS ha=>⟨g,tk,ag,c,rfl,rfl,λb o e=>hk b o Cl IE,hS,ha⟩) hn) (λfin s' x=>?_) λe s' x=>?_
 ·cases fin with
  |done f=>obtain⟨g,tk,ag,c,e,rfl,hk,hS,ha⟩:=x;cases e;show ZV A (load s.heap.objs.size >>= _) _ _ _;exact wpAny_bind Cw
  |again c1=>refine⟨x.1,codeAny_mono x.2 λq s2 y=>?_⟩;obtain⟨g,tk,ag,c,rfl,rfl,hk,hS,ha⟩:=y;show ZV A (load s.heap.objs.size >>= _) _ _ _;exact wpAny_bind Cw
 obtain⟨_,_,_,_,e',_⟩:=x;cases e'
def sorted_any{Q:Nc}(hl:s.heap.IsList l vs.toArray)(hz:vs.length≤sizeLine)(hS:∀(A':Around) (E':Value→Shared→Prop) (s':Shared),A'.units≤A.units+8→(∀b o,s.heap.get? b=some o→s'.heap.get? b=some o)→U7 A' E' s' R vs)(h:∀(ws:Nj) (l:Nb) (g:Nn) (tk e:Nat),ws.Perm vs→R ws→s.heap.objs.size≤l→HS→g.get? l=some (seqObj "list" ws.toArray e)→Q SO {s with heap:=g,toks:=tk}) :
  wpAny Rb A (call (.builtin "sorted") [SO]) Q E s:=
 zfv (G:=λus=>us=vs) (R:=λ_=>R) (λE' R' hR=>collect_list hl (hR _ _ _ (λb o e=>(X0 (Zm Cl)).trans IE) (by rw[Heap.size_update,size_push'];exact Uo _) rfl) hz) (λus e=>e▸hz) (λus e=>e▸hS) λus ws l g tk e e' p1 p2=>h ws l g tk e (e'▸p1) p2
def str_ext{a b:Str}(h:a.cps.toList=b.cps.toList):a=b:=by cases a;cases b;exact congrArg _ (Array.toList_inj.mp h)
def str_ne{a b:Str}(h:¬a=b):¬a.cps.toList=b.cps.toList:=λq=>h (str_ext q)
def pairO(O P:KeyOrd):KeyOrd where
 α:=O.α×P.α
 blt a b:=O.blt a.1 b.1||(!GZ a.1&&P.blt a.2 b.2)
 irrefl a:=by rw[O.irrefl,P.irrefl];rfl
 trans a b c h1 h2:=by
  simp only[Ke,Jh,Ko]at *;rcases h1 with h1|⟨n1,h1⟩
  ·rcases h2 with h2|⟨n2,h2⟩
   ·exact .inl (O.trans _ _ _ h1 h2)
   exact .inl (KeyOrd.klt_of_klt_of_kle h1 n2)
  rcases h2 with h2|⟨n2,h2⟩
  ·exact .inl (KeyOrd.klt_of_kle_of_klt n1 h2)
  exact .inr ⟨Jw n1 n2,P.trans _ _ _ h1 h2⟩
 negTrans a b c h:=by
  simp only[Ke,Jh,Ko]at *;rcases h with h|⟨n,h⟩
  ·rcases O.negTrans _ b.1 _ h with q|q
   ·exact .inl (Rq q)
   exact .inr (Rq q)
  cases e1:O.blt a.1 b.1 with
  |true=>exact .inl Sf
  | false=>
   cases e2:GZ c.1 with
   |true=>exact .inr Sf
   |false=>
    have n1:GZ a.1=false:=Jw (O:=O) (a:=a.1) (b:=c.1) (c:=b.1) n e2;have n2:O.blt c.1 b.1=false:=Jw (O:=O) (a:=b.1) (b:=a.1) (c:=c.1) e1 n;rcases P.negTrans _ b.2 _ h with q|q
    ·exact .inl (SJ ⟨n1,q⟩)
    exact .inr (SJ ⟨n2,q⟩)
 total a b h1 h2:=by simp only[Bool.or_eq_false_iff,Bool.and_eq_false_iff,Bool.not_eq_false']at *;have e1:=O.total _ _ h1.1 h2.1;obtain⟨a1,a2⟩:=a;obtain⟨b1,b2⟩:=b;simp only at e1 h1 h2;subst e1;have i:=O.irrefl a1;rw[i]at h1 h2;have p1:P.blt a2 b2=false:=h1.2.elim (λz=>by cases z) id;have p2:P.blt b2 a2=false:=h2.2.elim (λz=>by cases z) id;rw[P.total _ _ p1 p2]
def zjk(h:Nn):Value→List Value
 | .ref a=>match h.get? a with
  |some o=>match o.data with
   |.seq xs _=>xs.toList
   |_=>[]
  |none=>[]
 |_=>[]
def itemsAt_ref(e:h.get? a=some o)(d:o.data=.seq xs n):zjk h Sg=xs.toList:=by unfold zjk;dsimp only;rw[e];dsimp only;rw[d]
def kvP(h:Nn)(v:Value):List Nat×List Nat:=(kvS ((zjk h v).getD 0 .none),kvS ((zjk h v).getD 1 .none))
def zgj(h:Nn)(v:Value)(x:Str)(q:Value):Prop:=∃a o t n,v=.ref a∧h.get? a=some o∧o.cls=.type "tuple" ∧ o.data=.seq #[.str x t,q] n
def zgj.key(p:KJ q):kvP h v=(x.cps.toList,kvS q):=by obtain⟨a,o,t,n,rfl,e,c,d⟩:=p;unfold kvP;rw[itemsAt_ref e d];rfl
end
theorem katTups(k:∀b o,h.get? b=some o→s.get? b=some o):∀(vs:Nj),(∀v∈vs,∃x q,KJ q)→∃fs,KatTups s vs fs∧fs.length=vs.length∧∀f∈fs,∃x t,f=.str x t
 |[],_=>⟨[],.nil,rfl,λf hf=>by cases hf⟩
 |v::vs,hv=>by
  obtain⟨fs,h1,h2,h3⟩:=katTups k vs λu hu=>hv u (QR hu);obtain⟨x,q,a,o,t,n,rfl,e,c,d⟩:=hv v Qc;refine⟨.str x t::fs,.cons OM c d rfl h1,by rw[Qy,Qy,h2],λf hf=>?_⟩;rcases Qi.mp hf with z|z
  ·exact⟨x,t,z⟩
  exact h3 f z
section
variable{prog:Nk}{w:Nl}{A:Np}{E:Nc}{s:Ni}{vs:Nj}{h:Nn}
def kind_tups(k:∀b o,h.get? b=some o→s.heap.get? b=some o)(hv:∀v∈vs,∃x q,KJ q)(h2:2≤vs.length)(q:Q (tuples' true) s):ZE A L8 Q E s:=by obtain⟨fs,h1,h3,h4⟩:=katTups k vs hv;refine kat_kind (T:=.type "str") h1 HB (λf hf=>?_) HH q;obtain⟨x,t,rfl⟩:=h4 f hf;exact Looks.of_pure rfl
def blt_p:(FD strO).blt (x,y) (x',y')=if x=x' then decide (y<y') else decide (x<x'):=by
 show(decide (x<x')||(!decide (x'<x)&&decide (y<y')))=_;split
 ·rename_i e;subst e;rw[decide_eq_false (Uf x)];rfl
 rename_i ne;by_cases h1:x<x'
 ·rw[decide_eq_true h1];rfl
 rw[decide_eq_false h1,decide_eq_true (Jy λh2=>ne (strO.total _ _ (S6 h1) (S6 h2)))];rfl
def ze3(k:∀ b o,h.get? b=some o→s.heap.get? b=some o)(hv:∀ v∈vs,∃ x q,KJ q)(hd:∀ v∈vs,∀ u∈vs,∀ x p q,KJ p→zgj h u x q→v=u∨∃ y t y' t',p=.str y t∧q=.str y' t'):U7 A E s (λws=>vs.length < 64→ws.Pairwise λx y=>(FD strO).kle (kvP h x) (kvP h y)) vs:=by
 refine .ord λh2=>⟨tuples' true,λQ q=>kind_tups k hv h2 q,λv v' hx hy Q E' q=>?_⟩;have same:=hd v hx v' hy;obtain⟨x,z,p⟩:=hv v hx;obtain⟨x',z',p'⟩:=hv v' hy;have P:=p;have P':=p';rw[P.key,P'.key,blt_p]at q;obtain⟨a,o,t,n,rfl,e,c,d⟩:=p;obtain⟨a',o',t',n',rfl,e',c',d'⟩:=p';refine kat_lt OM d (k _ _ e') d' ?_;show KatLex _ _ _ _ _ _ [(U8 t,Value.str x' t'),(z,z')] 0 s;refine kat_cons (wpAny_eqBool_str ?_);by_cases ex:x=x'
 ·subst ex;rw[if_pos rfl]at q;rw[decide_eq_true rfl];refine kat_yes (kat_cons ?_);rcases same x z z' P P' with e2|⟨y,u,y',u',rfl,rfl⟩
  ·cases e2;rw[e]at e';cases e';rw[d]at d';have d2:(#[U8 t,z]:Array Value)=#[U8 t',z']:=by injection d'
   have d3:z=z':=by have:=congrArg (λa:Array Value=>a[1]?) d2;simpa using this
   subst d3;rw[decide_eq_false (Uf _)]at q;exact SeqAt.EqAt.same z _ _ _ _ (kat_yes (kat_nil q))
  refine wpAny_eqBool_str ?_;by_cases ey:y=y'
  ·subst ey;rw[show kvS (V2 u')=kvS (V2 u) from rfl,decide_eq_false (Uf _)]at q;rw[decide_eq_true rfl];exact kat_yes (kat_nil q)
  rw[S6 ey];exact kat_no (kat_one _ _ (lt_str q))
 rw[S6 ex];rw[if_neg (str_ne ex)]at q;exact kat_no (oneLt_str q)
end
def lt_loopAt(l b:Nb)(xs ys:S1 (Str×Tok))(n n2:Nat)(k:Nat) :
  ∀ i:Nat,min xs.length ys.length - i=k→i≤min xs.length ys.length→Meets (Builtin.«list.__eq__.loop» ⟨[SO,EK,CK i,CK 0],[]⟩)
   (λA R s=>s.heap.get? l=some { cls:=.type "list",data:=.seq (ON xs).toArray n }∧s.heap.get? b=some { cls:=.type "list",data:=.seq (ON ys).toArray n2 } ∧
    ∀z,R (CZ (Oi z)) s):=by
 have get:∀(zs:S1 (Str×Tok)) (i:Nat),(ON zs).toArray[((i:Nat):Int).toNat]?=zs[i]?.map λp=>Value.str p.1 p.2:=λzs i=>by simp[strValues]
 induction k with
 | zero=>
  intro i hk gu prog w A R s h;obtain⟨hp,g,d,tk,os⟩:=s;obtain⟨hl,hb,h⟩:=h;wp_walk using wpAny_loadPart' hl,wpAny_loadPart' hb;rw[get,get];by_cases hx:i<xs.length
  ·have hy:ys[i]?=none:=by simp;lia
   rw[hy,Qb hx];dsimp only[Option.map_some,Option.map_none];wp_walk using wpAny_loadPart' hl,wpAny_loadPart' hb;exact h _
  have dX:xs[i]?=none:=by simp;lia
  rw[dX];dsimp only[Option.map_some,Option.map_none];wp_walk using wpAny_loadPart' hl,wpAny_loadPart' hb;exact h _
 |succ k ih=>
  intro i hk gu prog w A R s h;obtain⟨hp,g,d,tk,os⟩:=s;obtain⟨hl,hb,h⟩:=h;wp_walk using wpAny_loadPart' hl,wpAny_loadPart' hb;have hx:i<xs.length:=by lia
  have hy:i<ys.length:=by lia
  rw[get,get,Qb hx,Qb hy];dsimp only[Option.map_some];have hc:((i:Int)+1)=((i+1:Nat):Int):=by push_cast;rfl
  refine wpAny_bind (wpAny_eqBool_str ?_);by_cases he:xs[i].1=ys[i].1
  ·rw[RE he];wp_walk;rw[hc];exact⟨plainId_quiet plain_eq_loop _,codeAny_builtin entry_eq_loop (by rw[G' _];exact ih Rm HB HB prog w A R _ ⟨hl,hb,h⟩)⟩
  rw[S6 he];wp_walk using wpAny_loadPart' hl,wpAny_loadPart' hb;rw[get,get,Qb hx,Qb hy];dsimp only[Option.map_some];refine wpAny_bind (show ZV _ (Ap (Value.str xs[i].1 xs[i].2) (Value.str ys[i].1 ys[i].2)) _ _ _ from lt_str ?_);wp_walk;exact h _
def list_ltAt(l b:Nb)(xs ys:S1 (Str×Tok))(n n2:Nat):Meets (Builtin.«list.__lt__» ⟨[SO,EK],[]⟩)
   (λA R s=>s.heap.get? l=some { cls:=.type "list",data:=.seq (ON xs).toArray n }∧s.heap.get? b=some { cls:=.type "list",data:=.seq (ON ys).toArray n2 } ∧
    ∀z,R (CZ (Oi z)) s):=by
 intro prog w A R s h;obtain⟨hp,g,d,tk,os⟩:=s;obtain⟨hl,hb,h⟩:=h;have f3:=AutoSeq1.sub_list_list;wp_walk using wpAny_loadPart' hl,wpAny_loadPart' hb;exact⟨plainId_quiet plain_eq_loop _,codeAny_builtin entry_eq_loop (by rw[G' _];exact lt_loopAt l b xs ys n n2 _ 0 rfl SW prog w A R _ ⟨hl,hb,h⟩)⟩
section
variable{prog:Nk}{w:Nl}{A:Np}{E:Nc}{s:Ni}
def zhv{vs:Nj}{h:Nn}(hu:A.units<cLine)(k:∀b o,h.get? b=some o→s.heap.get? b=some o)(hv:∀v∈vs,∃a xs n,v=.ref a∧h.get? a=some {cls:=.type "list",data:=.seq (ON xs).toArray n}):U7 A E s (λ_=>True) vs:=by
 refine .any λh2=>⟨oneType',λQ q=>kas_kind (T:=.type "list") h2 (λv hm=>?_) HH HH q,λx y hx hy Q E' q=>?_⟩
 ·obtain⟨a,xs,n,rfl,e⟩:=hv v hm;exact(Looks.ld OM).andThen .now
 obtain⟨a,xs,n,rfl,e⟩:=hv x hx;obtain⟨b,ys,m,rfl,e'⟩:=hv y hy;rw[keyLt'_oneType,oneLt'_eq];simp only[if_true];refine wpAny_bind (wpAny_cRoomFor hu (wpAny_bind (wpAny_callSpecialIfBound?_slot ⟨_,OM,rfl⟩ F.slot_list_lt (call_meets F.slot_list_lt ⟨_,OM,rfl⟩ F.entry_list_lt (F.args_list_lt_2 _ _) (list_ltAt a b xs ys n m) ⟨OM,k _ _ e',λz=>?_⟩))));exact wpAny_truthy_bool (q _)
end
end Tm
namespace L2
open PySem PySem.Spec PyProof.Rows
def zfl{K:Na}{a:Nb}{zs:Ng}{g:TG}{tb:TS}{D:Ends}{σ:St}{H:Hp}(Pv:Nat→St→Hp→Prop)(h0:Ch)(hl:∀i σ H,i≤(zs.map V.str).length→Pv i σ H→YE Sj)(hs:∀i (hi:i<zs.length) σ H,Pv i σ H→g (.str zs[i]) σ H λ σ2 H2=>tb {D with nx:=Pv Rm,ct:=Pv Rm,bk:=D.nx} σ2 H2)(hd:∀σ H,Pv (zs.map V.str).length σ H→WW H) :
  ∃W:Nat→Nat→St→Hp→Prop,(∃m,W 0 m σ H)∧∀i m σ H,W i m σ H →
   ((KU a).stop i H∧WW H)∨((KU a).go i H∧∃N:St→Hp→Prop,Rk∧∀x H',(KU a).yld i H x H'→g x σ H' λ σ2 H2=>tb {D with nx:=N,ct:=N,bk:=D.nx} σ2 H2):=
 za2 Pv h0 hl (λi x σ H e p=>by
  have hi:i<zs.length:=by have:=(TJ e).1;rwa[Qa]at this
  rw[Qk,Qb hi]at e;cases e;exact hs i hi σ H p) hd
section
variable{X:Cx}
inductive RrIndex(x:V)(vs:List V)(H:Hp)(Q:VK):Prop
 |mk(l:Nb)(xs:List V)(y:V)(j:Nat)(h0:x=.ref l)(h1:vs=[y])(h2:H l=some (.lst xs))(h3:zc4 y=true)(h4:xs.all zc4=true)(h5:(∃z,xs[j]?=some z∧eqV z y=true))(h6:(∀m z,m<j→xs[m]?=some z→eqV z y=false))(h7:Q (.int j) H)
def rIndex:V→List V→Hp→VK→Prop:=λx vs H Q=>RrIndex x vs H Q
def zjf:MtM X "list.index" rIndex:=by
 intro a5 s σ H x vs v us Q I rx rv h;obtain⟨l,xs,y,j,rfl,rfl,hH,fy,fs,⟨z,hz,ez⟩,dI,q⟩:=h;cases rx;obtain⟨u,rfl,ru⟩:=rv.one;obtain⟨zz,a7,n,r,hl,e⟩:=I.lstM hH;have hn:=zgf;obtain⟨wv,hw,aX⟩:=r.get hz;have hj:j<a7.length:=(TJ hw).1;have fl:∀{i:Nat} {a:V},xs[i]?=some a→zc4 a=true:=λ{i a} q=>Ur.mp fs a (Yb q);refine call_meets F.slot_list_index ⟨_,e,rfl⟩ F.entry_list_index (F.args_list_index_2 _ _)
  (SeqAt.list_indexAt l a7.toArray n none #[] u (eqU y) j (HE hj) HB ?_ ?_) ⟨e,λa ha=>zek ru fy r fs a (HE ha),?_⟩
 ·have e1:a7[j]=wv:=by have:=Qb hj;rw[this]at hw;exact Qo hw
  show eqU y (a7.toArray[j])=true;rw[Jb,e1,eqU_of aX (fl hz)];exact ez
 ·intro m hm ad;have ug:m<a7.length:=by simpa using hm
  have bZ:m<xs.length:=by exact zar6 ‹_› ‹_›
  have gx:xs[m]?=some xs[m]:=Qb bZ;obtain⟨wm,hwm,rm⟩:=r.get gx;have e1:a7[m]=wm:=by have:=Qb ug;rw[this]at hwm;exact Qo hwm
  show eqU y (a7.toArray[m])=false;rw[Jb,e1,eqU_of rm (fl gx)];exact dI m _ ad gx
 exact⟨Rv j,H,Su,⟨vG⟩,q⟩
theorem zgx:∀{zs:Ng} {a7:Nj},Bf a7→∃l:List (Str×Tok),a7=PySem.strValues l∧l.map (·.1)=zs
 |[],_,.nil=>⟨[],rfl,rfl⟩
 |z::zs,_,.cons r t=>by obtain⟨tk,rfl⟩:=r;obtain⟨l,rfl,e⟩:=zgx t;exact⟨(z,tk)::l,rfl,by rw[Qn,e]⟩
def call_isi_str:YJ (.builtin "isinstance") (λxs H Q=>Ex1 λz=>Aj2 (xs=[xo,.ty "str"]) (Q S2 H)):=by intro a5 s σ H xs us Q I r h;obtain⟨z,rfl,q⟩:=h;obtain⟨u,w',rfl,⟨t,rfl⟩,e⟩:=vals2 r;have e':w'=Value.type "str" :=e;subst e';exact IsiPair.str_str ⟨S2,H,I,rfl,q⟩
def ze1{a5:Nh}{s:Ni}{σ:St}{H:Hp}{p:Nb}{ys:List V}(hc:X.calm=true)(I:Ro)(hq:EL){Q:Nc}(h:∀ (a7:Nj) (It:Nb) (h1:Nn),Y3 a7→Walks X.prog X.w X.A.in1 It [It,p] [It] a7.toArray.size (λi v=>a7.toArray[i]?=some v) (λi h=>h.IsListIter It p i∧h.IsList p a7.toArray)→(h1.IsListIter It p 0∧h1.IsList p a7.toArray)→(∀ b∈[It,p],b < h1.objs.size) →
   (∀(h':Nn) (tk:Nat),(∀b o,b∉[It]→h1.get? b=some o→h'.get? b=some o)→ZA H {s with heap:=h',toks:=tk})→Q (HK It) {s with heap:=h1}) :
  wpAny HU X.A.in1 (Oj TB) Q X.xe s:=by
 obtain⟨a7,rv,pl,hz⟩:=I.list hq;refine wpAny_pyIter_list pl.isList ?_;have lt:p<s.heap.objs.size:=by obtain⟨o,n,e,_⟩:=pl;exact Qx e
 refine h a7 s.heap.objs.size _ rv (Walks.list (show X.A.in1.handled=none from I.ok.hd hc) _ _ Ps _) ⟨⟨_,To,rfl,rfl⟩,?_⟩ (λb hb=>?_) λh' tk k=>I.kept (t':=tk) λb o e=>?_
 ·obtain⟨o,e,r⟩:=pl.isList;exact⟨o,IE,r⟩
 ·rcases Qi.mp hb with e|e
  ·rw[e];simp[Heap.push]
  rw[Qd.mp e];simp[Heap.push];exact Jq lt
 exact k b o (λz=>absurd (Qx e) (by rw[Qd.mp z];exact We _)) IE
theorem zeu(ns:List Int):∀k,k≤ns.length→preSum (λi=>ns.getD i 0) k=(ns.take k).sum
 |0,_=>rfl
 |k+1,h=>by show preSum (λi=>ns.getD i 0) k+ns.getD k 0=_;have hk:k<ns.length:=h;rw[zeu ns k (by exact Ud ‹_›),Qh hk,List.sum_append,List.sum_singleton];congr 1;simp[List.getD,hk]
theorem zhz:∀{ns:List Int} {a7:Nj},Fo a7→∀(i:Nat) (v:Value),a7[i]?=some v→∃t,v=Value.int (ns.getD i 0) t
 |[],_,.nil,i,v,e=>by simp at e
 |n::ns,_,.cons r t,0,v,e=>by obtain⟨tk,rfl⟩:=r;simp at e;subst e;exact⟨tk,rfl⟩
 |n::ns,_,.cons r t,i+1,v,e=>by obtain⟨tk,h⟩:=zhz t i v OR;exact⟨tk,by rw[h];simp⟩
def sum_small{ns:List Int}(hb:∀n∈ns,0≤n∧n≤1000000):0≤ns.sum∧ns.sum≤1000000*(ns.length:Int):=by
 induction ns with
 |nil=>simp
 |cons a r ih=>have h1:=hb a Qc;have h2:=ih λn hn=>hb n (QR hn);rw[Zn,Qy];lia
def call_sum(hc:X.calm=true):YJ (.builtin "sum") (λxs H Q=>Ex2 λ(p:Nb) (ns:List Int)=>Aj5 (xs=[TB]) (Q9 p LW) (ns.length≤1000000) (∀n∈ns,0≤n∧n≤1000000) (Q (.int ns.sum) H)):=by
 intro a5 s σ H xs us Q I r h;obtain⟨p,ns,rfl,hq,hl,hb,q⟩:=h;obtain⟨u,rfl,rx⟩:=vals1 r;cases rx;refine call_sum_walk (MG hq λa7 It h1 rv W st lt keep=>⟨It,_,_,_,_,_,λi=>ns.getD i 0,rfl,W,st,lt,λi v e=>zhz rv i v OR,λj hj=>?_,λh' tk t' k=>⟨.int ns.sum,H,K' k,⟨t',?_⟩,q⟩⟩)
 ·have av:=rv.length;rw[Qa]at av;have eT:j<ns.length:=by rw[av];simpa using hj
  have s1:=sum_small (ns:=ns.take (j+1)) λn hn=>hb n (Ue hn);rw[Zo]at s1;have g:ns.getD j 0=ns[j]:=by simp[List.getD,eT]
  have g2:=hb _ (Qq eT);refine⟨?_,?_⟩
  ·show InLong (ns.getD j 0);rw[g];unfold InLong;lia
  rw[zeu ns (j+1) eT];unfold InLong;lia
 have av:=rv.length;rw[Qa]at av;rw[Qv,zeu ns _ HB,←av,Qr Rf]
theorem zfs:∀{bs:List Bool} {a7:Nj},Vals IM a7→∀(i:Nat) (v:Value),a7[i]?=some v→v=Value.bool (bs.getD i true)
 |[],_,.nil,i,v,e=>by simp at e
 |n::ns,_,.cons r t,0,v,e=>by cases r;simp at e;subst e;rfl
 |n::ns,_,.cons r t,i+1,v,e=>by have h:=zfs t i v OR;rw[h];simp
def all_range(bs:List Bool):(List.range bs.length).all (λi=>bs.getD i true)=bs.all id:=by
 rw[Wd,Ur,Ur];constructor
 ·intro h x hx;obtain⟨i,hi,e⟩:=Zu hx;have:=h i (Yz.mpr hi);simp[List.getD,hi]at this;rw[←e];exact this
 intro h i hi;have ap:=Yz.mp hi;simp[List.getD,ap];exact h _ OO
def zdr(hc:X.calm=true):YJ (.builtin "all") (λxs H Q=>Ex2 λ(p:Nb) (bs:List Bool)=>Aj3 (xs=[TB]) (Q9 p IM) (Iu yn)):=by
 intro a5 s σ H xs us Q I r h;obtain⟨p,bs,rfl,hq,q⟩:=h;obtain⟨u,rfl,rx⟩:=vals1 r;cases rx;refine call_all_walk (MG hq λa7 It h1 rv W st lt keep=>⟨It,_,_,_,_,_,λi=>bs.getD i true,rfl,W,st,λi v s' Q' E' e q'=>?_,λh' tk k=>⟨.bl yn,H,K' k,?_,q⟩⟩)
 ·have e':=zfs rv i v OR;subst e';exact wpAny_truthy_bool q'
 have av:=rv.length;rw[Qa]at av;show Value.bool _=Value.bool _;rw[Qv,←av,all_range]
end
end L2
namespace L2
open PySem PySem.Spec PyProof.Rows Tm
def Vals.perm{ws us:Nj}(p:ws.Perm us):∀{ys:List V},Y3 us→∃zs,zs.Perm ys∧Gj ws:=by
 induction p with
 |nil=>intro ys r;cases r;exact⟨[],.nil,.nil⟩
 |cons x q ih=>
  intro ys r;cases r with
  |cons r1 r2=>obtain⟨zs,h1,h2⟩:=ih r2;exact⟨_::zs,h1.cons _,EJ r1 h2⟩
 | swap x y l=>
  intro ys r;cases r with
  |cons r1 r2=>
   cases r2 with
   |cons r3 r4=>exact⟨_,List.Perm.swap ..,wW⟩
 |trans _ _ ih1 ih2=>intro ys r;obtain⟨zs,h1,h2⟩:=ih2 r;obtain⟨j6,h3,h4⟩:=ih1 h2;exact⟨j6,h3.trans h1,h4⟩
theorem Vals.pairwise{α:Type}{R:α→α→Prop}{kv:Value→α}{kV:V→α}:∀{zs:List V} {ws:Nj},Gj ws→(∀v∈zs,∀u,US u→kv u=kV v)→ws.Pairwise (λa b=>R (kv a) (kv b))→zs.Pairwise λa b=>R (kV a) (kV b)
 |_,_,.nil,_,_=>.nil
 |v::zs,u::ws,.cons r t,hk,h=>by rw[Kh]at h ⊢;refine⟨λb hb=>?_,Vals.pairwise t (λv hv=>hk v wo) h.2⟩;obtain⟨i,hi,e⟩:=Zu hb;obtain⟨x,hx,rx⟩:=Vals.get t (i:=i) (x:=b) (by rw[Qb hi,e]);have:=h.1 x (Yb hx);rw[hk v Qc u r,hk b Cu x rx]at this;exact this
section
variable{X:Cx}
def zeq{a5:Nh}{s:Ni}{σ:St}{H:Hp}{p:Nb}{ys:List V}{R:List Value→List Value→Prop}{Q:VK}(I:Ro)(hq:EL)(hS:∀a7,Y3 a7→∀(A':Around) (E':Value→Shared→Prop) (s':Shared),A'.units≤X.A.units+8→(∀b o,s.heap.get? b=some o→s'.heap.get? b=some o)→zcg X.prog X.w A' E' s' (R a7) a7)(h:∀(l:Nb) (ws:List V) (a7 us:Nj),H l=none→ws.Perm ys→Y3 a7→Vals ws us→R a7 us→Q SO (Lc l ws)) :
  wpAny HU X.A (call (.builtin "sorted") [TB]) Lu X.xe s:=by
 obtain⟨a7,r,pl,hz⟩:=I.list hq;refine sorted_any pl.isList (by rw[←r.length];exact hz) (hS a7 r) λws l g tk e p1 p2 le k he=>?_;obtain⟨zs,q1,q2⟩:=Dd r;exact⟨SO,_,I.laid (t':=tk) k le (show Z1 _ g _ (HR zs) from⟨by rw[q1.length_eq];exact hz,ws,e,q2,he⟩),rfl,h l zs a7 ws wq q1 r q2 p2⟩
def leS(x y:Str):Prop:=¬y.cps.toList<x.cps.toList
def txV:V→List Nat
 |.str x=>x.cps.toList
 |_=>[]
def zgz{ws:List V}{zs:Ng}(pm:ws.Perm Sj):∃ts:List Str,ws=ts.map V.str∧ts.Perm zs:=by
 have a1:∀v∈ws,∃x,v=V.str x:=λv hv=>by obtain⟨x,_,e⟩:=Qe.mp xu;exact⟨x,e.symm⟩
 have a2:∃ts:List Str,ws=ts.map V.str:=by
  clear pm;induction ws with
  |nil=>exact⟨[],rfl⟩
  |cons v r ih=>obtain⟨ts,e⟩:=ih λv hv=>a1 v wo;obtain⟨x,e2⟩:=a1 v Qc;exact⟨x::ts,by rw[e,e2];rfl⟩
 obtain⟨ts,rfl⟩:=a2;refine⟨ts,rfl,?_⟩;have:=pm.map (λv=>match v with | .str x=>x|_=>Str.empty);rw[Zg,Zg]at this;simpa[Function.comp_def] using this
def zdx{zs:Ng}{a7:Nj}(r:Bf a7):∀v∈a7,∃x t,v=.str x t:=λv hv=>by obtain⟨l,rfl,e⟩:=zgx r;obtain⟨pr,_,e2⟩:=Qe.mp hv;exact⟨_,_,e2.symm⟩
def txV_str{zs:Ng}:∀v∈zs.map V.str,∀u,US u→kvS u=txV v:=λv hv u ru=>by obtain⟨x,_,rfl⟩:=Qe.mp hv;obtain⟨t,rfl⟩:=ru;rfl
def zit{zs ts:Ng}{a7 us:Nj}(r:Bf a7)(r2:Vals (ts.map V.str) us)(p:a7.length<64→us.Pairwise λx y=>strO.kle (kvS x) (kvS y))(h:zs.length<64):ts.Pairwise leS:=by have p2:=Vals.pairwise (R:=λa b=>strO.kle a b) (kV:=txV) r2 txV_str (p (by rw[←r.length,Qa];exact h));rw[Ja]at p2;exact p2.imp of_decide_eq_false
def zgh:YJ (.builtin "sorted") (λxs H Q=>Ex2 λ(p:Nb) (zs:Ng)=>Aj3 (xs=[TB]) (Q9 p Sj) (∀(l:Nb) (ws:Ng),H l=none→ws.Perm zs→(zs.length<64→ws.Pairwise leS)→Q SO (ZR l Se))):=by intro a5 s σ H xs us Q I r h;obtain⟨p,zs,rfl,hq,q⟩:=h;obtain⟨u,rfl,rx⟩:=vals1 r;cases rx;refine zeq I hq (λa7 r A' E' s' _ _=>zdi (zdx r)) λl ws a7 us hl p1 r1 r2 p2=>?_;obtain⟨ts,rfl,p3⟩:=zgz p1;exact q l ts hl p3 (zit r1 r2 p2)
def zis(I:Ro)(e:H a=some (.tup [Tt,z])):∃q,RelV z q∧FE Sg x q:=by obtain⟨_,a7,r,o,e1,c,n,d⟩:=JW e;obtain⟨u,w',rfl,⟨t,rfl⟩,rz⟩:=vals2 r;exact⟨w',rz,a,o,t,n,rfl,e1,c,d⟩
def vals_back(r:Y3 a7):∀v∈a7,∃b∈ys,RelV b v:=λv hv=>by
 obtain⟨i,hi,e⟩:=Zu hv;have hl:=r.length;have am:i<ys.length:=by exact zar6 ‹_› ‹_›
 obtain⟨u,hu,ru⟩:=r.get (i:=i) (Qb am);rw[Qb hi,e]at hu;cases hu;exact⟨_,Aq,ru⟩
def zgk(a:KJ p)(b:zgj h v y q):x=y∧p=q:=by
 obtain⟨a,o,t,n,rfl,e,c,d⟩:=a;obtain⟨a',o',t',n',e0,e',c',d'⟩:=b;cases e0;rw[e]at e';cases e';rw[d]at d';have d2:(#[U8 t,p]:Array Value)=#[V2 t',q]:=by injection d'
 have d3:=congrArg (λa:Array Value=>a[0]?) d2;have d4:=congrArg (λa:Array Value=>a[1]?) d2;simp at d3 d4;exact⟨d3.1,d4⟩
def rowV(H:Hp):V→List Nat
 |.ref a=>match H a with
  |some (.tup [x,_])=>txV x
  |_=>[]
 |_=>[]
def zfa(e:H a=some (.tup [x,y])):FG Sg=txV x:=by unfold rowV;dsimp only;rw[e]
def zgi:YJ (.builtin "sorted") (λxs H Q=>Ex2 λ(p:Nb) (ys:List V)=>Aj5 (xs=[TB]) EL (∀v∈ys,∃a x z,v=.ref a∧H a=some (.tup [Tt,z])) (∀v∈ys,∀u∈ys,FG v=FG u→v=u) (∀(l:Nb) (ws:List V),H l=none→ws.Perm ys→(ys.length<64→ws.Pairwise λa b=>strO.kle (FG a) (FG b))→Q SO (Lc l ws))):=by
 intro a5 s σ H xs us Q I r h;obtain⟨p,ys,rfl,hq,hy,hd,q⟩:=h;obtain⟨u,rfl,rx⟩:=vals1 r;cases rx;have back:∀a7,Y3 a7→∀v∈a7,∃b∈ys,RelV b v∧∃a x z q,b=.ref a∧v=.ref a∧H a=some (.tup [Tt,z])∧FE v x q:=λa7 r v hv=>by obtain⟨b,hb,rb⟩:=vals_back r v hv;obtain⟨a,x,z,rfl,e2⟩:=hy b hb;have rb':=rb;cases rb;obtain⟨q',_,T⟩:=zis I e2;exact⟨_,hb,rb',a,x,z,q',rfl,rfl,e2,T⟩
 refine zeq I hq (λa7 r A' E' s' _ k=>ze3 k (λv hv=>?_) λv hv u hu x p q T T'=>?_) λl ws a7 us hl p1 r1 r2 p2=>q l ws hl p1 λmB=>?_
 ·obtain⟨b,hb,rb,a,x,z,q,_,_,_,T⟩:=back a7 r v hv;exact⟨x,q,T⟩
 ·obtain⟨b,hb,rb,a,x1,z,q1,rfl,rfl,e1,T1⟩:=back a7 r v hv;obtain⟨c,hc,rc,a',x2,z',q2,rfl,rfl,e2,T2⟩:=back a7 r u hu;have h1:=(zgk T T1).1;have h2:=(zgk T' T2).1;subst h1;subst h2;have:=hd _ hb _ hc (by rw[zfa e1,zfa e2]);cases this;exact .inl rfl
 refine Vals.pairwise (R:=λa b=>strO.kle a b) (kv:=λu=>(FH u).1) r2 (λv hv u ru=>?_) ((p2 (by rw[← r1.length];exact mB)).imp λh=>(Bool.or_eq_false_iff.mp h).1);obtain⟨a,x,z,rfl,e2⟩:=hy v (p1.mem_iff.mp hv);cases ru;obtain⟨q',_,T⟩:=zis I e2;rw[T.key,zfa e2];rfl
def zf8(hu:X.A.units+8<cLine):YJ (.builtin "sorted") (λxs H Q=>Ex2 λ(p:Nb) (ys:List V)=>Aj4 (xs=[TB]) EL (∀v∈ys,∃a zs,v=.ref a∧H a=some (HR (Bt zs))) (∀(l:Nb) (ws:List V),H l=none→ws.Perm ys→Q SO (Lc l ws))):=by intro a5 s σ H xs us Q I r h;obtain⟨p,ys,rfl,hq,hy,q⟩:=h;obtain⟨u,rfl,rx⟩:=vals1 r;cases rx;refine zeq I hq (λa7 r A' E' s' hA k=>zhv (by exact Kf ‹_› ‹_›) k λv hv=>?_) λl ws _ _ hl p1 _ _ _=>q l ws hl p1;obtain⟨b,hb,ru⟩:=vals_back r v hv;obtain⟨a,zs,rfl,e2⟩:=hy b hb;cases ru;obtain⟨_,aQ,n,r2,e3⟩:=JW e2;obtain⟨l2,rfl,_⟩:=zgx r2;exact⟨a,l2,n,rfl,e3⟩
def dk_at{a5:Nh}{s:Ni}{σ:St}{H:Hp}{d:Nb}{kvs:List (Key×V)}(I:Ro)(rd:FI RO) :
  kvs.length≤sizeLine∧(d==sysModules)=false∧∃vs ep,UC vs∧s.heap.DictAt Lj d vs ep∧vs.length=kvs.length:=by
 obtain⟨z,y,vs,r,hd⟩:=rd.ok I.hok;obtain⟨ep,ha⟩:=hd.dictAt;exact⟨z,y,vs,ep,r,ha,(Zr r).symm⟩
def KV.get{kvs:List (Key×V)}{vs:List (Key×Value)}(r:UC vs){i:Nat}(e:vs[i]?=some (k,x)):∃v,kvs[i]?=some (k,v)∧US x:=by
 induction r generalizing i with
 |nil=>simp at e
 |cons h t ih=>
  cases i with
  |zero=>simp at e;subst e;exact⟨_,by simp;exact Wx h.1 rfl,h.2⟩
  |succ j=>obtain⟨v,h1,h2⟩:=ih (i:=j) OR;exact⟨v,HE h1,h2⟩
def key_rel(h:(Bm w).is k v=true):Fa v:=by
 rcases zbo h with⟨i,t,rfl,rfl⟩|⟨x,t,rfl,rfl⟩
 ·exact⟨t,rfl⟩
 exact⟨t,rfl⟩
def keys_vals{P:Nk}{w:Nl}{kvs:List (Key×V)}{vs:List (Key×Value)}{ag:Array Value}(r:UC vs)(hl:vs.length=kvs.length)(h:ItemsOf (λi v=>∃k x,vs[i]?=some (k,x)∧(Bm w).is k v=true) ag vs.length):Vals (kvs.map λp=>kV p.1) ag.toList:=by
 have g:∀(i:Nat),i<kvs.length→∃v,ag.toList[i]?=some v∧RelV (kV ((kvs.map Prod.fst).getD i (Rq 0))) v:=λi hi=>by
  have am:i<ag.size:=by rw[h.1];exact zar6 ‹_› ‹_›
  have e:ag[i]?=some ag[i]:=by simp[am]
  obtain⟨k,x,e1,e2⟩:=h.2 i _ e;obtain⟨v',e3,_⟩:=KV.get r e1;refine⟨ag[i],HP Yx e,?_⟩;have e4:(kvs.map Prod.fst).getD i (Rq 0)=k:=by rw[Ze,Qk,e3];rfl
  rw[e4];exact key_rel e2
 have hsz:ag.toList.length=kvs.length:=by rw[Zz,h.1];exact hl
 clear h r hl;generalize ag.toList=l at g hsz;induction kvs generalizing l with
 |nil=>have:l=[]:=Ug.mp hsz;subst this;exact .nil
 | cons p t ih=>
  cases l with
  |nil=>cases hsz
  |cons u us=>
   refine .cons ?_ (ih us (λi hi=>?_) (HE hsz))
   ·obtain⟨v,e1,e2⟩:=g 0 HA;simp at e1;subst e1;exact e2
   obtain⟨v,e1,e2⟩:=g Rm xT;exact⟨v,HE e1,HE e2⟩
def zdd(hc:X.calm=true):YJ (.type "list") (λxs H Q=>Ex2 λ(d:Nb) (kvs:S1 (Key×V))=>Aj3 (xs=[C0]) (FI RO) (∀l,H l=none→Q SO (ZR l (.lst (kvs.map λp=>kV p.1))))):=by intro a5 s σ H xs us Q I r h;obtain⟨d,kvs,rfl,hq,q⟩:=h;obtain⟨u,rfl,rx⟩:=vals1 r;cases rx;obtain⟨z,lo,vs,ep,rk,ha,hl⟩:=De hq;refine PySem.W.kdl_call zS S7 ha (HP hl z) λh' tk ag c k e hi=>?_;have rv:=keys_vals rk hl hi;exact⟨HK _,_,I.laid (t':=tk) k Rf (show Z1 _ h' _ (HR _) from⟨y8 z,ag.toList,c,rv,by rw[e]⟩),rfl,EA⟩
def zcf(hc:X.calm=true):YJ (.builtin "sorted") (λxs H Q=>Ex3 λ(d:Nb) (kvs:S1 (Key×V)) (zs:Ng)=>Aj4 (xs=[C0]) (FI RO) ((kvs.map λp=>kV p.1)=zs.map V.str) (∀(l:Nb) (ws:Ng),H l=none→ws.Perm zs→(zs.length<64→ws.Pairwise leS)→Q SO (ZR l Se))):=by
 intro a5 s σ H xs us Q I r h;obtain⟨d,kvs,zs,rfl,hq,ez,q⟩:=h;obtain⟨u,rfl,rx⟩:=vals1 r;cases rx;obtain⟨z,lo,vs,ep,rk,ha,hl⟩:=De hq;refine zfv (G:=λa7=>Bf a7) (λE' R hR=>zho zS (show X.A.in1.handled=none from I.ok.hd hc) ha (HP hl z) λg tk ag k le hi=>hR g tk _ k le (ez▸keys_vals rk hl hi))
  (λa7 r=>by rw[←r.length,←ez,Qa];exact z) (λa7 r A' E' s' _ _=>zdi (zdx r)) λa7 ws l g tk e r p1 p2 le k he=>?_
 obtain⟨j6,q1,q2⟩:=Dd r;obtain⟨ts,rfl,p3⟩:=zgz q1;refine⟨SO,_,I.laid (t':=tk) k le (show Z1 _ g _ (HR _) from⟨?_,ws,e,q2,he⟩),rfl,q l ts wq p3 (zit r q2 p2)⟩;rw[q1.length_eq,←ez,Qa];exact z
variable{a5:Nh}{σ:St}{H:Hp}{s:Ni}
def Inv.freeze(I:Ro)(hd:H d=some u)(ho:s.heap.get? d=some o)(mu:Mut xc):ZA (ZR d P0) s:=by
 have ne:∀b,H b=none→b≠d:=λb e z=>by rw[z,hd]at e;cases e
 have nt:∀b xs,H b=some Tb→b≠d:=λb xs e z=>by rw[z,hd]at e;cases e;exact mu
 have nf:∀b o' u',H b=some Tl→b≠d:=λb o' u' e z=>by rw[z,hd]at e;cases e;exact mu
 have nb:∀b ps,H b=some AM→b≠d:=λb ps e z=>by rw[z,hd]at e;cases e;exact mu
 have no:∀b a,H b=some EZ→b≠d:=λb a e z=>by rw[z,hd]at e;cases e;exact mu
 refine I.un (h':=s.heap) (t':=s.toks) ⟨λb o e _ _ _=>e,λb o e _ _ _=>⟨o.slots,e⟩,λb o e n _=>by rw[zag (ne b n)];exact n,λb o e _=>⟨o,e⟩,λb xs e=>by rw[zag (nt b xs e)];exact e,
  λb o' u' e=>by rw[zag (nf b o' u' e)];exact e,λb ps e=>⟨#[],by rw[zag (nb b ps e),e];simp⟩⟩ λb v e=>?_
 by_cases hb:b=d
 ·subst hb;rw[zab]at e;cases e;exact⟨ho,(KB u hd).stay (λc v _ q=>q) (λc q=>by rw[zag P8];exact q) λc xs q=>by rw[zag O2];exact q⟩
 rw[yT]at e;exact(KB v e).stay (λc v _ q=>q) (λc q=>by rw[zag P8];exact q) λc xs q=>by rw[zag O2];exact q
def Inv.thaw(I:Ro)(hd:H d=some P0)(hx:∀o' u',X.H₀ d≠some Tl):ZA (ZR d u) s:=by
 have ne:∀b,H b=none→b≠d:=λb e z=>by rw[z,hd]at e;cases e
 have nt:∀b xs,H b=some Tb→b≠d:=λb xs e z=>by rw[z,hd]at e;cases e
 have nb:∀b ps,H b=some AM→b≠d:=λb ps e z=>by rw[z,hd]at e;cases e
 have no:∀b a,H b=some EZ→b≠d:=λb a e z=>by rw[z,hd]at e;cases e
 have B:=I.base;refine⟨I.ok,I.os,I.bare,⟨B.keep,B.slot,λb o e n hx=>?_,B.there,λb xs e=>?_,λb o' u' e=>?_,λb ps e=>?_⟩,I.loc,I.cell,?_,λx c e=>?_,λp hp=>?_,λb v e=>?_,I.len⟩
 ·have:=B.free b o e n hx;rw[zag (ne b this)];exact this
 ·have:=B.tups b xs e;rw[zag (nt b xs this)];exact this
 ·have:=B.frzs b o' u' e;have nd:b≠d:=λz=>hx o' u' (z▸e);rw[zag nd];exact this
 ·obtain⟨m,q⟩:=B.tbls b ps e;exact⟨m,HZ (nb b _ q) q⟩
 ·rw[zag (ne _ I.free)];exact I.free
 ·rw[zag (ne c (J4 e))];exact J4 e
 ·obtain⟨h1,h2,h3⟩:=BK hp;exact⟨h1,HZ (ne _ h2) h2,h3⟩
 by_cases hb:b=d
 ·subst hb;rw[zab]at e;cases e;exact(show s.heap.get? b=some o∧Z1 H s.heap b u from KB _ hd).2.stay (λc v _ q=>q) (λc q=>by rw[zag P8];exact q) λc xs q=>by rw[zag O2];exact q
 rw[yT]at e;exact(KB v e).stay (λc v _ q=>q) (λc q=>by rw[zag P8];exact q) λc xs q=>by rw[zag O2];exact q
inductive Thaw(X:Cx)(R:Hp→Prop)(H':Hp):Prop
 |mk(d:Nb)(o:Obj)(u:HO)(h:H' d=some (.frz o u))(n:∀o' u',X.H₀ d≠some (.frz o' u'))(q:R (upd H' d u))
def tThaw(X:Cx)(t:TE):TE:=λ σ H Q=>t σ H λv H'=>FJ (Q v) H'
def zja(h:Z9 e t):Z9 e (tThaw X t):=by intro a5 s σ H Q I q;exact thn (LO _ q) λu s' ⟨v,H',I',r,d,o,w',e1,e2,e3⟩=>⟨v,_,Va e2,r,e3⟩
def sThaw(X:Cx)(t:TS):TS:=λD σ H=>t {nx:=λ σ' H'=>FJ (D.nx σ') H',rt:=λv H'=>FJ (D.rt v) H',bk:=λ σ' H'=>FJ (D.bk σ') H',ct:=λ σ' H'=>FJ (D.ct σ') H'} σ H
def zi6{st:Stmt}{t:TS}(h:KO st t):KO st (sThaw X t):=by
 intro a5 s σ H D I q;refine thn (LO _ q) λf s' z=>?_;cases f with
 |next=>obtain⟨σ',H',I',d,o,w',e1,e2,e3⟩:=z;exact⟨σ',_,Va e2,e3⟩
 |brk=>obtain⟨σ',H',I',d,o,w',e1,e2,e3⟩:=z;exact⟨σ',_,Va e2,e3⟩
 |cont=>obtain⟨σ',H',I',d,o,w',e1,e2,e3⟩:=z;exact⟨σ',_,Va e2,e3⟩
 |ret u=>obtain⟨v,σ',H',I',r,d,o,w',e1,e2,e3⟩:=z;exact⟨v,σ',_,Va e2,r,e3⟩
def Itd(d:Nb)(o:Obj)(kvs:S1 (Key×V)):It:=
 ⟨λi H=>H d=some zj∧i<kvs.length,λi H x H'=>H'=H∧∃p,kvs[i]?=some p∧x=kV p.1,λi H=>H d=some zj∧kvs.length≤i⟩
def frz_at(I:Ro)(e:H d=some zj):s.heap.get? d=some o∧Z1 H s.heap d RO:=Ha e
def zih{h:Nn}{kvs:List (Key×V)}{vs vs':List (Key×Value)}{ep ep':Nat}(ho:h.get? d=some o)(a:h.DictAt Ck d vs ep)(o':Obj)(h':Nn)(dz:h'.get? d=some o):h'.DictAt Ck d vs ep:=by obtain⟨q,es,e,r⟩:=a;rw[ho]at e;cases e;exact⟨o,es,dz,r⟩
theorem turn_dict{P:Nk}{w:Nl}{K:Na}{tg:Expr}{o:Obj}{kvs:List (Key×V)}{vs:List (Key×Value)}{ep:Nat}{h0:Nn}(d it:Nb)(rk:UC vs)(hl:vs.length=kvs.length)(h00:h0.get? d=some o)(il:h0.DictAt Ck d vs ep) :
  Turn P w K tg (Gn kvs) [it] it (λi h=>h.IsKeyIter it d i vs.length ep) where
 mem:=by simp
 obj:=λi h st b hb=>by
  have e:b=it:=by simpa using hb
  subst e;obtain⟨o,e,c,d⟩:=st;exact⟨o,e,λv z=>by rw[d]at z;cases z⟩
 keep:=λi h h' st k=>st.at λo e=>k it HA o e
 item:=by
  intro X hP hw hK hc i a5 s σ H E I hf st hg;subst hP hw hK;obtain⟨fz,hi⟩:=hg;obtain⟨ho,_⟩:=frz_at I fz;have DA:s.heap.DictAt Lj d vs ep:=zih (kvs:=kvs) (vs':=vs) (ep':=ep) h00 il o s.heap ho;obtain⟨f0,f1,f2,f3,f4,f5⟩:=V1 HA;have am:i<vs.length:=by exact zar6 ‹_› ‹_›
  obtain⟨v',e3,_⟩:=KV.get rk (i:=i) (k:=vs[i].1) (x:=vs[i].2) (Qb am);refine wpAny_pyNext_dict_item st DA (k:=vs[i].1) (v:=vs[i].2) (Qb am) λkey h' hk aa sb=>?_;have I1:ZA H {s with heap:=h'}:=I.turned (t':=s.toks) (λb o hb e=>(AO hb).trans e) f0 f1 f3 f4 f5;obtain⟨o2,e,c,d2⟩:=id aa;exact⟨key,rfl,go_of (s:={s with heap:=h'}) e c d2 HH ⟨kV vs[i].1,H,I1,key_rel hk,⟨rfl,_,e3,rfl⟩,aa,λb hb=>(hf b hb).1⟩⟩
 done:=by intro X hP hw hK hc i a5 s σ H E I hf st hg;subst hP hw hK;obtain⟨fz,hi⟩:=hg;obtain⟨ho,_⟩:=frz_at I fz;have DA:s.heap.DictAt Lj d vs ep:=zih (kvs:=kvs) (vs':=vs) (ep':=ep) h00 il o s.heap ho;obtain⟨f0,f1,f2,f3,f4,f5⟩:=V1 HA;exact wpAny_pyNext_dict_end S7 st DA (Wy HB) λh' eb=>⟨rfl,I.turned (t':=s.toks) (λb o hb e=>eb b o hb e) f0 f1 f3 f4 f5⟩
 self:=λ_ _ _ _ _ st h=>wpAny_pyIter_keyiter st h
inductive RIDi(x:V)(H:Hp)(R:It→Hp→Prop):Prop
 |mk(d:Nb)(kvs:List (Key×V))(e:x=.ref d)(h:H d=some (.dK kvs))(q:∀o,R (Itd d o kvs) (upd H d (.frz o (.dK kvs))))
def iDict(td:TE):TI:=λ σ H R=>td σ H λx H1=>RIDi x H1 R
def zd1{tg l:Expr}{tl:TE}(hl:OY):YR l (iDict tl):=by
 intro a5 s σ H R I h;refine thn Cc λv s1 ⟨x,H1,I1,r1,q1⟩=>?_;obtain⟨d,kvs,e,hd,q⟩:=q1;subst e;cases r1;obtain⟨z,lo,vs,ep,rk,ha,ae⟩:=dk_at I1 (Rq hd);obtain⟨o,es,ho,r⟩:=id ha;refine wpAny_pyIter_dict lo ha ?_;have I2:=I1.freeze hd ho trivial;have I3:ZA (QA d zj) {s1 with heap:=s1.heap.push {cls:=.type "dict_keyiterator",data:=.fields #[C0,Pl,.int vs.length 0,S5 ep 0]}}:=I2.kept (t':=s1.toks) λb o e=>WF e;refine⟨s1.heap.objs.size,[s1.heap.objs.size],_,_,vG,I3,turn_dict d _ rk ae ho ha,⟨_,To,rfl,rfl⟩,λb hb=>?_,q o⟩;have e:b=s1.heap.objs.size:=by simpa using hb
 subst e;exact I2.fpOk Rf (I2.hok.fresh Rf)
def for_dict{d:Nb}{o:Obj}{kvs:List (Key×V)}{g:TG}{tb:TS}{D:Ends}{σ:St}{H:Hp}(Pv:Nat→St→Hp→Prop)(h0:Ch)(hl:∀i σ H,i≤kvs.length→Pv i σ H→H d=some zj)(hs:∀i p σ H,kvs[i]?=some p→Pv i σ H→g (kV p.1) σ H λ σ2 H2=>tb {D with nx:=Pv Rm,ct:=Pv Rm,bk:=D.nx} σ2 H2)(hd:∀σ H,Pv kvs.length σ H→WW H) :
  ∃W:Nat→Nat→St→Hp→Prop,(∃m,W 0 m σ H)∧∀i m σ H,W i m σ H →
   ((Gn kvs).stop i H∧WW H)∨((Gn kvs).go i H∧∃N:St→Hp→Prop,Rk∧∀x H',(Gn kvs).yld i H x H'→g x σ H' λ σ2 H2=>tb {D with nx:=N,ct:=N,bk:=D.nx} σ2 H2):=by
 refine⟨λi m σ H=>m=kvs.length-i∧i≤kvs.length∧Pv i σ H,⟨kvs.length,HA,SW,h0⟩,?_⟩;rintro i m σ H ⟨rfl,hi,p⟩;have q:=hl i σ H hi p;by_cases ad:i<kvs.length
 ·refine .inr ⟨⟨q,ad⟩,Pv Rm,fun σ' H' p'=>⟨kvs.length - Rm,Ra,rfl,ad,p'⟩,λx H' y=>?_⟩;obtain⟨e,pr,e2,rfl⟩:=y;subst e;exact hs i pr σ _ e2 p
 have e:i=kvs.length:=by exact zar3 ‹_› ‹_›
 subst e;exact .inl ⟨⟨q,Rf⟩,Pk⟩
end
end L2
namespace Enu
open PySem PyProof.Rows
open AutoSeq1 (wpAny_loadPart')
section
variable{prog:Nk}{w:Nl}{A:Np}{E:Nc}{s:Ni}
def next_item(st:zI)(ht:Oa)(hx:xs[i]?=some x)(hQ:∀g,g.IsTupleIter j t Rm→DK g→Q x {s with heap:=g}):ZE A LH Q E s:=by obtain⟨o,ho,hc,hd⟩:=id st;obtain⟨p,hp,_,k,hk⟩:=ht;unfold Builtin.SmallTypes.nextOf;refine wpAny_bind (wpAny_callSpecial?_slot (name:=Str.ofString "__next__") st.typeIs Kb (J1 ?_ Ov));show ZV _ (field Ef 0 >>= _) _ _ s;refine wpAny_bind (BO (x:=.ref t) rfl ?_);show ZV _ (if(Value.ref t==.none)=true then _ else _) _ _ s;rw[if_neg (show ¬((Value.ref t==.none)=true) from Zh)];show ZV _ (field Ef 1 >>= _) _ _ s;refine wpAny_bind (BO (x:=.int i 0) rfl ?_);show ZV _ (seqItems? Ll >>= _) _ _ s;refine wpAny_bind (Fd ?_);simp only[Yv,hx];refine wpAny_bind (J8 HA (vt ⟨x,rfl,RK (hQ _ ⟨_,EV,(Obj.cls_mapFields ..).trans hc,by rw[Xq hd];simp[rawInt]⟩ (Jl ..))⟩))
def next_end(hh:A.handled=none)(st:zI)(ht:Oa)(hx:xs[i]?=none)(hE:∀g e,X2 g→(∃o,g.get? e=some o∧o.cls=.type "StopIteration")→E (HK e) {s with heap:=g}):ZE A LH Q E s:=by
 obtain⟨o,ho,hc,hd⟩:=id st;obtain⟨p,hp,_,k,hk⟩:=ht;unfold Builtin.SmallTypes.nextOf;refine wpAny_bind (wpAny_callSpecial?_slot (name:=Str.ofString "__next__") st.typeIs Kb (J1 ?_ Ov));show ZV _ (field Ef 0 >>= _) _ _ s;refine wpAny_bind (BO (x:=.ref t) rfl ?_);show ZV _ (if(Value.ref t==.none)=true then _ else _) _ _ s;rw[if_neg (show ¬((Value.ref t==.none)=true) from Zh)];show ZV _ (field Ef 1 >>= _) _ _ s;refine wpAny_bind (BO (x:=.int i 0) rfl ?_);show ZV _ (seqItems? Ll >>= _) _ _ s;refine wpAny_bind (Fd ?_);simp only[Yv,hx];refine wpAny_bind (wpAny_rule (Sd (J8 HA ?_)));show ZV _ (newExc (.type "StopIteration") [] >>= _) _ _ _;refine wpAny_bind ?_;simp only[newExc,newTuple];refine wpAny_bind (wpAny_newObj_type (wpAny_bind (m:=firstArgMember _ _) (wpAny_of_eq (a:=Value.none) (by first|rfl|(simp only[firstArgMember];rfl)) (wpAny_newObj_type ?_ (by size_fits)))) (by size_fits));simp only[raiseNew];refine wpAny_bind (wpAny_handled ?_)
 first|rw[show A.in1.handled=none from hh] | rw[hh]
 refine wpAny_bind (RK (wpAny_throw (hE _ _ (((Jl ..).extBut.push _).push _) ⟨_,To,rfl⟩)))
theorem drawsT(hh:A.handled=none)(j t:Nb)(au:t≠j)(xs:Array Value) :
  Draws prog w A j [j,t] xs.size (λi v=>xs[i]?=some v) (λi h=>h.IsTupleIter j t i∧h.IsTuple t xs) where
 live:=λ_ _ st=>let⟨o,ho,_⟩:=st.1;⟨o,ho⟩
 frame:=λi h h' st k=>⟨st.1.at λo e=>k j HA o e,let⟨o,e,r⟩:=st.2;⟨o,k t HA o e,r⟩⟩
 item:=λi s Q E hi st hQ=>by refine next_item st.1 st.2 (x:=xs[i]) (by simp[hi]) λg a b=>?_;obtain⟨o,e,r⟩:=st.2;exact hQ _ g s.toks (by simp[hi]) ⟨a,o,(b.2 t au).trans e,r⟩ b
 done:=λs Q E st hE=>next_end hh st.1 st.2 HA hE
def new_tuple(t:Nb)(xs:Array Value)(n:Nat)(dct:Option Addr)(sl:Array Tr) :
  Meets (Builtin.«enumerate.__new__» ⟨[.type "enumerate",Ll],[]⟩) (λ_ R s=>s.heap.get? t=some {cls:=.type "tuple",dict:=dct,data:=.seq xs n,slots:=sl} ∧
   R (.ok (.ret (.ref (s.heap.push {cls:=.type "tuple_iterator",data:=.fields #[Ll,Pl]}).objs.size)))
    {s with heap:=(s.heap.push {cls:=.type "tuple_iterator",data:=.fields #[Ll,Pl]}).push {cls:=.type "enumerate",data:=.fields #[.none,xK,HY,CK 0,.none,.none]}}):=
 .of_wp λprog w A R s h=>by
  obtain⟨hp,g,d,tk,os⟩:=s;obtain⟨hl,h⟩:=h;have iK:=sub_enumerate;have hL:Heap.IsTuple (Shared.heap ⟨hp,g,d,tk,os⟩) t xs:=⟨_,hl,rfl,n,rfl⟩;wp_walk using wpAny_loadPart' hl;refine wpAny_stack_any λst=>wpAny_pure ?_;split
  ·rename_i c _ _ _ _ _;cases(c==Value.type "enumerate")<;>(wp_walk using wpAny_loadPart' hl,wpAny_pyIter_tuple hL;exact⟨vG,h⟩)
  wp_walk using wpAny_loadPart' hl,wpAny_pyIter_tuple hL;exact⟨vG,h⟩
def call_enum(hL:Oa)(h:∀g,IsEnum g Rj s.heap.objs.size 0 .none→g.IsTupleIter s.heap.objs.size t 0→g.objs.size=s.heap.objs.size+2→HS→Q (HK (s.heap.objs.size+1)) {s with heap:=g}) :
  wpAny Rb A (call (.type "enumerate") [Ll]) Q E s:=by
 obtain⟨⟨c,dct,dt,sl⟩,hl,hc,n,hd⟩:=hL;replace hc:c=.type "tuple" :=hc;replace hd:dt=.seq xs n:=hd;subst hc hd;refine callType_new F.called_enumerate HH (F.typeCall_enumerate_1 _) (F.newCall_enumerate_1 _) (λobj=>F.args_object_init_2 obj _) F.entry_enumerate_new (new_tuple t xs n dct sl) ⟨hl,?_⟩;have hz:(s.heap.push {cls:=.type "tuple_iterator",data:=.fields #[Ll,Pl]}).objs.size=s.heap.objs.size+1:=Wj ..;show _∧_;rw[hz];have he:IsEnum ((s.heap.push {cls:=.type "tuple_iterator",data:=.fields #[Ll,Pl]}).push {cls:=.type "enumerate",data:=.fields #[.none,xK,HY,CK 0,.none,.none]}) Rj s.heap.objs.size 0 .none:=by have q:=Qz (s.heap.push {cls:=.type "tuple_iterator",data:=.fields #[Ll,Pl]}) (o:={cls:=.type "enumerate",data:=.fields #[.none,xK,HY,CK 0,.none,.none]}) rfl;rw[hz]at q;exact q
 exact⟨⟨_,he,rfl⟩,h _ he ⟨_,WF To,rfl,rfl⟩ (by rw[Wj,hz]) λb o x=>WF (WF x)⟩
end
end Enu
namespace L2
open PySem PySem.Spec PyProof.Rows Enu
def IteG(Sq:Hp→List V→Prop):It:=
 ⟨λi H=>∃xs,Sq H xs∧i<xs.length,λi H x H'=>∃y t,(∀xs,Sq H xs→xs[i]?=some y)∧H t=none∧x=.ref t∧H'=ZR t (.tup [E2,y]),λi H=>∃xs,Sq H xs∧xs.length≤i⟩
structure EnuOk(P:Nk)(w:Nl)(K:Na)(a j:Nb)(Sq:Hp→List V→Prop)(It:Nat→Heap→Prop):Prop where
 obj:∀i h,It i h→∃o,h.get? j=some o∧∀v,o.data≠.cell v
 keep:∀i h h',It i h→(∀o,h.get? j=some o→h'.get? j=some o)→It i h'
 go:∀{X:Cx} {a5:Nh} {σ:St} {H:Hp} {s:Ni} {xs:List V},X.prog=P→X.w=w→X.K=K→ZA H s→X.A.in1.handled=none→Sq H xs→∃(a7:Nj) (St:Heap→Prop),WG a7∧(∀ys,Sq H ys→ys=xs)∧St s.heap ∧
  Draws P w X.A.in1 j [j,a] a7.toArray.size (λi v=>a7.toArray[i]?=some v) (λi h=>It i h∧St h) ∧
  ∀{i:Nat} {Q E:Nc},It i s.heap→a7.toArray[i]?=none→(∀g e,X2 g→(∃o,g.get? e=some o∧o.cls=.type "StopIteration")→E (HK e) {s with heap:=g})→BM X.A.in1 LH Q E s
theorem turn_enumG{P:Nk}{w:Nl}{K:Na}{elts:Nv}{kk:Nat}{pos:Pos}{a e j:Nb}{Sq:Hp→List V→Prop}{It:Nat→Heap→Prop}(ok:EnuOk P w K a j Sq It)(jA:e≠j)(hae:e≠a) :
  Turn P w K (.Tuple elts kk pos) (IteG Sq) [e,j] e (λi h=>(∃old,IsEnum h e j i old)∧It i h) where
 mem:=by simp
 obj:=λi h st b hb=>by
  rcases Qi.mp hb with z|z
  ·subst z;obtain⟨old,q⟩:=st.1;exact⟨_,q,λv z=>by have z':Data.fields _=Data.cell v:=z;cases z'⟩
  rw[CI z];exact ok.obj _ _ st.2
 keep:=λi h h' st k=>⟨let⟨old,q⟩:=st.1;⟨old,k e HA _ q⟩,ok.keep _ _ _ st.2 λo q=>k j HA o q⟩
 item:=by
  intro X hP hw hK hc i a5 s σ H E I hf st hg;obtain⟨xs,hq,hi⟩:=hg;obtain⟨a7,S,rv,inj,p,dr,_⟩:=ok.go hP hw hK I S7 hq;subst hP hw hK;have hl:=rv.length;obtain⟨⟨old,he⟩,hit⟩:=st;refine wpAny_pyNext_enum_itemD dr he ⟨hit,p⟩ (by simp;exact zar7 ‹_› ‹_›) jA (by simp[jA,hae]) λx g tk hP ho hs hT hsz hk=>⟨HY,rfl,?_⟩;have fr:∀b,b∈[e,j]→Y2 b:=hf;obtain⟨e0,e1,e2,e3,e4,e5⟩:=hf e HA;obtain⟨j0,j1,j2,j3,j4,j5⟩:=hf j HA;have hHe:∀b u,H b=some u→b≠e∧b≠j:=λb u q=>⟨λz=>(by rw[z,e0]at q;cases q),λz=>(by rw[z,j0]at q;cases q)⟩;have I1:ZA H {s with heap:=g,toks:=tk+1}:=by
   refine I.step (g':=s.gens) (d':=s.drawn) (ch:=[e,j]) (λb hb=>?_) (λb o _ _ hc q _=>hk b o (λz=>hc (by simp[z])) (λz=>hc (by simp[z])) q) (λb o _ _ hc q _=>⟨o.slots,hk b o (λz=>hc (by simp[z])) (λz=>hc (by simp[z])) q⟩) (λ_ _ _ _ n=>n)
    (λb o hc q=>⟨o,hk b o (λz=>hc (by simp[z])) (λz=>hc (by simp[z])) q⟩) (λ_ _ q=>q) (λ_ _ _ q=>q) (λb ps q=>⟨#[],by rw[q];simp⟩) (λm hm=>?_) (λb u q=>?_) I.bare
   ·rcases Qi.mp hb with z|z
    ·subst z;exact⟨e3,e1,e4,e5⟩
    rw[Qd.mp z];exact⟨j3,j1,j4,j5⟩
   ·obtain⟨o,es,ep,q,r⟩:=hm;exact⟨o,es,ep,hk _ o (Zm e1) (Zm j1) q,r⟩
   refine (KB u q).stay (λc v hc z=>?_) (λ_ z=>z) λ_ _ z=>z;have hcn:c≠e∧c≠j:=by
    rcases hc with rfl|hc
    ·exact hHe c u q
    exact hHe c _ hc
   exact hk c v hcn.1 hcn.2 z
  obtain⟨y,hy⟩:∃y,xs[i]?=some y:=⟨xs[i],Qb hi⟩;obtain⟨u,hu,ru⟩:=rv.get hy;have hP':a7[i]?=some x:=by simpa using hP
  rw[hu]at hP';have hux:u=x:=Qo hP';subst hux;have hN:H s.heap.objs.size=none:=I.hok.fresh Rf;refine wpAny_letOwnedTupleGo_enum ho λg' bi dF=>?_;have nT:s.heap.objs.size≠e:=Wa (Qx he);have nJ:s.heap.objs.size≠j:=by obtain⟨o,q,_⟩:=ok.obj _ _ hit;exact Wa (Qx q)
  have I2:ZA H {s with heap:=g',toks:=tk+1}:=Inv.turned (s:={s with heap:=g,toks:=tk+1}) (t':=tk+1) (it:=e) I1 (λb o hb q=>(dF.2 b hb).trans q) e0 e1 e3 e4 e5;have hT':g'.get? s.heap.objs.size=some {cls:=.type "tuple",data:=.seq #[Ao i,u]}:=(dF.2 _ nT).trans hT;have I3:ZA (PP (.tup [E2,y])) {s with heap:=g',toks:=tk+1}:=by
   refine⟨I2.ok,I2.os,I2.bare,⟨I2.base.keep,I2.base.slot,λb o q n hx=>?_,I2.base.there,λb zs q=>?_,λb o v q=>?_,λb ps q=>?_⟩,I2.loc,I2.cell,?_,λz c q=>?_,λpp hp=>?_,λb v q=>?_,I2.len⟩
   ·have lt:b < s.heap.objs.size:=Zy (Qx q) I.sz;rw[zag Ps];exact I2.base.free b o q n hx
   ·have:=I2.base.tups b zs q;rw[zag (zac this hN)];exact this
   ·have:=I2.base.frzs b o v q;rw[zag (zac this hN)];exact this
   ·obtain⟨m,z⟩:=I2.base.tbls b ps q;exact⟨m,HZ (yp z hN) z⟩
   ·rw[zag (Zj I.lt)];exact I2.free
   ·rw[zag (Zj (I.cl_lt z c q))];exact I2.freeC z c q
   ·obtain⟨h1,h2,h3⟩:=I2.pin pp hp;exact⟨h1,HZ (Zj (I.pin_lt pp hp)) h2,h3⟩
   by_cases hb:b=s.heap.objs.size
   ·subst hb;rw[zab]at q;cases q;exact⟨Tg,[Ao i,u],EJ ⟨tk,rfl⟩ (SA ru),_,hT',rfl,vG⟩
   rw[yT]at q;exact(I2.hok b v q).stay (λc v _ z=>z) (λc z=>by rw[zag (yp z hN)];exact z) λc zs z=>by rw[zag (yp z hN)];exact z
  refine⟨HY,_,I3,rfl,⟨y,_,λys hys=>by rw[inj _ hys];exact hy,hN,rfl,rfl⟩,⟨⟨u,HE bi⟩,?_⟩,λb hb=>?_⟩
  ·exact ok.keep _ _ _ hs.1 λo q=>(dF.2 j (Zm jA)).trans q
  rcases Qi.mp hb with z|z
  ·rw[z,zag (Zm nT)];exact e0
  rw[Qd.mp z,zag (Zm nJ)];exact j0
 done:=by intro X hP hw hK hc i a5 s σ H E I hf st hg;obtain⟨xs,hq,hi⟩:=hg;obtain⟨a7,S,rv,_,p,_,en⟩:=ok.go hP hw hK I S7 hq;subst hP hw hK;have hl:=rv.length;obtain⟨⟨old,he⟩,hit⟩:=st;obtain⟨j0,j1,j2,j3,j4,j5⟩:=hf j HA;have hT:s.TypeIs (HK e) "enumerate" :=⟨_,he,rfl⟩;unfold pyNext;refine wpAny_bind (PQ (wpAny_callSpecial?_slot (name:=Str.ofString "__next__") hT F.slot_enumerate_next (wpAny_call_entry F.slot_enumerate_next hT F.entry_enumerate_next ?_ (F.args_enumerate_next_1 _))));show ZV _ (field (HK e) 2 >>= _) _ _ _;refine wpAny_bind (wpAny_field he rfl (x:=.ref j) rfl (wpAny_bind (en hit (by simp;exact zfr ‹_› ‹_›) λg x hg hx=>?_)));obtain⟨o,ho,hc⟩:=hx;exact wpAny_bind (wpAny_isInstance (T:= "StopIteration") (b:=true) ⟨o,ho,hc⟩ isSubtype_stop (wpAny_pure ⟨rfl,I.turned (t':=s.toks) (λb o hb q=>hg b o hb q) j0 j1 j3 j4 j5⟩))
 self:=λA i s Q E st h=>by obtain⟨⟨old,he⟩,_⟩:=st;exact Fe h
theorem enu_tup{P:Nk}{w:Nl}{K:Na}{a j:Nb}(uP:a≠j):EnuOk P w K a j (SqT K · a) (λi h=>h.IsTupleIter j a i) where
 obj:=λi h ⟨o,q,c,d⟩=>⟨o,q,λv z=>by rw[d]at z;cases z⟩
 keep:=λi h h' st k=>st.at k
 go:=λ{X a5 σ H s xs} hP hw hK I hh hq=>by subst hP hw hK;obtain⟨a7,rv,p,hz⟩:=I.tuple hq;exact⟨a7,_,rv,λys h=>I.tuple_inj h hq,p,drawsT hh j a uP a7.toArray,λst hx hE=>next_end hh st p hx hE⟩
def for_enumG{Sq:Hp→List V→Prop}{xs:List V}{g:TG}{tb:TS}{D:Ends}{σ:St}{H:Hp}(Pv:Nat→St→Hp→Prop)(h0:Ch)(hl:∀i σ H,i≤xs.length→Pv i σ H→Sq H xs)(hs:∀i x t σ H,xs[i]?=some x→Pv i σ H→H t=none→g Ll σ (ZR t (.tup [E2,x])) λ σ2 H2=>tb {D with nx:=Pv Rm,ct:=Pv Rm,bk:=D.nx} σ2 H2)(hd:∀σ H,Pv xs.length σ H→WW H) :
  ∃W:Nat→Nat→St→Hp→Prop,(∃m,W 0 m σ H)∧∀i m σ H,W i m σ H →
   ((IteG Sq).stop i H∧WW H)∨((IteG Sq).go i H∧∃N:St→Hp→Prop,Rk∧∀x H',(IteG Sq).yld i H x H'→g x σ H' λ σ2 H2=>tb {D with nx:=N,ct:=N,bk:=D.nx} σ2 H2):=by
 refine⟨λi m σ H=>m=xs.length-i∧i≤xs.length∧Pv i σ H,⟨xs.length,HA,SW,h0⟩,?_⟩;rintro i m σ H ⟨rfl,hi,p⟩;have q:=hl i σ H hi p;by_cases ad:i<xs.length
 ·refine .inr ⟨⟨xs,q,ad⟩,Pv Rm,fun σ' H' p'=>⟨xs.length - Rm,Ra,rfl,ad,p'⟩,λx H' y=>?_⟩;obtain⟨z,t,e1,e3,rfl,rfl⟩:=y;exact hs i z t σ H (e1 xs q) p e3
 have e:i=xs.length:=by exact zar3 ‹_› ‹_›
 subst e;exact .inl ⟨⟨xs,q,Rf⟩,Pk⟩
section
variable{X:Cx}
def iEnumG(S:Hp→Addr→List V→Prop)(ta:TA):TI:=λ σ H R=>ta σ H λvs H1=>∃a,vs=[Sg]∧(∃xs,S H1 a xs)∧R (IteG (S · a)) H1
def pi_enumG{S:Hp→Addr→List V→Prop}{Ij:Addr→Addr→Nat→Heap→Prop}{elts:Nv}{kk:Nat}{tpos:Pos}{a:Expr}{ta:TA}{p pos:Pos}(hg:Vm "enumerate")(hm:X.mg "enumerate" = none)(ha:K4 [a] ta)(hs:starEach [a] X.env=[(false,xf)])(en:∀{a j},a≠j→EnuOk X.prog X.w X.K a j (S · a) (Ij j a))(cl:∀{a5 σ H s t xs Q},ZA H s→S H t xs→t<s.heap.objs.size∧((∀g,IsEnum g Rj s.heap.objs.size 0 .none→Ij s.heap.objs.size t 0 g→HS→Q (HK (s.heap.objs.size+1)) {s with heap:=g})→ZF (call (.type "enumerate") [Ll]) Q X.xe s)) :
  PI X EO (.Call (.Name "enumerate" p) [a] [] pos) (iEnumG S ta):=by
 intro a5 s σ H R I h;refine Call_ (BN boot_enumerate (Ui (thn SN λus s1 ⟨vs,H1,I1,r1,q1⟩=>?_) hs rfl));obtain⟨t,e,⟨xs,hq⟩,q⟩:=q1;subst e;obtain⟨u,rfl,ru⟩:=vals1 r1;cases ru;obtain⟨lt,c⟩:=cl I1 hq;refine c λg he hit k=>Fe ?_;have I2:ZA H1 {s1 with heap:=g}:=I1.kept (t':=s1.toks) k;refine⟨s1.heap.objs.size+1,[s1.heap.objs.size+1,s1.heap.objs.size],_,_,H1,rfl,I2,turn_enumG (en Ps) (Nat.succ_ne_self _) (Wa (Jq lt)),⟨⟨_,he⟩,hit⟩,λb hb=>?_,q⟩;have cu:s1.heap.objs.size≤b:=by
  rcases Qi.mp hb with z|z
  ·rw[z];exact Uo _
  rw[Qd.mp z];exact Qf _
 exact I1.fpOk cu (I1.hok.fresh cu)
abbrev iEnum(K:Na)(ta:TA):TI:=iEnumG (SqT K) ta
def pi_enum(hg:Vm "enumerate")(hm:X.mg "enumerate" = none)(ha:K4 [a] ta)(hs:starEach [a] X.env=[(false,xf)]:=by rfl) :
  PI X EO (.Call (.Name "enumerate" p) [a] [] pos) (iEnum X.K ta):=
 pi_enumG hg hm ha hs (λh=>enu_tup h) λI hq=>by obtain⟨a7,rv,pl,hz⟩:=I.tuple hq;exact⟨by obtain⟨o,q,_⟩:=pl;exact Qx q,λh=>call_enum pl λg he hit _ k=>h g he hit k⟩
def for_enum{K:Na}{a:Nb}{xs:List V}{g:TG}{tb:TS}{D:Ends}{σ:St}{H:Hp}(Pv:Nat→St→Hp→Prop)(h0:Ch)(hl:∀i σ H,i≤xs.length→Pv i σ H→H a=some Tb)(hs:∀i x t σ H,xs[i]?=some x→Pv i σ H→H t=none→g Ll σ (ZR t (.tup [E2,x])) λ σ2 H2=>tb {D with nx:=Pv Rm,ct:=Pv Rm,bk:=D.nx} σ2 H2)(hd:∀σ H,Pv xs.length σ H→WW H):=
 for_enumG (Sq:=(SqT K · a)) (tb:=tb) Pv h0 (λi σ H z p=>SqT.of (hl i σ H z p)) hs hd
def Its(x:Str):It:=⟨λi _=>i<x.cps.size,λi H v H'=>H'=H∧∃c,x.cps[i]?=some c∧v=.str ⟨#[c]⟩,λi _=>x.cps.size≤i⟩
theorem turn_str{P:Nk}{w:Nl}{K:Na}{tg:Expr}{x:Str}{t:Tok}(it:Nb):KS (Its x) [it] it (λi h=>h.IsStrIter it "str_ascii_iterator" x t i) where
 mem:=by simp
 obj:=λi h st b hb=>by rw[Qd.mp hb];obtain⟨o,e,c,d⟩:=st;exact⟨o,e,λv z=>by rw[d]at z;cases z⟩
 keep:=λi h h' st k=>let⟨o,ho,r⟩:=st;⟨o,k it HA o ho,r⟩
 item:=by intro X hP hw hK hc i a5 s σ H E I hf st hg;subst hP hw hK;obtain⟨f0,f1,f2,f3,f4,f5⟩:=V1 HA;have hi:i<x.cps.size:=hg;refine wpAny_pyNext_ascii_item st (c:=x.cps[i]) (by simp[hi]) λh' aa sb=>?_;have I1:ZA H {s with heap:=h',toks:=s.toks+1}:=I.turned (λb o hb e=>(AO hb).trans e) f0 f1 f3 f4 f5;obtain⟨o,e,c,d⟩:=id aa;exact⟨vG,go_of (s:={s with heap:=h',toks:=s.toks+1}) e c d HH ⟨EB ⟨#[x.cps[i]]⟩,H,I1,⟨vG⟩,⟨rfl,_,by simp[hi],rfl⟩,aa,λb hb=>(hf b hb).1⟩⟩
 done:=by intro X hP hw hK hc i a5 s σ H E I hf st hg;subst hP hw hK;obtain⟨f0,f1,f2,f3,f4,f5⟩:=V1 HA;have hi:x.cps.size≤i:=hg;exact wpAny_pyNext_ascii_end S7 st (by simp[hi]) λh' eb=>⟨rfl,I.turned (t':=s.toks) (λb o hb e=>eb b o hb e) f0 f1 f3 f4 f5⟩
 self:=λ_ _ _ _ _ st h=>wpAny_pyIter_striter_ascii st h
def iStr(tl:TE):TI:=λ σ H R=>tl σ H λv H1=>∃x:Str,v=.str x∧x.cps.all (· < 128)=true∧R (Its x) H1
def pi_str{tg l:Expr}{tl:TE}(hl:OY):YR l (iStr tl):=by intro a5 s σ H R I h;refine thn Cc λv s1 ⟨y,H1,I1,r1,q1⟩=>?_;obtain⟨x,e,ha,q⟩:=q1;subst e;obtain⟨t,rfl⟩:=r1;refine wpAny_pyIter_ascii ha ⟨s1.heap.objs.size,[s1.heap.objs.size],_,_,H1,rfl,I1.kept (t':=s1.toks) λb o e=>WF e,turn_str (t:=t) _,⟨_,To,rfl,rfl⟩,λb hb=>?_,q⟩;rw[Qd.mp hb];exact XY LS
def op_le_str:YQ (compareOp .LtE) (λx y H Q=>Ex2 λi j=>Aj3 (x=.str i) (y=.str j) (Iu (!decide (j.cps.toList<i.cps.toList)))):=by intro a5 s σ H x y v u Q I rx ry h;obtain⟨i,j,rfl,rfl,q⟩:=h;obtain⟨t,rfl⟩:=rx;obtain⟨t',rfl⟩:=ry;exact PySem.P.le_str (QX rfl)
end
end L2
namespace L2
open PySem PySem.Spec PyProof.Rows
section
variable{X:Cx}{a5:Nh}{σ:St}{H:Hp}{s:Ni}
inductive RrNil(neg:Bool)(K:Na)(x:V)(y:V)(H:Hp)(Q:VK):Prop
 |mk(l:_)(b:_)(xs:_)(h0:x=.ref l)(h1:y=.ref b)(h2:SqL K H l xs)(h3:SqL K H b [])(h4:Q (.bl (if neg then !xs.isEmpty else xs.isEmpty)) H)
def rNil(neg:Bool)(K:Na):R2:=λx y H Q=>RrNil neg K x y H Q
def zd3(hu:X.A.units<cLine):WP (Hb X.K):=by
 intro a5 s σ H x y v u Q I rx ry h;obtain⟨l,b,xs,rfl,rfl,h1,h2,q⟩:=h;cases rx;cases ry;obtain⟨a7,r,pl,_⟩:=I.list h1;obtain⟨aQ,r2,hJ,_⟩:=I.list h2;cases r2;cases r with
 |nil=>exact SeqAt.RcNeAt.lists (e:=λ_=>true) pl.isList hJ.isList rfl hu (λj h1 _=>by simp at h1) _ _ _ _ ⟨LP,H,I,rfl,q⟩
 |cons a t=>exact SeqAt.RcNeAt.lists_lengths pl.isList hJ.isList HA hu _ _ _ _ ⟨S2,H,I,rfl,q⟩
def op_mul_str:YQ (binaryOp .Mult) (λx y H Q=>Ex2 λ(z:Str) (n:Nat)=>Aj5 (x=.str z) (y=.int n) (z.length≤1000) (n≤1000) (Q (EB (Txt.mul z n)) H)):=by intro a5 s σ H x y v u Q I rx ry h;obtain⟨z,n,rfl,rfl,h1,h2,q⟩:=h;obtain⟨t,rfl⟩:=rx;obtain⟨t',rfl⟩:=ry;exact SB.mul (mulOk_of 1000 1000 h1 HB HB HH HH) λt' k=>⟨EB _,H,Su,⟨t',rfl⟩,q⟩
theorem argBest_lt:∀k,argBest bt k≤k
 |0=>Qf _
 |k+1=>by
  show(if bt (k+1) (LE k)=true then k+1 else argBest bt k)≤k+1;split
  ·exact Qf _
  exact Nat.le_succ_of_le (argBest_lt k)
theorem zds(f:Nat→List Nat):∀k j,j≤k→¬f j<f (argBest (λi j=>decide (f i<f j)) k)
 |0,j,h=>by
  have:j=0:=by lia
  subst this;exact Uf _
 | k+1,j,h=>by
  show ¬f j<f (if decide (f (k+1)<f (argBest (λi j=>decide (f i<f j)) k))=true then k+1 else argBest (λi j=>decide (f i<f j)) k);by_cases ad:f (k+1)<f (argBest (λi j=>decide (f i<f j)) k)
  ·rw[Sx (RE ad)];by_cases hj:j=k+1
   ·subst hj;exact Uf _
   intro z;exact zds f k j HB (List.lt_trans z ad)
  rw[So (HE ad)];by_cases hj:j=k+1
  ·subst hj;exact ad
  exact zds f k j HB
def zj2(hc:X.calm=true):YJ (.builtin "min") (λxs H Q=>Ex2 λ(p:Nb) (zs:Ng)=>Aj4 (xs=[TB]) (Q9 p Sj) (zs≠[]) (∀z∈zs,(∀y∈zs,leS z y)→Q xo H)):=by
 intro a5 s σ H xs us Q I r h;obtain⟨p,zs,rfl,hq,au,q⟩:=h;obtain⟨u,rfl,rx⟩:=vals1 r;cases rx;have dw:0<zs.length:=Jf.mpr au;refine call_min_walk (MG hq λa7 It h1 rv W st lt keep=>⟨It,_,_,_,_,_,λi j=>decide ((ST i).cps.toList<(ST j).cps.toList),rfl,W,st,lt,?_,λi j vi vj s' Q' E' hi hj cZ=>?_,λv h' tk hv k=>?_⟩)
 ·have:=rv.length;rw[Qa]at this;rw[Qv];exact zar7 ‹_› ‹_›
 ·have gs:∀ (i:Nat) (v:Value),a7.toArray[i]?=some v→∃ t,v=.str (ST i) t:=λi v e=>by
   have e':a7[i]?=some v:=by simpa using e
   have hi:i<a7.length:=(TJ e').1;have hl:=rv.length;rw[Qa]at hl;have am:i<zs.length:=by exact zar6 ‹_› ‹_›
   obtain⟨u,e2,t,e3⟩:=rv.get (i:=i) (x:=.str zs[i]) (by simp[am]);rw[e']at e2;cases e2;exact⟨t,by rw[e3];simp[List.getD,am]⟩
  obtain⟨t1,rfl⟩:=gs i vi hi;obtain⟨t2,rfl⟩:=gs j vj hj;exact lt_str cZ
 have hl:=rv.length;rw[Qa]at hl;have hk:=argBest_lt (bt:=λi j=>decide ((ST i).cps.toList<(ST j).cps.toList)) (a7.toArray.size-1);generalize hb:argBest (λi j=>decide ((ST i).cps.toList<(ST j).cps.toList)) (a7.toArray.size-1)=b at hv hk;have bv:b<zs.length:=by rw[Qv]at hk;lia
 have aK:a7[b]?=some v:=by simpa using hv
 obtain⟨u,e2,t,e3⟩:=rv.get (i:=b) (x:=.str zs[b]) (by simp[bv]);rw[aK]at e2;cases e2;refine⟨.str zs[b],H,K' k,⟨t,e3⟩,q _ (Qq bv) λy hy=>?_⟩;obtain⟨j,hj,ej⟩:=Zu hy;have:=zds (λi=>(ST i).cps.toList) (a7.toArray.size-1) j (Rc Qv);rw[hb]at this;have g1:zs.getD b Str.empty=zs[b]:=by simp[List.getD,bv]
 have g2:zs.getD j Str.empty=y:=by simp[List.getD,hj,ej]
 rw[g1,g2]at this;exact this
end
section
variable{X:Cx}
def zc8:YJ (.type "dict") (λxs H Q=>Ex2 λ(d:Nb) (kvs:S1 (Key×V))=>Aj3 (xs=[C0]) (FI RO) (∀l,H l=none→Q SO (ZR l RO))):=by intro a5 s σ H xs us Q I r h;obtain⟨d,kvs,rfl,hq,q⟩:=h;obtain⟨u,rfl,rx⟩:=vals1 r;cases rx;obtain⟨z,lo,vs,ep,rk,ha,hl⟩:=De hq;refine kt_call_dict lo ha.dictOf (HP hl z) λh' hd sb=>?_;have lt:d<s.heap.objs.size:=ha.lt_size;have k:∀b o,s.heap.get? b=some o→h'.get? b=some o:=λb o e=>(AO Cl).trans IE;have nS:(s.heap.objs.size==sysModules)=false:=beq_eq_false_iff_ne.mpr (Wa I.big);exact⟨HK _,_,I.laid (t':=s.toks) k Rf (show Z1 _ h' _ RO from⟨z,nS,vs,rk,hd⟩),rfl,EA⟩
def eqV_self{x:V}(f:zc4 x=true):eqV x x=true:=by
 cases x with
 |non=>rfl
 |bl b=>exact beq_self_eq_true b
 |int i=>exact beq_self_eq_true i
 |str z=>exact beq_self_eq_true z
 |_=>cases f
def KV.value{kvs:List (Key×V)}{vs:List (Key×Value)}(r:UC vs){k:Key}{v:V}(nd:(kvs.map (·.1)).Nodup)(h:(k,v)∈kvs):∃ y,valueAt vs k=some y∧US y:=by
 induction r with
 |nil=>cases h
 | @cons p q ps qs e t ih=>
  rw[Qn,Qt]at nd;rcases Qi.mp h with z|z
  ·refine⟨q.2,?_,?_⟩
   ·unfold valueAt;rw[Ws (by rw[←e.1,←z];simp)];rfl
   have:=e.2;rw[←z]at this;exact this
  obtain⟨y,h1,h2⟩:=ih nd.2 z;refine⟨y,?_,h2⟩;have ne:p.1≠k:=λw=>nd.1 (by rw[w];exact Qe.mpr ⟨_,z,rfl⟩);unfold valueAt at h1 ⊢;rw[Wt (by rw[←e.1];simpa using ne)];exact h1
end
end L2
namespace SetX
open PySem PyProof.Rows PySem.Spec
abbrev byT(w:Nl):Bool:=w.params.followText "set-order"
def SX(P:Nk)(w:Nl)(h:Nn)(a:Nb)(zs:Ng):Prop:=
 ∃o es ep t,h.get? a=some o∧o.ExactSet∧o.data=.set es ep t∧ElemsOf (PySem.strKind P w) es.toList∧(∀k,decide (k∈zs)=true↔∃e∈es.toList,(PySem.strKind P w).is k e.2=true)∧es.size<scanBound∧t.fits es.size=true∧es.size=zs.length∧t.led=!byT w∧(0<es.size→t.plain=false)
def SX.at(x:SX P w h a zs)(k:∀o,h.get? a=some o→h'.get? a=some o):SX P w h' a zs:=by obtain⟨o,es,ep,t,e,r⟩:=x;exact⟨o,es,ep,t,k o e,r⟩
def or_led(t:SetTable)(n:Nat):(t.orStandIn n).led=t.led∧(t.plain=false→(t.orStandIn n).plain=false):=by
 unfold SetTable.orStandIn;split
 ·exact⟨rfl,id⟩
 exact⟨rfl,λ_=>rfl⟩
def lay_led(t:SetTable)(es:Array (Int×Value))(h:Int)(x:Value):(layNew t es h x).2.1.led=t.led∧(t.plain=false→(layNew t es h x).2.1.plain=false):=by
 unfold layNew;split
 ·exact or_led _ _
 exact⟨rfl,λ_=>rfl⟩
def relay_led(t:SetTable)(es:Array (Int×Value))(n:Nat):(relayAll t es n).2.1.led=t.led∧(t.plain=false→(relayAll t es n).2.1.plain=false):=by
 unfold relayAll;split
 ·rename_i t' order e;dsimp only;have:t'.led=t.led∧t'.plain=t.plain:=by
   unfold SetTable.relaid SetTable.laid at e;cases ho:SetTable.layClean (SetTable.sizeAbove n-1) (es.map (·.1)) with
   |none=>rw[ho]at e;cases e
   |some ow=>rw[ho]at e;cases e;exact⟨rfl,rfl⟩
  split
  ·exact⟨this.1,λz=>this.2.trans z⟩
  exact⟨rfl,λ_=>rfl⟩
 exact⟨rfl,λ_=>rfl⟩
section
variable{prog:Nk}{w:Nl}{A:Np}{E:Nc}{s:Ni}{a:Nb}{zs:Ng}
def store{h:Nn}{o:Obj}{es ai:Array (Int×Value)}{ep:Nat}{t t':SetTable}(ho:h.get? a=some o)(iW:o.ExactSet)(hd:o.data=.set es ep t)(bM:ElemsOf (QB w) ai.toList)(hmem:∀k,decide (k∈zs)=true↔∃e∈ai.toList,(QB w).is k e.2=true)(hb:ai.size<scanBound)(hf:t'.fits ai.size=true)(hn:ai.size=zs.length)(hl:t'.led=!byT w)(hp:t'.plain=false) :
  (h.update a xw).get? a=some {o with data:=.set ai (ep+1) t'}∧YF (h.update a xw) a zs:=by
 have hg:=(SetOf_store (knd:=QB w) ho iW hd bM hmem hb hf).1;exact⟨hg,_,ai,ep+1,t',hg,iW,rfl,bM,hmem,hb,hf,hn,hl,λ_=>hp⟩
def addX{Q:Bool→Shared→Prop}(hS:AJ)(hk:k∉zs)(nY:zs.length+1 < scanBound)(h:∀h',JP h'→YF h' a (zs++[k])→Q true {s with heap:=h'}):ZE A (setAddHashed a CP ((QB w).hash k)) Q E s:=by
 obtain⟨o,es,ep,t,ho,iW,hd,bM,hmem,hb,hf,hn,hl,aH⟩:=hS;have ce:(QB w).is k CP=true:=by simp[PySem.strKind,Value.isStrOf]
 have iL:(Value.str k tk).scannable=true:=rfl;have gX:es.size+1<scanBound:=by rw[hn];exact nY
 unfold setAddHashed setAddHashedIn;refine wpAny_holding (Sd (W8 ?_));dsimp only;rw[byScan_of iL hb bM,if_pos rfl];unfold setAddByScan;refine wpAny_bind (Pf (wpAny_rule (Sd (wpAny_setScan_of ce ho hd hf bM ?_))));cases hr:List.findIdx? (λe=>(QB w).is k e.2) es.toList with
 |some j=>obtain⟨hj,o8,_⟩:=List.findIdx?_eq_some_iff_getElem.mp hr;exact absurd (Tn ((hmem k).mpr ⟨es.toList[j],Qq hj,o8⟩)) hk
 | none=>
  dsimp only;have hgw:∀(b:Bool) {s₁:Ni} {Q':Unit→Shared→Prop},Q' () s₁→wpAny (model prog w) A (match b with|true=>rule "set.scan.the-table-gave-way" |false=>pure ()) Q' E s₁:=λb s₁ Q' hq=>by
   cases b
   ·exact wpAny_pure hq
   exact wpAny_rule hq
  have af:=layNew_perm t es ((QB w).hash k) CP;have dM:=layNew_fits t es ((QB w).hash k) CP;obtain⟨mi,gl⟩:=lay_led t es ((QB w).hash k) CP;generalize layNew t es ((QB w).hash k) CP=L at af dM mi gl ⊢;obtain⟨aB,t1,wasDummy,gave⟩:=L;dsimp only at af dM mi gl ⊢;rw[Jc]at af;have pi:ElemsOf (QB w) aB.toList:=(bM.push ce iL).perm af;have ju:∀k',decide (k'∈zs++[k])=true↔∃e∈aB.toList,(QB w).is k' e.2=true:=λk'=>by rw[←mem_push_iff ce hmem af k',Ke,decide_eq_true_eq,decide_eq_true_eq,decide_eq_true_eq,Qm,Qd]
  have tu:aB.size=es.size+1:=by rw[←Zz,af.length_eq,Za,Zz];rfl
  have bB:aB.size=(zs++[k]).length:=by rw[tu,hn,Za];rfl
  have tail:∀t2:SetTable,t2.fits aB.size=true→t2.led=!byT w→t2.plain=false→ZE A (do
    storeSet a aB t2
    if(!wasDummy&&t2.tooFull)=true then do
      (match(relayAll t2 aB (SetTable.grown aB.size)).2.2 with|true=>rule "set.scan.the-table-gave-way" |false=>pure ())
      storeSet a (relayAll t2 aB S9).1 (relayAll t2 aB S9).2.1
      pure (some true)
     else pure (some true)) (λ(r:Option Bool) s'=>r=some true∧Q true s') E s:=λt2 f2 l2 p2=>by
   refine wpAny_bind (wpAny_storeSet_of ho hd ?_ zk);obtain⟨ho1,rD⟩:=store (zs:=zs++[k]) ho iW hd pi ju HB f2 bB l2 p2;have jJ:=Jl s.heap a (Obj.putSet aB t2);split
   ·have hp:=relayAll_perm t2 aB S9;have i9:=relayAll_fits t2 aB S9;obtain⟨l3,p3⟩:=relay_led t2 aB S9;generalize relayAll t2 aB S9=Rl at hp i9 l3 p3 ⊢;obtain⟨ax,t3,gave2⟩:=Rl;dsimp only at hp i9 l3 p3 ⊢;have hsz:ax.size=aB.size:=by rw[←Zz,hp.length_eq,Zz]
    refine wpAny_bind (hgw _ (Sd (wpAny_storeSet_of ho1 rfl (wpAny_pure ⟨rfl,h _ (jJ.trans (Jl _ a _)) ?_⟩) zk)));exact(store ho1 iW rfl (pi.perm hp) (λk'=>(ju k').trans ⟨λ⟨e,he,q⟩=>⟨e,hp.mem_iff.mpr he,q⟩,λ⟨e,he,q⟩=>⟨e,hp.mem_iff.mp he,q⟩⟩) HB i9 (hsz.trans bB) (l3.trans l2) (p3 p2)).2
   exact wpAny_pure ⟨rfl,h _ jJ rD⟩
  refine wpAny_bind (hgw _ ?_);split
  ·refine wpAny_bind ?_;rw[hashByValue_scannable 8 iL];refine wpAny_pure (wpAny_mono (tail {t1 with plain:=false} (SetTable.fits_plain_off dM) (mi.trans hl) rfl) (λr s' ⟨e,q⟩=>?_) λ_ _ e=>e);subst e;exact wpAny_pure q
  rename_i lZ;refine wpAny_bind Rw;rw[if_pos rfl];refine wpAny_mono (tail t1 dM (mi.trans hl) (HE lZ)) (λr s' ⟨e,q⟩=>?_) λ_ _ e=>e;subst e;exact wpAny_pure q
theorem zf7:∀{l:List α} {i:Nat} (h:i<l.length),(l[i]::l.eraseIdx i).Perm l
 |a::t,0,_=>.refl _
 |a::t,i+1,h=>(List.Perm.swap _ _ _).trans ((zf7 (l:=t) (i:=i) (Ul h)).cons a)
def wpAny_choose(hn:n≠0)(h:∀i d,i<n→Q i {s with drawn:=d}):ZE A (choose src n) Q E s:=λ Γ p hΓ=>by show Sem.wp _ _ (Sem.choose src n Sem.pure) _ _ _ _;rw[Sem.wp_choose];exact⟨hn,h _ _ (NB (Nat.pos_of_ne_zero hn))⟩
theorem zdw:∀(n:Nat) (xs:List α) (s:Ni),xs.length=n→(∀ws d,ws.Perm xs→Q ws {s with drawn:=d})→ZE A (drawOrder n xs) Q E s
 |0,xs,s,hl,h=>by have:xs=[]:=Ug.mp hl;subst this;exact wpAny_pure (h [] s.drawn .nil)
 |n+1,[],s,hl,h=>by cases hl
 |n+1,x::t,s,hl,h=>by unfold drawOrder;refine wpAny_bind (wpAny_choose (by rw[hl];exact Nat.succ_ne_zero n) λi d hi=>?_);rw[Qb hi];dsimp only;have hp:=zf7 hi;exact wpAny_bind (zdw n _ _ (by rw[List.length_eraseIdx_of_lt hi,hl];rfl) λws d' p=>wpAny_pure (h _ d' ((p.cons _).trans hp)))
def pick_perm(f:Nat→Nat)(xs:Array α):(yq f xs).toList.Perm xs.toList:=by
 have go:∀(n k:Nat) (l:List α) (out:Array α),l.length=n→(pickOrder.go f n k l out).toList.Perm (out.toList++l):=by
  intro n;induction n with
  |zero=>intro k l out hl;have:l=[]:=Ug.mp hl;subst this;rw[Zt];exact .refl _
  |succ n ih=>intro k l out hl;have hi:f k%l.length<l.length:=NB HB;unfold pickOrder.go;rw[Qb hi];dsimp only;refine(ih _ _ _ (by rw[List.length_eraseIdx_of_lt hi,hl];rfl)).trans ?_;rw[Jc,Qw];exact(Mh (zf7 hi))
 exact go xs.size 0 xs.toList #[] rfl
def Mode(w:Nl)(h:Nn)(a tp:Nb)(L:S1 (Int×Value))(i:Nat)(f:Value)(ep:Nat)(es:Array (Int×Value))(t:SetTable):Prop:=
 (byT w=true∧(∃z u,f=.int z u)∧(yq TD es).toList=L)
 ∨ (byT w=false∧∃(ot:Obj) (pl:Array Value) (m:Nat),f=.ref tp∧h.get? tp=some ot∧ot.cls=.type "tuple" ∧ ot.data=.seq pl m∧pl.size=L.length∧∀(j:Nat) e,L[j]?=some e→∃(q:Int) (u:Tok),pl[j]?=some (Value.int q u)∧es[q.toNat]?=some e)
 ∨ (byT w=false∧t.led=true∧L.length≤1∧es.toList=L∧∃(z:Int) (u:Tok),f=.int z u∧(i=0→z.toNat=0)∧(i=1→∃j,t.place[0]?=some j∧z.toNat=j+1))
def ItX(w:Nl)(h:Nn)(it a tp:Nb)(L:S1 (Int×Value))(i:Nat):Prop:=
 ∃(f:Value) (ep:Nat),h.get? it=some {cls:=.type "set_iterator",dict:=none,data:=.fields #[f,.int (i:Int) 0,Sg,S5 (L.length:Int) 0,.int (ep:Int) 0],slots:=#[]}∧∃o es t,h.get? a=some o∧o.data=.set es ep t∧t.fits es.size=true∧es.size=L.length∧Mode w h a tp L i f ep es t
def ItX.frame(x:Vw i)(k:∀b∈[it,a,tp],∀o,h.get? b=some o→h'.get? b=some o):FK i:=by
 obtain⟨f,ep,h1,o,es,t,h2,h3,h4,h5,m⟩:=x;refine⟨f,ep,k _ HA _ h1,o,es,t,k _ HA _ h2,h3,h4,h5,?_⟩;rcases m with m|⟨m0,ot,pl,q,e1,e2,r⟩|m
 ·exact .inl m
 ·exact .inr (Rq ⟨m0,ot,pl,q,e1,k _ HA _ e2,r⟩)
 exact .inr (SJ m)
def slot_next:Slot "set_iterator" "__next__" "set_iterator.__next__" :=
 .of (owner:= "set_iterator") (n:= "__next__") (by rw[typeLookup_type,builtinLookup_eq_fast];kernel_rfl) Rh Rh Rh (by first|exact .inl Rh|exact .inr Rh) (by rw[isSubtype_type];kernel_rfl)
def entry_next:entryFor table "set_iterator.__next__" = some Builtin.«set_iterator.__next__»:=entryFor_of_tree (by kernel_rfl)
def owner_it:Manifest.owners.lookup (String.ofList ['r','o','t','a','r','e','t','i','_','t','e','s'].reverse)=some Manifest.sig_set_iterator:=by kernel_rfl
def args_next(v:Value):argsOk "set_iterator.__next__" ⟨[v],[]⟩:=by unfold argsOk;rw[signature?_of (id:= "set_iterator.__next__") (n:= "__next__".toList.reverse) (o:=['r','o','t','a','r','e','t','i','_','t','e','s']) (by kernel_rfl) owner_it];kernel_rfl
def entry_iter:entryFor table "set.__iter__" = some Builtin.«frozenset.__iter__»:=
 entryFor_alias (id':= "frozenset.__iter__") (by kernel_rfl) rfl Rh (by kernel_rfl)
variable{it tp:Nb}{L:List (Int×Value)}{i:Nat}
def zgw(h:Q (byT w) s):ZE A setsByText Q E s:=wpAny_bind (AC (RK h))
def below1(h:xs[0]?=some j)(hs:xs.size=1):Go 0=0∧Go (j+1)=1:=by
 have e:∀d,xs.getD 0 d=j:=λd=>by simp[Wr,h]
 unfold SetTable.below;rw[hs];constructor
 ·show (if 0 < 1 then (if xs.getD 0 0 < 0 then _ else _) else _)=0;rw[if_pos HH,if_neg (Kv _)];rfl
 show (if 0 < 1 then (if xs.getD 0 (j+1) < j+1 then _ else _) else _)=1;rw[if_pos HH,e,if_pos (Yy j)];rfl
def setNext_of{z ep:Nat}{o:Obj}{es:Array (Int×Value)}{t:SetTable}{Q:Option (Value×Nat)→Shared→Prop}(ho:s.heap.get? a=some o)(hd:o.data=.set es ep t)(hf:t.fits es.size=true)(hn:es.size=L.length)(hm:(byT w=true∧(yq TD es).toList=L)∨(byT w=false∧t.led=true∧L.length≤1∧es.toList=L∧(i=0→z=0)∧(i=1→∃j,t.place[0]?=some j∧z=j+1)))(h1:∀e nx,L[i]?=some e→(byT w=false→∃j,t.place[0]?=some j∧nx=j+1)→Q (HW (e.2,nx)) s)(h2:L[i]?=none→Q none s)(hi:i≤L.length):ZE A (setNext a z i ep) Q E s:=by
 unfold setNext;refine wpAny_bind (W8 (Sd (zgw ?_)));rcases hm with⟨hb,hL⟩|⟨hb,hl,rL,hL,z0,z1⟩
 ·rw[hb,C2];dsimp only;rw[if_neg HA];refine wpAny_bind ?_;unfold setWalk;refine wpAny_bind (W8 (Sd (zgw ?_)));rw[hb,if_pos rfl];refine wpAny_bind (AC (vt Rw));show Q (((yq TD es)[i]?).map λe=>(e.2,z)) s;rw[←Yx,hL];cases e:L[i]? with
  |none=>exact h2 e
  |some x=>exact h1 x z e λq=>by rw[hb]at q;cases q
 rw[hb];have hp:t.place.size=es.size:=by simp only[SetTable.fits,Jh,beq_iff_eq]at hf;exact hf.1
 rw[if_neg Zh];show ZV _ (if(!t.plain&&decide (es.size>1))=true then _ else _) _ _ _;rw[if_neg (by simp;lia)];show ZV _ ((if(!t.led && !es.isEmpty)=true then _ else _) >>= _) _ _ _;rw[if_neg (by simp[hl])];refine wpAny_bind Rw;refine wpAny_pure ?_;by_cases h0:L.length=0
 ·have e0:es.size=0:=by lia
  have eL:L[i]?=none:=by rw[Wy];lia
  rw[show es[SetTable.below t.place z]?=none from by rw[Jk];lia];exact h2 eL
 have h1':L.length=1:=by lia
 obtain⟨j,hj⟩:∃j,t.place[0]?=some j:=⟨t.place[0]'(by lia),HA⟩;obtain⟨b0,b1⟩:=below1 hj HB;by_cases hi0:i=0
 ·subst hi0;rw[z0 rfl,b0,←Yx,hL,Qb HB,hj];exact h1 _ _ (Qb HB) λ_=>⟨j,hj,rfl⟩
 have hi1:i=1:=by lia
 subst hi1;obtain⟨j',e1,e2⟩:=z1 rfl;rw[hj]at e1;cases e1;rw[e2,b1,show es[1]?=none from by rw[Jk];lia];exact h2 (Rc Wy)
def stop_of{vs:Array Value}{Q:Option Value→Shared→Prop}(hh:A.handled=none)(ho:s.heap.get? it=some {cls:=.type "set_iterator",dict:=none,data:=.fields vs,slots:=#[]})(h2:2<vs.size){R:Fin→Shared→Prop}(hQ:∀h',DL h'→Q none {s with heap:=h'}) :
  wpAny Rb A.in1 (setField SS 2 .none >>= λ_=>newExc (.type "StopIteration") [] >>= λe=>(raiseNew e:Sem Fin))
   R (λe s'=>ZE A (do if ←isInstance e (.type "StopIteration") then pure none else throw e) Q E s') s:=by
 refine wpAny_bind (wpAny_setField_rec ho h2 λh' _ sb=>?_);refine wpAny_bind ?_;simp only[newExc,newTuple];refine wpAny_bind (wpAny_newObj_type ?_ (by size_fits));refine wpAny_bind (m:=firstArgMember _ _) (wpAny_of_eq (a:=Value.none) (by first|rfl|(simp only[firstArgMember];rfl)) ?_);refine wpAny_newObj_type ?_ (by size_fits);simp only[raiseNew];refine wpAny_bind (wpAny_handled ?_);rw[show A.in1.handled=none from hh];refine wpAny_bind (RK (wpAny_throw ?_));refine wpAny_bind (wpAny_isInstance (T:= "StopIteration") (b:=true) ⟨_,To,rfl⟩ isSubtype_stop ?_);exact wpAny_pure (hQ _ ((sb.extBut.push _).push _))
def ItX.type{h:Nn}(x:Vw i):∃o,h.get? it=some o∧o.cls=.type "set_iterator" :=by obtain⟨f,ep,h1,_⟩:=x;exact⟨_,h1,rfl⟩
def next_of{Q:Option Value→Shared→Prop}(hh:A.handled=none)(x:ItX w s.heap it a tp L i)(hi:i≤L.length)(na:a≠it)(nt:tp≠it)(h1:∀e h',L[i]?=some e→FK Rm→Df h'→Q (some e.2) {s with heap:=h'})(h2:L[i]?=none→∀h',DL h'→Q none {s with heap:=h'}):ZE A (Ay SS) Q E s:=by
 have hT:s.TypeIs SS "set_iterator" :=x.type;obtain⟨f,ep,e0,o,es,t,ho,hd,hf,hn,m⟩:=x;unfold pyNext;refine wpAny_bind (PQ (wpAny_callSpecial?_slot (name:=Str.ofString "__next__") hT slot_next (wpAny_call_entry slot_next hT entry_next ?_ (args_next _))));unfold Builtin.«set_iterator.__next__»;refine wpAny_bind Rw;refine wpAny_bind (wpAny_fieldsOf e0 rfl ?_);dsimp only;refine wpAny_bind (Mj ?_);rw[if_neg (by rw[hn];simp)];have two:∀{f:Value} (z:Int) (u:Tok),f=.int z u→s.heap.get? it=some {cls:=.type "set_iterator",dict:=none,data:=.fields #[f,.int (i:Int) 0,Sg,S5 (L.length:Int) 0,.int (ep:Int) 0],slots:=#[]} →
   ((byT w=true∧(yq TD es).toList=L)∨(byT w=false∧t.led=true∧L.length≤1∧es.toList=L∧(i=0→z.toNat=0)∧(i=1→∃j,t.place[0]?=some j∧z.toNat=j+1))) →
   wpAny Rb A.in1 (do
    match ←setNext a z.toNat (i:Int).toNat (ep:Int).toNat with
    |some (x,next)=>setField SS 0 (rawInt next);setField SS 1 (CK Rm);ret x
    |none=>setField SS 2 .none;raiseNew (←newExc (.type "StopIteration") [])) (λfin s'=>∃v,fin=Fin.done (Flow.ret v)∧ZE A (pure IQ) Q E s')
    (λe s'=>ZE A (do if ←isInstance e (.type "StopIteration") then pure none else throw e) Q E s') s:=λ{f} z u ef e0 hm=>by
  subst ef;rw[Yv,Yv];refine wpAny_bind (setNext_of ho hd hf hn hm (λe nx he hp=>?_) (λhe=>?_) hi)
  ·dsimp only;refine wpAny_bind (XT HA λg1 e1 jJ=>wpAny_bind (wpAny_setField_rec e1 HA λg2 e2 iq=>wpAny_pure ⟨_,rfl,RK (h1 e g2 he ?_ (jJ.trans iq))⟩));refine⟨CK nx,ep,by simpa[rawInt] using e2,o,es,t,by rw[iq.2 _ na,jJ.2 _ na];exact ho,hd,hf,hn,?_⟩;rcases hm with⟨hb,hL⟩|⟨hb,hl,rL,hL,_,_⟩
   ·exact .inl ⟨hb,⟨_,_,rfl⟩,hL⟩
   refine .inr (.inr ⟨hb,hl,rL,hL,nx,0,rfl,λz=>absurd z (Nat.succ_ne_zero i),λ_=>?_⟩);obtain⟨j,e1,e2⟩:=hp hb;exact⟨j,e1,by rw[e2];rfl⟩
  exact stop_of hh e0 HA (h2 he)
 rcases m with⟨hb,⟨z,u,rfl⟩,hL⟩|⟨hb,ot,pl,q,rfl,et,ec,ed,ps,pe⟩|⟨hb,hl,rL,hL,z,u,rfl,z0,z1⟩
 ·exact two z u rfl e0 (Rq ⟨hb,hL⟩)
 ·dsimp only;refine wpAny_bind (wpAny_seqItems et ed ?_);dsimp only;rw[Yv,Yv];cases he:L[i]? with
  |some e=>obtain⟨z,u,e1,e2⟩:=pe i e he;rw[e1];dsimp only;refine wpAny_bind ?_;unfold setNextDrawn;refine wpAny_bind (W8 ?_);dsimp only;rw[if_neg HA,e2];refine wpAny_pure (wpAny_bind (XT HA λg2 e2 iq=>wpAny_pure ⟨_,rfl,RK (h1 e g2 he ?_ iq)⟩));refine⟨HK tp,ep,by simpa[rawInt] using e2,o,es,t,by rw[iq.2 _ na];exact ho,hd,hf,hn,SJ (Rq ⟨hb,ot,pl,q,rfl,by rw[iq.2 _ nt];exact et,ec,ed,ps,pe⟩)⟩
  |none=>have hil:L.length≤i:=List.getElem?_eq_none_iff.mp he;rw[show pl[i]?=none from Jk HB];dsimp only;exact wpAny_bind (XT HA λg1 e1 jJ=>stop_of hh e1 HA λh' x=>h2 he h' λb ob cu eb=>x b ob cu (by rw[jJ.2 _ cu];exact eb))
 exact two z u rfl e0 (SJ ⟨hb,hl,rL,hL,z0,z1⟩)
def keyOf(e:Int×Value):Str:=match e.2 with
 |.str k _=>k
 |_=>Str.empty
def perm_of_sub{l m:Ng}(nd:l.Nodup)(h:∀x∈l,x∈m)(hl:m.length≤l.length):m.Perm l:=by
 induction l generalizing m with
 |nil=>have:m=[]:=Ug.mp (Nat.le_zero.mp hl);subst this;exact .nil
 |cons x t ih=>
  have hx:=h x Qc;rw[Qt]at nd;refine(Jv hx).trans ((ih nd.2 (λy hy=>?_) ?_).cons x)
  ·exact(Kr λz=>nd.1 (by rw[←z];exact hy)).mpr (h y Cs)
  rw[Yk hx];rw[Qy]at hl;lia
def key_is(h:(QB w).is k e.2=true):k=keyOf e∧∃t,e.2=.str AU t:=by unfold keyOf;obtain⟨n,v⟩:=e;cases v<;>simp[PySem.strKind,Value.isStrOf]at h ⊢;exact h.symm
def iter_of{Q:Nc}(hS:AJ)(nd:zs.Nodup)(hQ:∀(g:Nn) (d:Drawn) (it tp:Nb) (L:S1 (Int×Value)),ItX w g it a tp L 0→(∀e∈L,∃t,e.2=.str AU t)→(L.map keyOf).Perm zs→a≠it→tp≠it→HS→s.heap.objs.size≤it→it<g.objs.size→tp<g.objs.size→(tp=a∨s.heap.objs.size≤tp)→Q SS {s with heap:=g,drawn:=d}):ZE A (Oj Sg) Q E s:=by
 obtain⟨o,es,ep,t,ho,iW,hd,bM,hmem,hb,hf,hn,hl,hp⟩:=hS;have hT:s.TypeIs Sg "set" :=⟨o,ho,iW.1⟩;have aT:=Qx ho;have oG:∀e∈es.toList,∃t,e.2=.str AU t:=λe he=>by obtain⟨⟨k,hk,_⟩,_⟩:=bM e he;exact(key_is hk).2
 have hkp:(es.toList.map keyOf).Perm zs:=perm_of_sub nd (λz hz=>by obtain⟨e,he,hk⟩:=(hmem z).mp (RE hz);rw[(key_is hk).1];exact Qe.mpr ⟨e,he,rfl⟩) (by rw[Qa,Zz,hn];exact Qf _);refine Ff PySem.F.slot_set_iter (wpAny_call_entry PySem.F.slot_set_iter hT entry_iter ?_ (PySem.F.args_set_iter_1 _));unfold Builtin.«frozenset.__iter__» Builtin.Frozenset.slot0 slotArgs;simp only[List.isEmpty_nil,Bool.not_true,Ut,↓reduceIte,bind_assoc,Uh,bne_self_eq_false];unfold Builtin.Frozenset.addrOf Builtin.Frozenset.sizeOf;refine wpAny_bind Rw
 try dsimp only
 refine wpAny_bind Rw;refine wpAny_bind (Sd (Mj Rw));unfold setDrawn;refine wpAny_bind (Pf (W8 (Sd (zgw Rw))));have fin:∀(g:Nn) (d:Drawn) (f:Value) (tp:Nb) (L:S1 (Int×Value)),g.get? a=some o→(∀b ob,s.heap.get? b=some ob→g.get? b=some ob)→s.heap.objs.size≤g.objs.size→tp<g.objs.size→(tp=a∨s.heap.objs.size≤tp)→L.Perm es.toList→Mode w g a tp L 0 f ep es t→ZE A.in1 (do
   let e ←setEpoch a
   ret (←newFields "set_iterator" [f,CK 0,Sg,rawInt es.size,CK e])) (λfin s'=>∃v,fin=Fin.done (Flow.ret v)∧∃T id,s'.TypeIs v T∧typeLookup CY "__next__" = pure (HW id)∧Q v s') E {s with heap:=g,drawn:=d}:=λg d f tp L ut kg le fZ tj cw hm=>by
  refine wpAny_bind (wpAny_setEpoch_of (s:={s with heap:=g,drawn:=d}) ut hd hf (wpAny_bind (wpAny_newObj_type ?_ (by size_fits))));have hgl:a<g.objs.size:=Qx ut;have jD:L.length=es.size:=by rw[cw.length_eq,Zz]
  refine wpAny_pure ⟨_,rfl, "set_iterator",_,⟨_,To,rfl⟩,slot_next.lookup,hQ _ d _ tp L ⟨f,ep,?_,o,es,t,WF ut,hd,hf,jD.symm,?_⟩ (λe he=>oG e (O3 he)) ((cw.map _).trans hkp) (Zj hgl) (Zj fZ) (λb ob e=>WF (kg b ob e)) le (by rw[Wj];exact Yy _) (by rw[Wj];exact Jq fZ) tj⟩
  ·rw[U5 rfl,jD];rfl
  rcases hm with m|⟨m0,ot,pl,q,e1,e2,r⟩|m
  ·exact .inl m
  ·exact .inr (Rq ⟨m0,ot,pl,q,e1,WF e2,r⟩)
  exact .inr (SJ m)
 by_cases pk:byT w=false∧1<es.size
 ·rw[Sx (by show (!byT w && (!t.plain && decide (es.size > 1)))=true;rw[pk.1,hp HB];simpa using pk.2)];refine wpAny_bind (zdw _ _ _ Yh λpl d aH=>?_);simp only[newTuple];have tU:pl.length=es.size:=by rw[aH.length_eq,Yh]
  refine wpAny_bind (wpAny_newObj_type ?_ (by show(List.map (λi:Nat=>rawInt i) pl).toArray.size≤sizeLine;rw[Qv,Qa,tU];exact fits_of_scanBound hb));refine fin _ d _ s.heap.objs.size (pl.map λj=>es.toList.getD j (0,.none)) (WF ho) (λb ob e=>WF e) (by rw[Wj];exact Uo _) (by rw[Wj];exact Yy _) (SJ Rf) ((aH.map _).trans (.of_eq ?_)) (.inr (.inl ⟨pk.1,_,_,_,rfl,To,rfl,rfl,?_,λj e he=>?_⟩))
  ·refine Kq HA λk h1 h2=>?_;rw[Zl,Ub,Ze,Qb h2];rfl
  ·rw[Qv,Qa,Qa]
  rw[Qk]at he;obtain⟨q,hq,rfl⟩:=Kl.mp he;have kE:q<es.size:=Yz.mp (aH.mem_iff.mp (Yb hq));refine⟨q,0,by rw[List.getElem?_toArray,Qk,hq];rfl,?_⟩;rw[Yv,←Yx,Ze,Qb (HP Zz kE)];rfl
 rw[if_neg (by show ¬ (!byT w && (!t.plain && decide (es.size > 1)))=true;intro z;simp at z;exact pk ⟨z.1,z.2.2⟩)];refine wpAny_bind Rw;cases rp:byT w with
 |true=>exact Dg _ ho (λ_ _ e=>e) Rf aT Sf (pick_perm TD es) (Rq ⟨rp,⟨_,_,rfl⟩,rfl⟩)
 |false=>have h1:es.size≤1:=Xr λz=>pk ⟨rp,z⟩;exact Dg es.toList ho (λ_ _ e=>e) Rf aT Sf (.refl _) (.inr (.inr ⟨rp,by rw[hl,rp];rfl,HP Zz h1,rfl,_,_,rfl,λ_=>rfl,λz=>by cases z⟩))
def slot_self:Slot "set_iterator" "__iter__" "set_iterator.__iter__" :=
 .of (owner:= "set_iterator") (n:= "__iter__") (by rw[typeLookup_type,builtinLookup_eq_fast];kernel_rfl) Rh Rh Rh (by first|exact .inl Rh|exact .inr Rh) (by rw[isSubtype_type];kernel_rfl)
def entry_self:entryFor table "set_iterator.__iter__" = some Builtin.«dict_keyiterator.__iter__»:=
 entryFor_alias (id':= "dict_keyiterator.__iter__") (by kernel_rfl) rfl Rh (by kernel_rfl)
def args_self(v:Value):argsOk "set_iterator.__iter__" ⟨[v],[]⟩:=by unfold argsOk;rw[signature?_of (id:= "set_iterator.__iter__") (n:= "__iter__".toList.reverse) (o:=['r','o','t','a','r','e','t','i','_','t','e','s']) (by kernel_rfl) owner_it];kernel_rfl
theorem walks(hh:A.handled=none)(na:a≠it)(nt:tp≠it):Walks prog w A it [it,a,tp] [it] L.length (λi v=>∃e,L[i]?=some e∧v=e.2) (λi h=>i≤L.length∧Vw i) where
 sub:=λb hb=>by simp at hb;simp[hb]
 frame:=λ_ _ _ st hk=>⟨st.1,st.2.frame hk⟩
 item:=λi s Q E hi st hQ=>MH (λe h' he x sb=>hQ _ h' s.toks ⟨e,he,rfl⟩ ⟨hi,x⟩ λb o hb eb=>by rw[sb.2 b (λz=>hb (by simp[z]))];exact eb) λhe=>absurd (List.getElem?_eq_none_iff.mp he) (Nat.not_le.mpr hi)
 done:=λs Q E st hQ=>MH (λe h' he _ _=>by rw[Wy Rf]at he;cases he) λ_ h' x=>hQ h' s.toks λb o hb eb=>x b o (λz=>hb (by simp[z])) eb
 self:=λi s Q E st hQ=>by have hT:s.TypeIs SS "set_iterator" :=st.2.type;refine Ff slot_self (wpAny_call_entry slot_self hT entry_self ?_ (args_self _));show ZV _ (ret SS) _ _ s;exact wpAny_pure ⟨_,rfl, "set_iterator",_,hT,slot_next.lookup,hQ⟩
end
end SetX
namespace SetT
open PySem PyProof.Rows PySem.Spec SetX
section
variable{prog:Nk}{w:Nl}{A:Np}{R:Nw}{I:Nb}{fp wr:No}{G:Array GenState→Array GenState→Prop}{n:Nat}{P:Nat→Value→Prop}{St:Nat→Shared→Prop}
def loop(W:WalksS prog w A.in1 I fp wr G n P St)(S:Nb)(fg:S∉fp)(zs:Ng)(hz:zs.length=n)(nd:zs.Nodup)(e7:∀i v,P i v→∃t,v=.str (ST i) t)(hb:n+1<scanBound) :
  ∀(k i:Nat) (s:Ni),n-i=k→i≤n→St i s→YF s.heap S (CU i) →
   (∀s',Moved (S::wr) G s s'→YF s'.heap S (CU n)→R (.ok Ou) s')→codeAny Rb A (.builtin "set.update.loop" ⟨[OH,CM],[]⟩) R s:=by
 have lA:S∉wr:=λh=>fg yr;have sub:∀b∈wr,b∈S::wr:=λb q=>QR q;intro k;induction k with
 |zero=>
  intro i s hk hi ay hS hR;obtain rfl:i=n:=by lia
  refine codeAny_builtin F.entry_set_update_loop ?_;rw[MI _];show ZV A.in1 (pyNext CM >>= _) _ _ s;exact wpAny_bind (W.done s _ _ ay λs' hm=>(show ZV A.in1 (ret Value.none) _ _ s' from wpAny_pure (hR s' (hm.mono sub) (hS.at λo ho=>hm.heap S o lA ho))))
 |succ k ih=>
  intro i s hk hi ay hS hR;have lt:i<n:=by lia
  refine codeAny_builtin F.entry_set_update_loop ?_;rw[MI _];show ZV A.in1 (pyNext CM >>= _) _ _ s;refine wpAny_bind (W.item i s _ _ lt ay λv s' hP eF hm=>?_);obtain⟨t,rfl⟩:=e7 i v hP;have am:i<zs.length:=by exact zar6 ‹_› ‹_›
  have eg:zs.getD i Str.empty=zs[i]:=by simp[List.getD,am]
  rw[eg];have cv:YF s'.heap S (CU i):=hS.at λo ho=>hm.heap S o lA ho;show ZV A.in1 (holding [Value.str zs[i] t] (setAdd S (.str zs[i] t)) >>= _) _ _ s';refine wpAny_bind (wpAny_holding ?_);unfold setAdd;refine wpAny_holding (Sd ((QB w).pyHash (k:=zs[i]) (by simp[PySem.strKind,Value.isStrOf]) ?_));have nin:zs[i]∉zs.take i:=λq=>by obtain⟨j,hj,e⟩:=Zu q;rw[Zo]at hj;rw[Jr]at e;have:=(Wf nd).mp e;lia
  refine addX cv nin (Rc Zo) λg sb rC=>?_;have hSi:YF g S (CU Rm):=by rw[Qh am];exact rC
  refine wpAny_pure ⟨plainId_quiet F.plain_set_update_loop _,ih Rm _ HB lt (W.frame _ s' _ _ eF (by first|exact Qf _|exact Uo _) λb q o e=>?_) hSi λs2 bZ rB=>hR s2 (Moved.trans W.gtrans ((hm.mono sub).then_heap (by first|exact Qf _|exact Uo _) λb o q e=>?_) bZ) rB⟩
  ·rw[sb.2 b (λz:b=S=>fg (by rw[←z];exact q))];exact e
  rw[sb.2 b (λz:b=S=>q (HP z Qc))];exact e
variable{E:Nc}{s:Ni}
def new1(a:Value){Q₁:Nc}(h:Q₁ HY {s with heap:=s.heap.push {cls:=.type "set",dict:=none,data:=.set #[] 0 (.fresh 0 0 (!byT w))}}) :
  codeAny Rb A (.call (.builtin "set.__new__") ⟨[.type "set",a],[]⟩) (wants Q₁ E) s:=by
 refine codeAny_of_tree (show ZV A.in1 (do checkBuiltinCall "set.__new__" ⟨[.type "set",a],[]⟩;again (.builtin "set.__new__" ⟨[.type "set",a],[]⟩)) _ _ s from (wpAny_bind (wpAny_of_eq (F.newCall_set_1 a) (RK ⟨plainId_quiet F.plain_set_new _,codeAny_builtin F.entry_set_new ?_⟩))));rw[Yf F.plain_set_new _];unfold Builtin.«set.__new__» Builtin.Frozenset.newClass;have iK:=sub_set_self;obtain⟨hp,g,d,tk,os⟩:=s;dsimp only;wp_walk;refine wpAny_askSetting Rw;dsimp only;simp only[newObj];exact wpAny_bind (wpAny_alloc (vt (RK h)))
def call_set{l:Nb}{a7:Nj}{zs:Ng}{Q:Nc}(hh:A.handled=none)(hl:s.heap.IsList l a7.toArray)(hz:zs.length=a7.length)(nd:zs.Nodup)(e7:∀(i:Nat) (v:Value),a7[i]?=some v→∃t,v=.str (ST i) t)(hb:a7.length+1<scanBound)(h:∀(g:Nn) (tk:Nat),YF g s.heap.objs.size zs→HS→Q HY {s with heap:=g,toks:=tk}) :
  wpAny Rb A (call (.type "set") [SO]) Q E s:=by
 obtain⟨c,tl,hmro⟩:=Wz.mro;have hmade:=Wz.made;have iK:=Wz.sub;refine wpAny_call (codeAny_of_tree (show ZV _ (callAny (.type "set") _) _ _ _ from wpAny_pure ⟨Code.quiet_builtin _ Rh,codeAny_builtin PySem.F.entry_type_call ?_⟩));rw[Around.under_plain (weight_type_call_type "set" [SO] []) rfl];have h1:=Wz.notType;have h2:=Wz.canCreate;have mt:=PySem.F.typeCall_set_1 SO
 repeat(any_goals (first|assumption|wp_step))
 refine codeAny_mono (new1 SO (E:=E) (Q₁:=λobj s₁=>obj=.ref s.heap.objs.size∧s₁={s with heap:=s.heap.push {cls:=.type "set",dict:=none,data:=.set #[] 0 (.fresh 0 0 (!byT w))}}) ⟨rfl,rfl⟩) λr s1 hr=>?_;cases r with
 |error e=>exact hr
 | ok fl=>
  cases fl with
  | ret obj=>
   obtain⟨rfl,rfl⟩:=hr;generalize mi:(!byT w)=led;have hS:(s.heap.push {cls:=.type "set",dict:=none,data:=.set #[] 0 Tp}).get? s.heap.objs.size=some {cls:=.type "set",dict:=none,data:=.set #[] 0 Tp}:=U5 rfl;have hT:Shared.TypeIs {s with heap:=s.heap.push {cls:=.type "set",dict:=none,data:=.set #[] 0 Tp}} HY "set" :=⟨_,hS,rfl⟩;have hli:=Wz.init.lookup;have hbi:=Wz.init.bind HY
   repeat(any_goals (first|assumption|wp_step))
   refine codeAny_mono (codeAny_call_builtin (R:=wants (λr s₂=>r=.none∧∃g tk,s₂={s with heap:=g,toks:=tk}∧YF g s.heap.objs.size zs∧HS) E)
    Wz.init.plain PySem.F.entry_set_init (check_set_init_1 hT ?_)) λr2 s2 bh=>?_
   ·obtain⟨ol,qX,cO,nl,lg⟩:=hl;obtain⟨ocls,odict,odata,oslots⟩:=ol;simp only at cO lg;subst cO;subst lg;have tX:(s.heap.push {cls:=.type "set",dict:=none,data:=.set #[] 0 Tp}).get? l=some {cls:=.type "list",dict:=odict,data:=.seq a7.toArray nl,slots:=oslots}:=WF qX;have hsls:=PySem.F.sub_list_set;have hslf:=PySem.F.sub_list_frozenset;have au:(Value.type "list" == Value.type "dict")=false:=by decide
    have aI:(s.heap.push {cls:=.type "set",dict:=none,data:=.set #[] 0 Tp}).IsList l a7.toArray:=⟨_,tX,rfl,nl,rfl⟩;unfold Builtin.«set.__init__» noKeywords Builtin.Frozenset.updateFrom;generalize hPI:pyIter=PI;wp_walk;subst hPI;refine wpAny_pyIter_list aI (Sd (wpAny_runValue ?_));have hlS:l<s.heap.objs.size:=Qx qX;have hh3:A.in1.in1.in1.handled=none:=by simp[hh]
    have z1:(s.heap.push {cls:=.type "set",dict:=none,data:=.set #[] 0 Tp}).objs.size=s.heap.objs.size+1:=Wj ..;have u8:l≠(s.heap.push {cls:=.type "set",dict:=none,data:=.set #[] 0 Tp}).objs.size:=by rw[z1];exact Zj (Jq hlS)
    have fg:s.heap.objs.size∉[(s.heap.push {cls:=.type "set",dict:=none,data:=.set #[] 0 Tp}).objs.size,l]:=by rw[z1];simp only[Qi,Jx,or_false,not_or];exact⟨Zj xl,Wa hlS⟩
    refine loop ((Walks.list hh3 _ l u8 a7.toArray).toS) s.heap.objs.size fg zs (HP Qv hz) nd (λi v hv=>e7 i v (HE hv)) (HP Qv hb) _ 0 _ rfl SW ⟨⟨_,To,rfl,rfl⟩,(aI.push _)⟩ ?_ ?_
    ·exact⟨_,#[],0,_,WF hS,⟨rfl,rfl,rfl⟩,rfl,λe he=>(by simp at he),λk=>by simp,HH,rfl,rfl,mi.symm,λz=>absurd z HA⟩
    intro s' hm cv;obtain⟨g,g',d',sh,sx⟩:=s';have eg:g'=s.gens:=hm.gens;have ed:d'=s.drawn:=hm.drawn;have eo:sx=s.os:=hm.os;subst eg;subst ed;subst eo;show ZV _ _ _ _ _;refine wpAny_pure (show ZV _ (ret Value.none) _ _ _ from wpAny_pure ⟨rfl,g,sh,rfl,?_,λb o e=>?_⟩)
    ·have e1:a7.toArray.size=zs.length:=by rw[Qv,hz]
     rw[e1,Qr Rf]at cv;exact cv
    have mw:b < s.heap.objs.size:=Qx e;refine hm.heap b o ?_ (WF IE);rw[z1];simp only[Qi,Jx,or_false,not_or];exact⟨Zj mw,Zj (Jq mw)⟩
   cases r2 with
   |error e=>exact bh
   | ok fl2=>
    cases fl2 with
    |ret r=>
     obtain⟨rfl,g,tk,rfl,cv,oI⟩:=bh
     repeat(any_goals (first|assumption|wp_step))
     exact h _ _ cv oI
    |_=>exact bh.elim
  |_=>exact hr.elim
end
end SetT
namespace L2
open PySem PySem.Spec PyProof.Rows
def setO(P:Nk)(w:Nl)(a:Nb)(zs:Ng):HO:=.ext λh=>SetX.SX P w h a zs
section
variable{X:Cx}
def zfn(hc:X.calm=true):YJ (.type "set") (λxs H Q=>Ex2 λ(p:Nb) (zs:Ng)=>Aj5 (xs=[TB]) (Q9 p Sj) zs.Nodup (zs.length≤1000) (∀l,H l=none→Q SO (ZR l (U1 l zs)))):=by
 intro a5 s σ H xs us Q I r h;obtain⟨p,zs,rfl,hq,nd,hz,q⟩:=h;obtain⟨u,rfl,rx⟩:=vals1 r;cases rx;obtain⟨a7,rv,pl,_⟩:=I.list hq;have hl:=rv.length;rw[Qa]at hl;refine SetT.call_set (zs:=zs) S7 pl.isList hl nd (λi v e=>?_) (by unfold scanBound;lia) λg tk hS k=>?_
 ·have hi:i < a7.length:=(TJ e).1;have am:i<zs.length:=by exact zar6 ‹_› ‹_›
  obtain⟨u,e2,t,e3⟩:=rv.get (i:=i) (x:=.str zs[i]) (by simp[am]);rw[e]at e2;cases e2;exact⟨t,by rw[e3];simp[List.getD,am]⟩
 refine⟨HK _,_,I.laid (t':=tk) k Rf (show Z1 _ g _ (U1 s.heap.objs.size zs) from⟨hS,?_,λh1 h2 p1 k1=>?_⟩),rfl,EA⟩
 ·obtain⟨o,_,_,_,e,_⟩:=hS;exact⟨o,e⟩
 obtain⟨o,es,ep,t,e,rest⟩:=p1;exact⟨o,es,ep,t,k1 o e,rest⟩
def zj4:YJ (.builtin "len") (λxs H Q=>Ex2 λ(p:Nb) (zs:Ng)=>Aj4 (xs=[TB]) (H p=some (U1 p zs)) (zs.length≤1000) (Q (.int zs.length) H)):=by intro a5 s σ H xs us Q I r h;obtain⟨p,zs,rfl,hq,hz,q⟩:=h;obtain⟨u,rfl,rx⟩:=vals1 r;cases rx;obtain⟨⟨o,es,ep,t,ho,iW,hd,bM,hmem,hb,hf,hn,_⟩,_⟩:=(show Z1 H s.heap p (U1 p zs) from KF hq);exact call_len_set ho iW hd hf (Rc hn) ⟨.int zs.length,H,Su,⟨_,by rw[hn]⟩,q⟩
end
end L2
namespace DictR
open PySem PyProof.Rows PySem.Spec
def miss_keys:typeLookup (.type "list") "keys" = pure none:=am_miss_of_fast Rh
section
variable{prog:Nk}{w:Nl}{A:Np}{E:Nc}{s:Ni}
def no_keys{a:Nb}{xs:Array Value}{k:Nat}{sl:Array Tr}{Q:Option Value→Shared→Prop}(hx:s.heap.get? a=some {cls:=.type "list",dict:=none,data:=.seq xs k,slots:=sl})(hA:A.handled=none)(h:∀g tk,HS→Q none {s with heap:=g,toks:=tk}):ZE A (getAttr? Sg "keys") Q E s:=by
 obtain⟨hp,g,d,tk,os⟩:=s;have hT:∀t',(⟨hp,g,d,t',os⟩:Shared).TypeIs Sg "list" :=λ_=>⟨_,hx,rfl⟩;have f1:=sub_AttributeError;have f3:=F.slot_list_getattribute.lookup;have f4:=F.slot_list_getattribute.bind Sg;have f5:=am_list_getattr_none;unfold getAttr? getAttrBy? getAttrBy
 repeat(any_goals (first|assumption|exact hT _|((with_reducible show ZV _ (call (Value.builtin "list.__getattribute__") _ _) _ _ _);refine call_meets F.slot_list_getattribute (hT _) am_entry_list_getattribute (F.args_list_getattribute_2 _ _) (meets_getattribute_miss_list a xs k sl "keys" _ miss_keys Rh Rh) ⟨hx,hA,λh' sh e dX=>?_⟩)|wp_step))
 obtain⟨t',u',he⟩:=dX.there;show ZV _ (getattributeRaised _ _ _ _ _ _ _) _ _ _;unfold getattributeRaised
 repeat(any_goals (first|assumption|wp_step))
 exact h h' sh dX.keeps
def zig:entryFor table "dict.update.loop" = some Builtin.«dict.update.loop»:=entryFor_of_tree (by kernel_rfl)
def zeh:plainId "dict.update.loop" = true:=by decide+kernel
structure Row(K:Type) where
 a:Addr
 o:Obj
 k:K
 key:Value
 val:Value
 n:Nat
end
section
variable{prog:Nk}{w:Nl}{A:Np}{E:Nc}{s:Ni} {K:Type}[DecidableEq K]{knd:KeyKind prog w K}
def RowAt(knd:KeyKind prog w K)(h:Nn)(r:Row K):Prop:=h.get? r.a=some r.o∧r.o.cls=.type "tuple" ∧ r.o.data=.seq #[r.key,r.val] r.n∧knd.is r.k r.key=true
def stored_new{kvs:List (K×Value)}(h:k∉kvs.map (·.1)):stored kvs k v=kvs++[(k,v)]:=by unfold stored;rw[if_neg];intro z;obtain⟨p,hp,e⟩:=Yi.mp z;exact h (Qe.mpr ⟨p,hp,Tn e⟩)
def loop{R:Nw}{I l:Nb}(hh:A.handled=none)(rows:S1 (Row K))(d:Nb)(uE:d≠I)(lg:d≠l)(hlI:l≠I)(hr:∀ r∈rows,r.a≠d∧r.a≠I)(nd:(rows.map (·.k)).Nodup)(hz:rows.length≤sizeLine) :
  ∀(m i:Nat) (s:Ni),rows.length-i=m→i≤rows.length→s.heap.IsListIter I l i→s.heap.IsList l (rows.map λr=>Value.ref r.a).toArray→(∀r∈rows,Hc r)→s.heap.DictOf knd d ((wu i).map λr=>(r.k,r.val)) →
   (∀g tk,(∀b o,b≠d→b≠I→s.heap.get? b=some o→g.get? b=some o)→g.DictOf knd d (rows.map λr=>(r.k,r.val))→R (.ok Ou) {s with heap:=g,toks:=tk}) →
   codeAny Rb A (.builtin "dict.update.loop" ⟨[C0,CM,CK i,.none],[]⟩) R s:=by
 intro m;induction m with
 |zero=>
  intro i s hm hi st hl hR hd hQ;obtain rfl:i=rows.length:=by lia
  refine codeAny_builtin zig ?_;rw[Yf zeh _];show ZV A.in1 (pyNext CM >>= _) _ _ s;refine wpAny_bind (wpAny_pyNext_list_end (show A.in1.handled=none from hh) st hl HA λg eb=>?_);show ZV A.in1 (Builtin.Dict.addKeywords d [] >>= λ_=>ret Value.none) _ _ _;refine wpAny_bind (show ZV A.in1 (pure ()) _ _ _ from wpAny_pure (wpAny_pure (hQ g s.toks (λb o _ hb e=>eb b o hb e) ?_)));rw[Qr Rf]at hd;exact hd.extBut eb uE
 | succ m ih=>
  intro i s hm hi st hl hR hd hQ;have lt:i<rows.length:=by lia
  obtain⟨e1,e2,e3,e4⟩:=hR rows[i] (Qq lt);obtain⟨n1,n2⟩:=hr rows[i] (Qq lt);refine codeAny_builtin zig ?_;rw[Yf zeh _];show ZV A.in1 (pyNext CM >>= _) _ _ s;refine wpAny_bind (M5 hl (x:=.ref rows[i].a) (by simp[lt]) λg aa sb=>?_);have k1:∀b o,b≠I→s.heap.get? b=some o→g.get? b=some o:=λb o hb e=>(AO hb).trans e;have mr:g.DictOf knd d ((wu i).map λr=>(r.k,r.val)):=hd.sameBut sb uE;refine wpAny_bind (wpAny_holding (wpAny_bind (wpAny_tryCatch ?_)));show ZV A.in1 (Builtin.Dict.pairItems (.ref rows[i].a)) _ _ _;unfold Builtin.Dict.pairItems;refine wpAny_bind (wpAny_typeOf (T:= "tuple") ⟨_,k1 _ _ n2 e1,e2⟩ ?_);rw[if_pos HH];refine wpAny_bind (wpAny_seqItems (k1 _ _ n2 e1) e3 Rw);show ZV A.in1 (holding [rows[i].key,rows[i].val] (dictSet d rows[i].key rows[i].val)) _ _ _;have nk:rows[i].k∉((wu i).map λr=>(r.k,r.val)).map (·.1):=by
   rw[Zg];intro q;obtain⟨r,aj,bh⟩:=Qe.mp q;obtain⟨j,hj,ej⟩:=Zu aj;rw[Zo]at hj;rw[Jr]at ej;have ml:j<rows.length:=by lia
   have:(rows.map (·.k))[j]'(HE ml)=(rows.map (·.k))[i]'(HE lt):=by rw[Zl,Zl,ej];exact bh
   have:=(Wf nd).mp this;lia
  refine wpAny_holding (wpAny_dictSet_pairs (knd:=knd) e4 mr (λg2 pB iq=>?_) (by rw[Qa,Zo];lia));rw[stored_new nk]at pB;have pA:g2.DictOf knd d ((wu Rm).map λr=>(r.k,r.val)):=by rw[Qh lt,Qp];exact pB
  have k2:∀b o,b≠d→b≠I→s.heap.get? b=some o→g2.get? b=some o:=λb o gX bv e=>(iq.2 b gX).trans (k1 b o bv e);have hc:((i:Int)+1)=((i+1:Nat):Int):=by push_cast;rfl
  refine wpAny_pure ⟨CS zeh,?_⟩;rw[hc];refine ih Rm _ HB lt ?_ ?_ (λr jl=>?_) pA λg3 tk3 k3 uF=>?_
  ·obtain⟨o,q,z⟩:=aa;exact⟨o,(iq.2 I (Zm uE)).trans q,z⟩
  ·obtain⟨o,q,z⟩:=hl;exact⟨o,k2 l o (Zm lg) hlI q,z⟩
  ·obtain⟨q1,q2⟩:=hR r jl;exact⟨k2 _ _ (hr r jl).1 (hr r jl).2 q1,q2⟩
  exact hQ g3 tk3 (λb o gX bv e=>k3 b o gX bv (k2 b o gX bv e)) uF
def call{l:Nb}{rows:List (Row K)}{Q:Nc}{xk:Nat}(hh:A.handled=none)(hl:s.heap.get? l=some {cls:=.type "list",data:=.seq (rows.map λr=>Value.ref r.a).toArray xk})(hR:∀r∈rows,Hc r)(nd:(rows.map (·.k)).Nodup)(hz:rows.length≤sizeLine)(h:∀g tk,g.DictOf knd s.heap.objs.size (rows.map λr=>(r.k,r.val))→HS→Q HY {s with heap:=g,toks:=tk}) :
  wpAny Rb A (call (.type "dict") [SO]) Q E s:=by
 refine callType_codes (Q₁:=λobj s₁=>obj=.ref s.heap.objs.size∧s₁={s with heap:=s.heap.push {cls:=.type "dict",data:=.dict #[]}}) PySem.F.kt_called_dict (PySem.F.kt_typeCall_dict_1 _) PySem.F.entry_dict_init (kt_code_dict_new _ ⟨rfl,rfl⟩) ?_;rintro obj s₁ ⟨rfl,rfl⟩;have cH:(s.heap.push {cls:=.type "dict",data:=.dict #[]}).DictOf knd s.heap.objs.size []:=Heap.DictOf.new s.heap;refine⟨cH.typeIs,PySem.F.args_dict_init_2 _ _,?_⟩;unfold Builtin.«dict.__init__»;refine wpAny_bind ?_;unfold Builtin.Dict.selfAndRest;refine wpAny_bind (wpAny_notOrdered_dict cH.typeIs (show ZV _ (pure (s.heap.objs.size,[ww l])) _ _ _ from wpAny_pure ?_));show ZV _ (Builtin.Dict.updateFrom "dict.__init__" s.heap.objs.size SO [] .none) _ _ _;unfold Builtin.Dict.updateFrom;have aI:(s.heap.push {cls:=.type "dict",data:=.dict #[]}).get? l=some {cls:=.type "list",data:=.seq (rows.map λr=>Value.ref r.a).toArray xk}:=WF hl;refine wpAny_bind (wpAny_typeOf (T:= "list") ⟨_,aI,rfl⟩ ?_);rw[if_pos HH];refine wpAny_bind (no_keys aI (by first|exact hh|(show A.handled=none;exact hh)) λg tk kg=>?_);simp only[Option.isNone_none,if_true];refine wpAny_bind (wpAny_rule ?_);have ltl:l<s.heap.objs.size:=Qx hl;have dg:g.DictOf knd s.heap.objs.size []:=by obtain⟨o,es,ep,q,z⟩:=cH;exact⟨o,es,ep,kg _ _ q,z⟩
 have hlg:g.IsList l (rows.map λr=>Value.ref r.a).toArray:=⟨_,kg _ _ aI,rfl,xk,rfl⟩;have ltd:s.heap.objs.size<g.objs.size:=by obtain⟨o,es,ep,q,z⟩:=dg;exact Qx q
 have lts:∀b o,s.heap.get? b=some o→b≠s.heap.objs.size∧b≠g.objs.size:=λb o e=>⟨Cl,Zj (Uk zi ltd)⟩;refine wpAny_bind (wpAny_pyIter_list (s:={s with heap:=g,toks:=tk}) hlg (RK ⟨CS zeh,loop (knd:=knd) (I:=g.objs.size) (l:=l) (by first|exact hh|(show A.handled=none;exact hh)) rows s.heap.objs.size (Zj ltd) (Wa ltl) (Zj (Uk ltl ltd)) (λr hr=>lts r.a r.o (hR r hr).1) nd hz _ 0 _ rfl SW ⟨_,To,rfl,rfl⟩ ?_ (λr hr=>?_) ?_ λg2 fk k2 hd=>?_⟩))
 ·obtain⟨o,q,z⟩:=hlg;exact⟨o,WF q,z⟩
 ·obtain⟨q1,q2⟩:=hR r hr;exact⟨WF (kg _ _ (WF q1)),q2⟩
 ·exact dg.push _
 exact⟨rfl,h g2 fk hd λb o e=>k2 b o (lts b o e).1 (lts b o e).2 (WF (kg _ _ IE))⟩
end
end DictR
namespace L2
open PySem PySem.Spec PyProof.Rows
section
variable{X:Cx}
abbrev RowsAt(H:Hp):List Addr→List (Str×V)→Prop:=Paired λa p=>H a=some (.tup [.str p.1,p.2])
theorem rows_of(I:Ro):∀{as:No} {ps:List (Str×V)},RowsAt H as ps →
  ∃rows:List (DictR.Row Key),rows.map (·.a)=as∧(∀r∈rows,DictR.RowAt Lj s.heap r)∧rows.map (·.k)=ps.map (λp=>Sum.inr p.1)∧KV (ps.map λp=>((Sum.inr p.1:Key),p.2)) (rows.map λr=>(r.k,r.val))
 |_,_,.nil=>⟨[],rfl,λr hr=>(by cases hr),rfl,.nil⟩
 |a::as,p::ps,.cons h t=>by
  obtain⟨rows,e1,e2,e3,e4⟩:=rows_of I t;obtain⟨_,a7,r,o,q,c,n,d⟩:=JW h;obtain⟨u,w',rfl,⟨tk,rfl⟩,rz⟩:=vals2 r;refine⟨⟨a,o,Sum.inr p.1,.str p.1 tk,w',n⟩::rows,by rw[Qn,e1],λx hx=>?_,by rw[Qn,Qn,e3],.cons ⟨rfl,rz⟩ e4⟩;rcases Qi.mp hx with z|z
  ·subst z;exact⟨q,c,d,zhd _ _ _ _⟩
  exact e2 x z
def zhx(hc:X.calm=true):YJ (.type "dict") (λxs H Q=>Ex3 λ(p:Nb) (as:No) (ps:S1 (Str×V))=>Aj5 (xs=[TB]) (H p=some Sl) (RowsAt H as ps) ((ps.map (·.1)).Nodup) (∀ l,H l=none→Q SO (ZR l (.dK (ps.map λp=>((Sum.inr p.1:Key),p.2)))))):=by
 intro a5 s σ H xs us Q I r h;obtain⟨p,as,ps,rfl,hp,hr,nd,q⟩:=h;obtain⟨u,rfl,rx⟩:=vals1 r;cases rx;obtain⟨hz,a7,n,rv,hl,e⟩:=I.lstM hp;obtain⟨rows,e1,e2,e3,e4⟩:=rows_of I hr;have eits:a7=rows.map λr=>Value.ref r.a:=by
  have fI:=e1;clear hz hl e hp e4 e3 e2 hr e1 q;induction rows generalizing as a7 with
  |nil=>subst fI;cases rv;rfl
  | cons r rs ih=>
   cases as with
   |nil=>cases fI
   |cons a as=>
    rw[Qn]at fI rv;injection fI with h1 h2;cases rv with
    |cons r1 r2=>cases r1;rw[Qn,h1,ih _ _ r2 h2]
 subst eits;have ae:rows.length≤sizeLine:=by rw[Qa]at hz hl;rw[Qa]at hl;exact zfr ‹_› ‹_›
 have ndk:(rows.map (·.k)).Nodup:=by rw[e3,show(λp:Str×V=>(Sum.inr p.1:Key))=(Sum.inr:Str→Key)∘(λp:Str×V=>p.1) from rfl,←Zg];exact List.Pairwise.map _ (λa b z q=>z PY) nd
 refine DictR.call (knd:=WM X.w) (rows:=rows) (xk:=n) S7 e e2 ndk ae λg tk hd k=>?_;have nS:(s.heap.objs.size==sysModules)=false:=beq_eq_false_iff_ne.mpr (Wa I.big);refine⟨HK _,_,I.laid (t':=tk) k Rf (show Z1 _ g _ (.dK _) from⟨?_,nS,_,e4,hd⟩),rfl,EA⟩;have:=Zr e4;rw[Qa,Qa]at this;rw[Qa];lia
def eval_dc(kx vx gens scope pos):eval Ow env=comprehension Ow scope env (firstIterPos gens pos) newDict (firstAsync gens) (firstIter gens env):=rfl
def zjx(I:Nat→Shared→Prop)(turn:∀ n s,I n s→wpAny (model prog w) A (pyNext it) (λr s₁=>match r with
   |none=>R E6 s₁
   | some v=>ZE A Cd (λ_ s₁'=>ZE A EN (λ_ s₂=>
     wpAny Rb A (forIn ifs true λc r=>if r=true then do let ok ←isTrue c env (Ci c);pure (SM ok) else pure (SM r)) (λok s₃=>
      if ok=true then ZE A (Ci kx) (λkv s₄=>ZE A (Ci vx) (λvv s₅=>wpAny Rb A (dictSet D kv vv) (λ_ s₆=>∃m,m<n∧I m s₆) (λ_ _=>False) s₅) (λ_ _=>False) s₄) (λ_ _=>False) s₃
      else ∃m,m<n∧I m s₃) (λ_ _=>False) s₂) (λ_ _=>False) s₁') (λ_ _=>False) s₁) (λ_ _=>False) s)(n:Nat)(h:I n s):codeAny Rb A (ze (.DictComp kx vx [⟨target,iter,ifs,0⟩] scope pos) it env) R s:=by
 refine codeAny_loop rfl I (λn s hI=>?_) n h;show ZV A ((compTurn (.DictComp kx vx [⟨target,iter,ifs,0⟩] scope pos) 0 it Td env).onRaise (λx=>do noteFrame x env;theTreesLotGoes x)) _ _ s;refine wpAny_noted ?_;rw[compTurn_dict];refine wpAny_bind (wpAny_standAt (wpAny_bind (BV (λr s₁ h₁=>?_) λ_ _ h'=>h'.elim)));cases r with
 |none=>exact wpAny_pure h₁
 |some v=>
  refine wpAny_bind (XO (λ_ s₁' h₁'=>?_) λ_ _ h'=>h'.elim);refine wpAny_bind (VI (λ_ s₂ h₂=>wpAny_bind (XQ (λok s₃ h₃=>?_) λ_ _ h'=>h'.elim)) λ_ _ h'=>h'.elim);cases ok with
  |false=>exact wpAny_pure ⟨rfl,h₃⟩
  |true=>exact wpAny_bind (wpAny_bind (Mg (λkv s₄ h₄=>wpAny_bind (wpAny_holding (wpAny_mono h₄ (λvv s₅ h₅=>wpAny_bind (wpAny_standAt (wpAny_holding (wpAny_mono h₅ (λ_ s₆ h₆=>wpAny_pure ⟨rfl,h₆⟩) λ_ _ h'=>h'.elim)))) λ_ _ h'=>h'.elim))) λ_ _ h'=>h'.elim))
variable{sc:Scope}{M:Ng}{ix:Nr}{a5:Nh}{σ:St}{H:Hp}{s:Ni}
def rDC(g:TG)(tc:TT)(tk tv:TE)(Q:VK)(J:It)(τ:St)(H1:Hp):Prop:=∃W:Nat→Nat→List (Key×V)→St→Hp→Prop,(∃m,W 0 m [] τ H1)∧∀i m ys τ H,W i m ys τ H →
 (Vo H∧∀D,H D=none→Q Td (ZR D (.dK ys))) ∨
 (N6 H∧ys.length<sizeLine∧∀x H',BL H'→g x τ H' λ τ2 H2=>tc τ2 H2 λb H3=>if b=true then tk τ2 H3 λkv H4=>tv τ2 H4 λy H5=>∃k,kv=kV k∧∃m',m'<m∧W Rm m' (putK ys k y) τ2 H5 else ∃m',m'<m∧W Rm m' ys τ2 H3)
def tDC(ix:Nr)(wi:TI)(g:TG)(tc:TT)(tk tv:TE):TE:=λ σ H Q=>wi σ H λJ H1=>rDC g tc tk tv Q J CL H1
def dc_block(B:YM ix)(hc:X.calm=true)(hg:∀C a5 ex s H,UO tg g)(ht:∀C a5 ex s H,YV tc)(hk:∀C a5 ex s H,UP kx tk)(he:∀C a5 ex s H,UP vx tv) :
  BOk X sc ix (.DictComp kx vx [⟨tg,iter,ifs,0⟩] sc pos) tg newDict (rDC g tc tk tv):=by
 intro a5 σ H s fp it tn J Q RR E I T h0 hf q pQ;refine wpAny_newObj_type (Fr ?_);dsimp only;generalize hD:s.heap.objs.size=D;generalize gY:s.heap.push {cls:=.type "dict",dict:=none,data:=.dict #[]}=g2;generalize cg:och none (g2.push {cls:=.type "dict",data:=.dict #[]})=h₁;obtain⟨Y,o⟩:=Ms cg;have nS:(D==sysModules)=false:=beq_eq_false_iff_ne.mpr (by rw[←hD];exact Wa I.big);have T':JY tn:=by rw[o.eP,o.eW,o.eK];exact T
 have DN:h₁.DictOf (XG Y.w) D []:=by obtain⟨_,_,_,e,r⟩:=Heap.DictOf.new (knd:=XG Y.w) s.heap;cases(GQ rfl).symm.trans e;exact⟨_,_,_,o.D1,r⟩
 obtain⟨W,⟨m0,w0⟩,turn⟩:=q;have loop:codeAny HU X.A (ze (.DictComp kx vx [⟨tg,iter,ifs,0⟩] sc pos) SS (Ev (DM TC))) E7 {s with heap:=h₁,toks:=s.toks+([]:List (Str×Value)).length}:=by
  rw[←o.eP,←o.eW,←o.eA,←o.eE];refine zjx (λn s'=>Ex5 λi τ H' ys vs=>Aj7 (JF [] τ H' s') E3 (∀b∈D::fp,H' b=none) (s'.heap.DictOf (XG Y.w) D vs) (KV ys vs) (ys.length≤sizeLine) OT) ?_ m0
   ⟨0,CL,H,[],[],o.IY,WO h0 λb _ o' e=>o.k b o' e,λb hb=>(o.fpx b hb).1,DN,.nil,SW,w0⟩
  rintro n s5 ⟨i,τ,H5,ys,vs,I5,t5,n5,dd5,v5,z5,w5⟩;obtain⟨o5,v6,v8,d5,rT⟩:=id dd5;have nc5:∀v,o5.data≠.cell v:=λv z=>by obtain⟨_,q,_⟩:=rT;rw[q]at z;cases z
  have oD:∀b∈[D],∃o,s5.heap.get? b=some o∧∀v,o.data≠.cell v:=λb hb=>by rw[Qd.mp hb];exact⟨_,d5,nc5⟩
  have im:JF ([]++zb0 [D] s5.heap) τ H5 s5:=I5.pinned (λb hb=>o.fY (by rw[Qd.mp hb];exact Qc) (n5 b (by rw[Qd.mp hb];exact Qc)) HA) oD;have pD:∀p∈zb0 [D] s5.heap,p.1=D∧p.2=o5:=λp hp=>by obtain⟨e1,e2⟩:=zd4 hp;have fI:p.1=D:=Qd.mp e1;rw[fI,d5]at e2;exact⟨fI,(Qo e2).symm⟩
  have fN:∀{H':Hp},(∀b∈fp,H' b=none)→∀b∈fp,ME ([]++zb0 [D] s5.heap) H' b:=λhn b hb=>o.fY Cu zQ λp hp z=>by rw[Wp]at hp;rw[(pD p hp).1]at z;exact o.fpD (z▸hb)
  rcases turn i n ys τ H5 w5 with⟨stop,qn⟩|⟨go,zl,step⟩
  ·have h6:=Bu (λ_ _=>False) im (fN λb hb=>n5 b Cu) t5 stop;refine thn h6 λr s6 ⟨hr,I6⟩=>?_;subst hr;have d6:s6.heap.get? D=some o5:=by have hp:=zbt (fp:=[D]) Tk d5;exact(I6.pin (D,_) wc).1
   have H5D:H5 D=none:=n5 D Qc;obtain⟨j1,⟨m,j2⟩,j3⟩:=o.fin (U:=.dK ys) I6 H5D ⟨z5,nS,vs,v5,o5,v6,v8,d6,by rw[←o.eP,←o.eW];exact rT⟩;exact pQ D _ m _ H5 s6 j1 (qn D H5D) j2 j3 (by rw[o.hC,hD];exact Yy _)
  have h6:=Bv (λ_ _=>False) im (fN λb hb=>n5 b Cu) t5 go;refine thn h6 λr s6 ⟨u,hr,h7⟩=>?_;subst hr;refine thn h7 λ_ s7 ⟨x,H7,I7,r7,y7,t7,n7⟩=>?_;have qi:=Vv (U9 t7);have h8:=(o.hX▸hg _ _ _ _ _:PG Y tg g) _ s7 τ H7 x u _ qi r7 (GY y7);rw[o.eX]at h8;refine thn h8 λ_ s8 ⟨τ8,H8,I8,q8⟩=>?_;have h9:=(o.hX▸ht _ _ _ _ _:PTs Y ifs tc) _ s8 τ8 H8 _ I8 q8;rw[o.eX]at h9;refine thn h9 λok s9 ⟨H9,I9,q9⟩=>?_;have again:∀{τ':St} {H':Hp} {s':Ni},JF (([]++zb0 [D] s5.heap)++BU s7.heap) τ' H' s'→s'.heap.get? D=some o5∧H' D=none∧tn Rm s'.heap∧∀b∈fp,H' b=none:=λ{τ' H' s'} I'=>by
   have pp:∀{b:Nb} {o:Obj},b∈fp→s7.heap.get? b=some o→s'.heap.get? b=some o∧H' b=none:=λ{b o} hb e=>
    let z:=I'.pin (b,o) L9
    ⟨z.1,z.2.1⟩
   have hp:=zbt (fp:=[D]) Tk d5;have z:=I'.pin (D,_) (WI (YG hp));refine⟨z.1,z.2.1,WO t7 λb hb o e=>(pp hb e).1,λb hb=>?_⟩;obtain⟨o',e,_⟩:=U9 t7 b hb;exact(pp hb e).2
  have drop:∀{pl:Nh} {τ':St} {H':Hp} {s':Ni},JF pl τ' H' s'→JF [] τ' H' s':=λI'=>I'.pins_of HA;cases ok with
  |false=>rw[if_neg HH]at q9 ⊢;obtain⟨m',hm,w9⟩:=q9;obtain⟨d9,H9D,t9,n9⟩:=again I9;exact⟨m',hm,i+1,τ8,H9,ys,vs,drop I9,t9,λb hb=>(Qi.mp hb).elim (λe=>e▸H9D) (n9 b),⟨o5,v6,v8,d9,rT⟩,v5,z5,w9⟩
  | true=>
   rw[if_pos rfl]at q9 ⊢;have fG:=(o.hX▸hk _ _ _ _ _:PE Y kx tk) _ s9 τ8 H9 _ I9 q9;rw[o.eX]at fG;refine thn fG λkv iu ⟨kw,dD,jF,qq,sr⟩=>?_;have rK:=(o.hX▸he _ _ _ _ _:PE Y vx tv) _ iu τ8 dD _ jF sr;rw[o.eX]at rK;refine thn rK λy sm ⟨yv,lD,rZ,r11,kk,ek,m',hm,w11⟩=>?_;subst ek;obtain⟨rW,H11D,lG,sF⟩:=again rZ;have vd:sm.heap.DictOf (XG Y.w) D vs:=⟨o5,v6,v8,rW,rT⟩;have ce:(XG Y.w).is kk kv=true:=by
    cases kk with
    |inl i=>obtain⟨t,rfl⟩:=qq;exact keyIs_int i t
    |inr x=>obtain⟨t,rfl⟩:=qq;exact keyIs_str x t
   refine wpAny_dictSet_pairs (knd:=XG Y.w) ce vd (λh' iX sb=>?_) (by rw[←Zr v5];assumption);have kkp:∀b o,b≠D→sm.heap.get? b=some o→h'.get? b=some o:=λb o hb e=>(AO hb).trans e;obtain⟨g0,g1,g2',g3,g4,g5⟩:=o.fY (pl:=[]) (H':=lD) (b:=D) Qc H11D HA;have I12:=(drop rZ).turned (h':=h') (t':=sm.toks+1) (it:=D) kkp H11D g1 g3 g4 g5;refine⟨m',hm,i+1,τ8,lD,putK ys kk yv,stored vs kk y,I12,WO lG λb hb o' e=>kkp b o' (λz=>o.fpD (z▸hb)) e,λb hb=>(Qi.mp hb).elim (λe=>e▸H11D) (sF b),iX,v5.put kk r11,?_,w11⟩;unfold putK;split
   ·rw[Qa];exact z5
   rw[Za,Kp];assumption
 exact codeAny_compStart_dict loop (VL (WO h0 λb _ o' e=>o.k b o' e) loop)
def pe_dc(B:YM ix)(hc:X.calm=true)(hi:YI wi)(hg:∀C a5 ex s H,UO tg g)(ht:∀C a5 ex s H,YV tc)(hk:∀C a5 ex s H,UP kx tk)(he:∀C a5 ex s H,UP vx tv)(hs:∀x,foldedSetIterable iter X.env x=pure x:=by intro _;rfl):Z9 (.DictComp kx vx [⟨tg,iter,ifs,0⟩] sc pos) (Gp tv):=pe_comp (Dh he) B.g hi hs rfl (eval_dc ..)
def ps_dc(hN:X.N.Nodup)(ap:X.N[i]?=some y)(hy:X.env.scope.names.lookup y=some .local)(B:YM ix)(hc:X.calm=true)(hi:YI wi)(hg:∀C a5 ex s H,UO tg g)(ht:∀C a5 ex s H,YV tc)(hk:∀C a5 ex s H,UP kx tk)(he:∀C a5 ex s H,UP vx tv)(i5:swapsWith (.DictComp kx vx [⟨tg,iter,ifs,0⟩] sc pos) wd spos.line X.env=pure true)(hs:∀x,foldedSetIterable iter X.env x=pure x:=by intro _;rfl):KO (.Assign [Tu] (.DictComp kx vx [⟨tg,iter,ifs,0⟩] sc pos) spos) (tAsg (Gp tv) Iq):=
 ps_comp (Dh he) hN ap hy B.g hi hs rfl (λ_=>rfl) i5
def compTurn_out(elt target iter bV bj:Expr)(ifs:Nv)(scope:Scope)(pos:Pos)(it ag:Value)(env:Env) :
  compTurn Rp 0 it ag env=(do
   standAt iter.pos
   match ←pyNext it with
   |none=>pure (.done .next)
   |some v=>
    letOwnedTupleGo target it v
    assign target env v
    let x ←eval bj env
    standAt bj.pos
    let x ←foldedSetIterable bj env x;let _ ←runOwn (AV Rp (←holding [x] (Oj x))) env
    again (Ee Rp 0 ag)):=by rfl
variable{prog:Nk}{w:Nl}{A:Np}{elt ql qC target iter:Expr}{ifs:Nv}{scope:Scope}{pos:Pos}{it ag:Value}{env:Env}{R:Nw}
def start_in(h0:codeAny Rb A (Ee (.ListComp elt [⟨ql,qC,[],0⟩,⟨target,iter,ifs,0⟩] scope pos) 1 ag) R s)(h:ZE A (Oj it) (λsP s'=>codeAny Rb A (.compLoop (.ListComp elt [⟨ql,qC,[],0⟩,⟨target,iter,ifs,0⟩] scope pos) 1 sP ag env) R s') (λ_ _=>False) s) :
  codeAny Rb A (AV (.ListComp elt [⟨ql,qC,[],0⟩,⟨target,iter,ifs,0⟩] scope pos) it) R s:=by
 refine codeAny_of_tree (show ZV _ ((compStart (.ListComp elt [⟨ql,qC,[],0⟩,⟨target,iter,ifs,0⟩] scope pos) 1 it ag env).onRaise (λx=>do noteFrame x env;standAt theWindowsPlace)) _ _ s from wpAny_notedAt ?_);unfold compStart;show ZV _ (ask >>= _) _ _ s;refine wpAny_bind (AC (wpAny_ite ?_));split
 ·first
   |exact wpAny_pure (And.intro rfl h0)
   |exact wpAny_bind (wpAny_pure (wpAny_pure (And.intro rfl h0)))
 refine wpAny_bind (wpAny_rule ?_)
 first
  |exact wpAny_bind (wpAny_standAt (wpAny_bind (wpAny_mono h (λsP s' h'=>wpAny_pure xx) λ_ _ x=>x.elim)))
  |(show wpAny _ _ (standAt iter.pos >>= _) _ _ s;exact wpAny_bind (wpAny_standAt (wpAny_bind (wpAny_mono h (λsP s' h'=>wpAny_pure xx) λ_ _ x=>x.elim))))
def loop_out(hs:∀x,foldedSetIterable bj env x=pure x)(I:Nat→Shared→Prop)(turn:∀ n s,I n s→wpAny (model prog w) A (pyNext it) (λr s₁=>match r with
   |none=>R E6 s₁
   | some v=>ZE A Cd (λ_ s₁'=>ZE A EN (λ_ s₂=>
     wpAny Rb A (Ci bj) (λx s₃=>ZE A (Oj x) (λj s₄=>codeAny Rb A (AV Rp j) (λr s₅=>(∃f,r=.ok f)∧∃m,m<n∧I m s₅) s₄) (λ_ _=>False) s₃)
      (λ_ _=>False) s₂) (λ_ _=>False) s₁') (λ_ _=>False) s₁) (λ_ _=>False) s)(n:Nat)(h:I n s):codeAny Rb A (Ee Rp 0 ag) R s:=by
 refine codeAny_loop rfl I (λn s hI=>?_) n h;show ZV A ((compTurn Rp 0 it ag env).onRaise (λx=>do noteFrame x env;theTreesLotGoes x)) _ _ s;refine wpAny_noted ?_;rw[compTurn_out];refine wpAny_bind (wpAny_standAt (wpAny_bind (BV (λr s₁ h₁=>?_) λ_ _ h'=>h'.elim)));cases r with
 |none=>exact wpAny_pure h₁
 | some v=>
  refine wpAny_bind (XO (λ_ s₁' h₁'=>?_) λ_ _ h'=>h'.elim);refine wpAny_bind (VI (λ_ s₂ h₂=>?_) λ_ _ h'=>h'.elim);refine wpAny_bind (XQ (λx s₃ h₃=>wpAny_bind (wpAny_standAt (wpAny_bind (wpAny_of_eq (hs x) (wpAny_bind (wpAny_holding (Mg (λj s₄ h₄=>wpAny_bind (wpAny_runOwn ?_)) λ_ _ h'=>h'.elim)))))))
   λ_ _ h'=>h'.elim)
  refine codeAny_mono (show codeAny Rb (A.mark none) _ _ s₄ from h₄) λr s₅ h₅=>?_;obtain⟨⟨f,rfl⟩,h₆⟩:=h₅;exact wpAny_pure ⟨rfl,h₆⟩
def rLC2(g1:TG)(fO:TI)(g:TG)(tc:TT)(te:TE)(Q:VK)(J:It)(τ:St)(H1:Hp):Prop:=∃W:Nat→Nat→List V→St→Hp→Prop,(∃m,W 0 m [] τ H1)∧∀i m ys τ H,W i m ys τ H →
 (Vo H∧∀D,H D=none→Q Td (Lc D ys)) ∨
 (N6 H∧∀x H',BL H'→g1 x τ H' λ τ2 H2=>fO τ2 H2 λJ2 H3=>rIn2 g tc te (λse τ' H'=>∃m',m'<m∧W Rm m' se τ' H') J2 ys τ2 H3)
def tLC2(ix:Nr)(wi:TI)(g1:TG)(fO:TI)(g:TG)(tc:TT)(te:TE):TE:=λ σ H Q=>wi σ H λJ H1=>rLC2 g1 fO g tc te Q J CL H1
end
section
variable{X:Cx}{sc:Scope}{M:Ng}{ix:Nr}{a5:Nh}{σ:St}{H:Hp}{s:Ni}
def lc2_block(B:YM ix)(hc:X.calm=true)(oW:∀C a5 ex s H,UO tg g1)(am:∀C a5 ex s H,Ml fO)(cq:∀C x,foldedSetIterable bj Ex x=pure x)(hg:∀C a5 ex s H,UO bV g)(ht:∀C a5 ex s H,YV tc)(he:∀C a5 ex s H,UP elt te) :
  BOk X sc ix RU tg (newList []) (rLC2 g1 fO g tc te):=by
 intro a5 σ H s fp it tn J Q RR E I T h0 hf q pQ;refine wpAny_newObj_type (Fr ?_);dsimp only;generalize hD:s.heap.objs.size=D;generalize gY:s.heap.push {cls:=.type "list",dict:=none,data:=.seq ([]:List Value).toArray}=g2;generalize cg:och none (g2.push {cls:=.type "dict",data:=.dict #[]})=h₁;obtain⟨Y,o⟩:=Ms cg;have T':JY tn:=by rw[o.eP,o.eW,o.eK];exact T
 obtain⟨W,⟨m0,w0⟩,turn⟩:=q;have loop:codeAny HU X.A (ze RU SS (Ev (DM TC))) E7 {s with heap:=h₁,toks:=s.toks+([]:List (Str×Value)).length}:=by
  rw[←o.eP,←o.eW,←o.eA,←o.eE];refine loop_out (by rw[o.eE];exact cq _) (λn s'=>Ex6 λi τ H' ys a7 k=>Aj7 (JF [] τ H' s') E3 (∀b∈D::fp,H' b=none) (s'.heap.get? D=some {cls:=.type "list",data:=.seq (a7:Nj).toArray k}) (Y3 a7) (ys.length≤sizeLine) OT) ?_ m0
   ⟨0,CL,H,[],[],0,o.IY,WO h0 λb _ o' e=>o.k b o' e,λb hb=>(o.fpx b hb).1,o.D1,.nil,SW,w0⟩
  rintro n s5 ⟨i,τ,H5,ys,a7,k,I5,t5,n5,d5,v5,z5,w5⟩;have oD:∀{s':Ni} {its':Nj} {k':Nat},s'.heap.get? D=some {cls:=.type "list",data:=.seq its'.toArray k'}→∀b∈[D],∃o,s'.heap.get? b=some o∧∀v,o.data≠.cell v:=λ{s' its' k'} e b hb=>by rw[Qd.mp hb];exact⟨_,e,λv z=>by cases z⟩
  have im:JF ([]++zb0 [D] s5.heap) τ H5 s5:=I5.pinned (λb hb=>o.fY (by rw[Qd.mp hb];exact Qc) (n5 b (by rw[Qd.mp hb];exact Qc)) HA) (oD d5);have pD:∀p∈zb0 [D] s5.heap,p.1=D∧p.2={cls:=.type "list",data:=.seq a7.toArray k}:=λp hp=>by obtain⟨e1,e2⟩:=zd4 hp;have fI:p.1=D:=Qd.mp e1;rw[fI,d5]at e2;exact⟨fI,(Qo e2).symm⟩
  have fN:∀{H':Hp},(∀b∈fp,H' b=none)→∀b∈fp,ME ([]++zb0 [D] s5.heap) H' b:=λhn b hb=>o.fY Cu zQ λp hp z=>by rw[Wp]at hp;rw[(pD p hp).1]at z;exact o.fpD (z▸hb)
  rcases turn i n ys τ H5 w5 with⟨stop,qn⟩|⟨go,step⟩
  ·have h6:=Bu (λ_ _=>False) im (fN λb hb=>n5 b Cu) t5 stop;refine thn h6 λr s6 ⟨hr,I6⟩=>?_;subst hr;have d6:s6.heap.get? D=some {cls:=.type "list",data:=.seq a7.toArray k}:=by have hp:=zbt (fp:=[D]) Tk d5;exact(I6.pin (D,_) wc).1
   have H5D:H5 D=none:=n5 D Qc;obtain⟨j1,⟨m,j2⟩,j3⟩:=o.fin (U:=.lst ys) I6 H5D ⟨z5,a7,k,v5,d6⟩;exact pQ D _ m _ H5 s6 j1 (qn D H5D) j2 j3 (by rw[o.hC,hD];exact Yy _)
  have h6:=Bv (λ_ _=>False) im (fN λb hb=>n5 b Cu) t5 go;refine thn h6 λr s6 ⟨u,hr,h7⟩=>?_;subst hr;refine thn h7 λ_ s7 ⟨x,H7,I7,r7,y7,t7,n7⟩=>?_;have qi:=Vv (U9 t7);have h8:=(o.hX▸oW _ _ _ _ _:PG Y tg g1) _ s7 τ H7 x u _ qi r7 (GY y7);rw[o.eX]at h8;refine thn h8 λ_ s8 ⟨τ8,H8,I8,q8⟩=>?_;have h9:=(o.hX▸am _ _ _ _ _:PI Y bV bj fO) _ s8 τ8 H8 _ I8 q8;rw[o.eX]at h9;refine thn h9 λxv s9 fG=>thn fG λjv iu rK=>?_;obtain⟨j,fp2,tn2,J2,dD,rfl,jF,T2,qo,v2,sr⟩:=rK;have pp:∀{b:Nb} {o:Obj} {H':Hp} {τ':St} {s':Ni},JF ([]++BU s7.heap) τ' H' s'→b∈fp→s7.heap.get? b=some o→s'.heap.get? b=some o∧H' b=none:=λ{b o H' τ' s'} I' hb e=>
   let z:=I'.pin (b,o) L9
   ⟨z.1,z.2.1⟩
  have hpD:=zbt (fp:=[D]) Tk d5;have zD:=jF.pin (D,_) xy;have vo:JF ([]++BU s7.heap) τ8 dD iu:=jF.pins_of λp hp=>jF.pin p (WI (WI (by rwa[Wp]at hp)));have nfp:∀p∈BU s7.heap,p.1≠D:=λp hp z=>o.fpD (z▸(zd4 hp).1);have keepT:∀{H':Hp} {τ':St} {s':Ni},JF ([]++BU s7.heap) τ' H' s'→tn Rm s'.heap∧∀b∈fp,H' b=none:=λ{H' τ' s'} I'=>by refine⟨WO t7 λb hb o e=>(pp I' hb e).1,λb hb=>?_⟩;obtain⟨o',e,_⟩:=U9 t7 b hb;exact(pp I' hb e).2
  have res:=in_loop (e:=.ListComp elt [⟨tg,iter,[],0⟩,⟨bV,bj,ifs,0⟩] sc pos) (k:=1) (P1:=[]++BU s7.heap) (R:=λr s₅=>(∃f,r=.ok f)∧∃m,m<n∧Ex6 λi τ H' ys a7 k=>Aj7 (JF [] τ H' s₅) (tn i s₅.heap) (∀b∈D::fp,H' b=none) (s₅.heap.get? D=some {cls:=.type "list",data:=.seq (a7:Nj).toArray k}) (Y3 a7) (ys.length≤sizeLine) (W i m ys τ H'))
   rfl rfl (o.eC.trans hc) o.eX (o.hX▸hg _ _ _ _ _) (o.hX▸ht _ _ _ _ _) (o.hX▸he _ _ _ _ _) T2 (λhm=>?_) (λ{H'} hn=>o.fY Qc hn λp hp=>nfp p (by rwa[Wp]at hp)) (λ{H' b} hb hn=>?_) vo qo (λb hb=>?_) zD.1 v5 z5 sr λse its' k' τ' H' s' I' HD' d' v' z' fin=>?_
  ·exact start_in res (T2.self _ 0 _ _ _ qo res)
  ·have:=(v2 D hm).2.2.2.2.2 (D,_) xy;exact this rfl
  ·obtain⟨f0,f1,f3,f4,f5,f6⟩:=v2 b hb;exact⟨hn,f1,f3,f4,f5,λp hp=>f6 p ((Qm.mp hp).elim (λz=>YG z) λz=>WI (WI (by rwa[Wp]at z)))⟩
  ·rcases Qi.mp hb with z|z
   ·rw[z];exact zD.2.1
   exact(v2 b z).1
  obtain⟨m',hm,w'⟩:=fin;obtain⟨kt,kn⟩:=keepT I';exact⟨⟨vG⟩,m',hm,i+1,τ',H',se,its',k',I'.pins_of HA,kt,λb hb=>(Qi.mp hb).elim (λe=>e▸HD') (kn b),d',v',z',w'⟩
 exact codeAny_compStart_list loop (VL (WO h0 λb _ o' e=>o.k b o' e) loop)
def pe_lc2(B:YM ix)(hc:X.calm=true)(hi:YI wi)(oW:∀C a5 ex s H,UO tg g1)(am:∀C a5 ex s H,Ml fO)(hg:∀C a5 ex s H,UO bV g)(ht:∀C a5 ex s H,YV tc)(he:∀C a5 ex s H,UP elt te)(hs:∀x,foldedSetIterable iter X.env x=pure x:=by intro _;rfl)(cq:∀C x,foldedSetIterable bj Ex x=pure x:=by intro _ _;rfl):Z9 RU (DO te):=pe_comp (V4 he) B.g hi hs rfl (eval_ListComp ..)
end
end L2
namespace RawD
open PySem PyProof.Rows PySem.W
def At(h:Nn)(a:Nb)(es:Array DictEntry)(ep:Nat):Prop:=∃o,h.get? a=some o∧o.ExactDict∧o.data=.dict es ep
def At.typeIs{s:Ni}{a:Nb}{es:Array DictEntry}{ep:Nat}(x:At s.heap a es ep):s.TypeIs Sg "dict" :=let⟨o,e,c,_⟩:=x;⟨o,e,c.1⟩
def At.keep{h g:Nn}{a:Nb}{es:Array DictEntry}{ep:Nat}(x:At h a es ep)(k:∀o,h.get? a=some o→g.get? a=some o):At g a es ep:=let⟨o,e,r⟩:=x;⟨o,k _ e,r⟩
section
variable{prog:Nk}{w:Nl}{A:Np}{E:Nc}{s:Ni}{d:Nb}{es:Array DictEntry}{ep:Nat}
def iter{Q:Nc}(nS:(d==sysModules)=false)(m:MJ ep)(q:Q HY {s with heap:=s.heap.push {cls:=.type "dict_keyiterator",data:=.fields #[C0,Pl,.int es.size 0,S5 ep 0]}}):ZE A (Oj C0) Q E s:=by obtain⟨o,ho,hc,hd⟩:=id m;refine wpAny_pyIter_slot m.typeIs F.slot_dict_iter (wpAny_call_entry F.slot_dict_iter m.typeIs F.entry_dict_iter ?_ (F.args_dict_iter_1 _));unfold Builtin.«dict.__iter__»;refine wpAny_bind ?_;unfold Builtin.Dict.dictSlotNone;refine wpAny_bind (wpAny_notOrdered_dict m.typeIs (show ZV _ (pure (ww d)) _ _ s from wpAny_pure ?_));show ZV _ (Builtin.Dict.showsAll d >>= _) _ _ s;unfold Builtin.Dict.showsAll;rw[if_neg (HP nS Zh)];refine wpAny_bind (RK (Pf (wpAny_dictEntries ho hd (Sd (wpAny_dictEpoch ho hd (wpAny_bind (IG ⟨_,rfl, "dict_keyiterator",_,⟨_,To,rfl⟩,Us.lookup,?_⟩)))))));simpa[rawInt] using q
def item{j:Nb}{i:Nat}{Q:Option Value→Shared→Prop}(st:OP)(m:MJ ep)(hi:i<es.size)(hQ:∀g,g.IsKeyIter j d Rm es.size ep→DK g→Q (some es[i].key) {s with heap:=g}):ZE A (Ay Ef) Q E s:=by
 obtain⟨o,ho,hc,hd⟩:=id st;obtain⟨od,og,az,ic⟩:=id m;unfold pyNext;refine wpAny_bind (PQ (wpAny_callSpecial?_slot (name:=Str.ofString "__next__") st.typeIs Us (JQ ?_ IR)));refine wpAny_bind (zT (wpAny_bind ?_))
 first|refine wpAny_bind wx|refine wpAny_bind wz
 refine wpAny_bind (Fg ?_);have kN:Builtin.Dict_items.ownsTuple "dict_keyiterator" = false:=by decide
 simp only[kN,Ut,if_false];show ZV _ (if(Value.ref d==.none)=true then _ else _) _ _ s;rw[if_neg (show ¬((Value.ref d==.none)=true) from Zh)];refine wpAny_bind (zT (NM ?_));rw[if_neg HA];refine wpAny_bind (zT (DP ?_));rw[if_neg HA];refine wpAny_pure ?_;simp only[show ¬((i:Int)<0) from by lia,if_false,Yv,Xg hi];refine wpAny_bind ?_
 first|refine wpAny_bind wx|refine wpAny_bind wz
 refine wpAny_bind (wpAny_isOneOf_keyiter st.typeIs ?_);show ZV _ (setField Ef 1 (CK ((i:Int)+1)) >>= _) _ _ s;refine wpAny_bind (J8 HA ?_);have aa:(s.heap.update j (Obj.mapFields (·.setIfInBounds 1 (CK ((i:Int)+1))))).IsKeyIter j d Rm es.size ep:=
  ⟨_,EV,(Obj.cls_mapFields ..).trans hc,by rw[Xq hd];simp[rawInt]⟩
 refine wpAny_bind (wpAny_holding (wpAny_bind (wpAny_isOneOf_keyiter (s:={s with heap:=s.heap.update j (Obj.mapFields (·.setIfInBounds 1 (CK ((i:Int)+1))))}) aa.typeIs ?_)));show ZV _ (pure es[i].key) _ _ _;exact wpAny_pure (vt ⟨_,rfl,RK (hQ _ aa (Jl ..))⟩)
def done{j:Nb}{i:Nat}{Q:Option Value→Shared→Prop}(hh:A.handled=none)(st:OP)(m:MJ ep)(hi:es.size≤i)(hQ:∀g,X2 g→Q none {s with heap:=g}):ZE A (Ay Ef) Q E s:=by
 obtain⟨o,ho,hc,hd⟩:=id st;obtain⟨od,og,az,ic⟩:=id m;unfold pyNext;refine wpAny_bind (PQ (wpAny_callSpecial?_slot (name:=Str.ofString "__next__") st.typeIs Us (JQ ?_ IR)));refine wpAny_bind (zT (wpAny_bind ?_))
 first|refine wpAny_bind wx|refine wpAny_bind wz
 refine wpAny_bind (Fg ?_);have kN:Builtin.Dict_items.ownsTuple "dict_keyiterator" = false:=by decide
 simp only[kN,Ut,if_false];show ZV _ (if(Value.ref d==.none)=true then _ else _) _ _ s;rw[if_neg (show ¬((Value.ref d==.none)=true) from Zh)];refine wpAny_bind (zT (NM ?_));rw[if_neg HA];refine wpAny_bind (zT (DP ?_));rw[if_neg HA];refine wpAny_pure ?_;simp only[show ¬((i:Int)<0) from by lia,if_false,Yv,Jk hi];refine wpAny_bind ?_
 first|refine wpAny_bind wx|refine wpAny_bind wz
 show ZV _ (setField Ef 0 .none >>= _) _ _ s;refine wpAny_bind (J8 HA ?_);show ZV _ (newExc (.type "StopIteration") [] >>= _) _ _ _;refine wpAny_bind ?_;simp only[newExc,newTuple];refine wpAny_bind (wpAny_newObj_type (wpAny_bind (m:=firstArgMember _ _) (wpAny_of_eq (a:=Value.none) (by first|rfl|(simp only[firstArgMember];rfl)) (wpAny_newObj_type ?_ (by size_fits)))) (by size_fits));simp only[raiseNew];refine wpAny_bind (wpAny_handled ?_)
 first|rw[show A.in1.handled=none from hh] | rw[hh]
 refine wpAny_bind (RK (wpAny_throw ?_));refine wpAny_bind (wpAny_isInstance (T:= "StopIteration") (b:=true) ⟨_,To,rfl⟩ isSubtype_stop ?_);exact wpAny_pure (hQ _ (((Jl ..).extBut.push _).push _))
theorem src(nS:(d==sysModules)=false):KdlSrc prog w "dict" d d es.size (λi v=>∃e,es[i]?=some e∧v=e.key) (λh=>At h d es ep) where
 type:=λ_ m=>m.typeIs
 there:=λ_ m=>let⟨_,e,_⟩:=m;⟨zi,zi⟩
 keep:=λ_ _ m k=>m.keep λo e=>k d Sf o e
 notList:=by decide
 notTuple:=by decide
 hint:=λ_ _ _ _ m q=>kdl_hint_dict m.typeIs q
 iter:=λA s hh m=>by
  have lt:d<s.heap.objs.size:=let⟨_,e,_⟩:=m;Qx e;refine⟨_,λi h=>h.IsKeyIter s.heap.objs.size d i es.size ep∧At h d es ep,λ_ _ q=>iter nS m q,?_,⟨_,To,rfl,rfl⟩,m.keep λo e=>WF e⟩;exact
   {sub:=λb hb=>by simp at hb;simp[hb]
    frame:=λi h g st k=>⟨st.1.at λo e=>k _ HA o e,st.2.keep λo e=>k d HA o e⟩
    item:=λi s' Q E hi st hQ=>item st.1 st.2 hi λg a b=>hQ _ g s'.toks ⟨_,Xg hi,rfl⟩ ⟨a,st.2.keep λo e=>(b.2 d Ps).trans e⟩ λc o hc e=>(b.2 c (λz=>hc (by simp[z]))).trans e
    done:=λs' Q E st hQ=>done hh st.1 st.2 Rf λg a=>hQ g s'.toks λc o hc e=>a c o (λz=>hc (by simp[z])) e
    self:=λ_ _ _ _ st q=>wpAny_pyIter_keyiter st.1 q}
end
end RawD
namespace L2
open PySem PySem.Spec PyProof.Rows Tm
def kP(q:Str×Str):List Key:=[Cy,Sum.inr q.2]
abbrev zbx(H:Hp):List Addr→List (Str×Str)→Prop:=Paired λb r=>H b=some (.tup [xL,xM])
section
variable{X:Cx}
def zex{α β:Type}{R:α→β→Prop}{as dC:List α}(p:dC.Perm as):∀{bs:List β},J9 as bs→∃mE,mE.Perm bs∧J9 dC mE:=by
 induction p with
 |nil=>intro bs r;cases r;exact⟨[],.nil,.nil⟩
 |cons x q ih=>
  intro bs r;cases r with
  |cons r1 r2=>obtain⟨zs,h1,h2⟩:=ih r2;exact⟨_::zs,h1.cons _,EJ r1 h2⟩
 | swap x y l=>
  intro bs r;cases r with
  |cons r1 r2=>
   cases r2 with
   |cons r3 r4=>exact⟨_,List.Perm.swap ..,wW⟩
 |trans _ _ ih1 ih2=>intro bs r;obtain⟨zs,h1,h2⟩:=ih2 r;obtain⟨j6,h3,h4⟩:=ih1 h2;exact⟨j6,h3.trans h1,h4⟩
def pairs_mem{H:Hp}{as:No}{qs:Nt}(r:zbx H as qs){a:Nb}(ha:a∈as):∃r:Str×Str,H a=some (.tup [xL,xM]):=by
 induction r with
 |nil=>cases ha
 |cons h t ih=>
  rcases Qi.mp ha with zz|zz
  ·subst zz;exact⟨_,h⟩
  exact ih zz
def zhw(hc:X.calm=true):YJ (.builtin "sorted") (λxs H Q=>Ex3 λ(d:Nb) (kvs:S1 (List Key×V)) (qs:Nt)=>Aj4 (xs=[C0]) (H d=some La) (kvs.map (·.1)=qs.map kP) (∀ (l:Nb) (as:No) (ws:Nt),H l=none→ws.Perm qs→zbx H as ws→Q SO (ZR l Sl))):=by
 intro a5 s σ H xs us Q I r h;obtain⟨d,kvs,qs,rfl,hq,ek,q⟩:=h;obtain⟨u,rfl,rx⟩:=vals1 r;cases rx;obtain⟨z,lo,ts,rk,o,es,ep,e1,e2,e3,e4,e5⟩:=(show Z1 H s.heap d La from Ha hq);have il:RawD.At s.heap d es ep:=⟨o,e1,e2,e3⟩;have ae:kvs.length=ts.length:=Zr rk;have aS:es.size=ts.length:=by rw[←Zz,e4,Qa]
 have jw:zbx H (ts.map λt=>t.2.1) qs:=by
  clear e4 e5 aS ae il z q hq;induction rk generalizing qs with
  |nil=>
   cases qs with
   |nil=>exact .nil
   |cons a b=>cases ek
  |@cons p t ps ts' h1 t1 ih=>
   cases qs with
   |nil=>cases ek
   |cons a b=>rw[Qn,Qn]at ek;injection ek with k1 k2;refine .cons ?_ (ih _ k2);have:=h1.2.1;rw[k1]at this;exact this
 have nN:∀ag:Array Value,ItemsOf (λi v=>∃e,es[i]?=some e∧v=e.key) ag es.size→ag.toList=(ts.map λt=>t.2.1).map Value.ref:=λag hi=>by
  apply List.ext_getElem?;intro i;rw[Qk,Qk];by_cases ad:i<es.size
  ·have bp:i < ag.size:=by rw[hi.1];exact ad
   have a1:ag[i]?=some ag[i]:=Xg bp;obtain⟨e,h1,h2⟩:=hi.2 i _ a1;rw[Yx,a1,h2];have h3:es.toList[i]?=some e:=by rw[Yx];exact h1
   rw[e4,Qk]at h3;cases ht:ts[i]? with
   |none=>rw[ht]at h3;cases h3
   |some t=>rw[ht]at h3;have h4:entryOfKey (Ey Lj) t=e:=Qo h3;rw[←h4];rfl
  have a1:ag.toList[i]?=none:=by rw[Yx];exact Jk (by rw[hi.1];lia)
  have a2:ts[i]?=none:=Wy HB;rw[a1,a2];rfl
 have hvr:∀as:List Addr,Vals E8 (as.map Value.ref):=λas=>by
  induction as with
  |nil=>exact .nil
  |cons a r ih=>exact .cons rfl ih
 refine zfv (R:=λa7 ws=>a7.length<64→ws.Pairwise λx y=>(FD strO).kle (FH x) (FH y)) (G:=λa7=>a7=(ts.map λt=>t.2.1).map Value.ref) (λE' R hR=>zho (RawD.src lo) (show X.A.in1.handled=none from I.ok.hd hc) il HB λg tk ag k le hi=>hR g tk _ k le (nN ag hi))
  (λa7 e=>by rw[e,Qa,Qa];exact zfr ‹_› ‹_›) (λa7 e A' E' s' _ k=>?_) λa7 ws l g tk e r p1 p2 le k he=>?_
 ·have all:∀ v∈a7,∃ x y t,FE v x (.str y t):=λv hv=>by rw[e]at hv;obtain⟨a,ha,rfl⟩:=Qe.mp hv;obtain⟨rr,jl⟩:∃r:Str×Str,H a=some (.tup [xL,xM]):=pairs_mem jw ha;obtain⟨q',⟨t,rfl⟩,T⟩:=zis I jl;exact⟨_,_,t,T⟩
  refine ze3 k (λv hv=>let⟨x,y,t,T⟩:=all v hv;⟨x,_,T⟩) λv hv u hu x p q T T'=>.inr ?_;obtain⟨_,y,t,T1⟩:=all v hv;obtain⟨_,y',t',T2⟩:=all u hu;exact⟨y,t,y',t',(zgk T T1).2,(zgk T' T2).2⟩
 subst r;obtain⟨as,rfl,p3⟩:∃as:List Addr,ws=as.map Value.ref∧as.Perm (ts.map λt=>t.2.1):=by
  have key:∀{ws:Nj} {bs:No},ws.Perm (bs.map Value.ref)→∃as:List Addr,ws=as.map Value.ref∧as.Perm bs:=λ{ws bs} pm=>by
   have a2:∃as:List Addr,ws=as.map Value.ref:=by
    have a1:∀v∈ws,∃a,v=Value.ref a:=λv hv=>by obtain⟨a,_,e⟩:=Qe.mp xu;exact⟨a,e.symm⟩
    clear pm;induction ws with
    |nil=>exact⟨[],rfl⟩
    |cons v r ih=>obtain⟨as,e⟩:=ih λv hv=>a1 v wo;obtain⟨x,e2⟩:=a1 v Qc;exact⟨x::as,by rw[e,e2];rfl⟩
   obtain⟨as,rfl⟩:=a2;refine⟨as,rfl,?_⟩;have:=pm.map (λv=>match v with | .ref a=>a|_=>0);rw[Zg,Zg]at this;simpa[Function.comp_def] using this
  exact key p1
 obtain⟨qs',q1,q2⟩:=zex p3 jw;refine⟨SO,_,I.laid (t':=tk) k le (show Z1 _ g _ (HR _) from⟨?_,as.map Value.ref,e,hvr as,he⟩),rfl,q l as qs' wq q1 q2⟩;rw[Qa,p3.length_eq,Qa];exact zfr ‹_› ‹_›
end
end L2
namespace L2
open PySem PySem.Spec PyProof.Rows
def fsk{N P:Ng}{sc:Scope}(a:sc.kind=.function:=by rfl)(b:sc.isCoroutine=false:=by rfl)(c:sc.isGenerator=false:=by rfl)(d:N.Nodup:=by decide+kernel)(e:N.take P.length=P:=by rfl)(f:∀x∈P,sc.names.lookup x=some .local∨sc.names.lookup x=some .cell:=by decide+kernel)(g:∀y∈sc.names,y.2≠.free:=by decide+kernel):zam N P sc:=⟨a,b,c,d,e,f,g⟩
section
variable{X:Cx}
def zax(i:Nat){x:Str}{e:Expr}{te:TE}{pos aP:Pos}(hN:X.N.Nodup)(he:Cj)(hi:X.N[i]?=some x:=by rfl)(hx:Y9 x:=by exact Or.inl rfl)(hs:swapsWith e (HW xi) pos.line X.env=pure false:=by rfl)(hf:X.fn x=true∨X.env.scope.names.lookup x=some .local:=by first|exact .inl rfl|exact .inr rfl|assumption) :
  PS X (.Assign [xi] e pos) (tAsg te Iq):=zfd hN hi hx he hs hf
def zal(i:Nat){x:Str}{pos:Pos}(hN:X.N.Nodup)(hi:X.N[i]?=some x:=by rfl)(hx:Y9 x:=by exact Or.inl rfl)(hf:X.fn x=true∨X.env.scope.names.lookup x=some .local:=by first|exact .inl rfl|exact .inr rfl|assumption):Fx Iq:=zi8 hN hi hx hf
def zbi{o i:Expr}{td ty:TE}{pos:Pos}(hu:X.A.units+1<cLine)(ho:ET)(hi:OZ)(hs:NoSl i:=by exact λ_ _=>rfl):Z9 yb (tDGet td ty):=pe_dget hu ho hi hs
def Fun.okL{P:Nk}{w:Nl}{K:Na}{mg:Nd}{base:Nn}{x qual:Str}{st:Stmt}{f:Nb}{fd:Nu}{N ps:Ng}{k:Nat}{sp:Sp}(F:O0)(S:Vs TM)(bz:∀ (cdv:Value) (A:Np) (outer:List Env) (s:Ni) (H:Hp) (vs:List V) (Q:VK) (E:XK),Y4 S'→sp vs H Q E →
   ∃t,PSs (WQ E).nox yh t∧t {nx:=λ_ H'=>Q .non H',rt:=Q} On H)(len:∀vs H Q E,sp vs H Q E→vs.length=ps.length:=by intro _ _ _ _ h;cases h;subst_vars;rfl):ZB (k+1) f fd ps sp:=F.ok S len bz
def chkB(sc:Scope)(M:Ng)(ix:Nr)(N:Ng)(S:Scope):Bool:=
 decide (sc.kind=.function)&&sc.names.all (λy=>decide (y.2≠.cell))&&sc.names.all (λy=>!decide (y.2=.local)||decide (sc.names.lookup y.1=some .local))&&sc.names.all (λy=>!decide (y.2=.free)||decide (S.names.lookup y.1=some .cell)||decide (S.names.lookup y.1=some .free)) &&
 decide (ix.length=M.length)&&decide M.Nodup&&(M.zip ix).all (λp=>match p.2 with
  |none=>true
  |some i=>decide (N[i]?=some p.1)&&decide (sc.names.lookup p.1=some .free))
def mkB{X:Cx}{sc S:Scope}{M N ps:Ng}{ix:Nr}(F:Vs S)(hN:X.N=N:=by exact rfl)(hS:X.env.scope=S:=by exact rfl)(h:chkB sc M ix N S=true:=by decide+kernel):YM ix:=by
 subst hN hS;unfold chkB at h;simp only[Jh,decide_eq_true_eq,Ur,Ke,Ko,decide_eq_false_iff_not]at h;obtain⟨⟨⟨⟨⟨⟨h1,h2⟩,h3⟩,h4⟩,h5⟩,h6⟩,h7⟩:=h;refine⟨h1,h2,λy hy e=>(h3 y hy).resolve_left λz=>z e,λy hy e=>?_,h5,h6,λj i x e1 e2=>?_⟩
 ·rcases h4 y hy with (z|z)|z
  ·exact absurd e z
  ·exact .inl z
  exact .inr z
 have:=h7 (x,xn) (Yb (i:=j) (by rw[List.getElem?_zip_eq_some];exact⟨e1,e2⟩));simpa using this
end
end L2
namespace K21
open PySem L2
abbrev qR:Str:= "_law_rounds_here"
abbrev qP:Str:= "_law_pot_here"
abbrev qM:Str:= "_law_size"
abbrev qO:Str:= "_law_other"
abbrev qS:Str:= "_law_script"
abbrev qN:Str:= "_law_names_here"
abbrev qB:Str:= "_law_beside"
def top(i:Nat):Stmt:=PySem.Challenge.pw_fivehues_k52_four_hues_read.main.body.getD i (.Pass ⟨0,0,0,0⟩)
def eOf:Stmt→Expr
 |.Assign _ e _=>e
 |.Return (some e) _=>e
 |.For _ e _ _ _=>e
 |.While e _ _ _=>e
 |_=>.Name "" ⟨0,0,0,0⟩
def aOf(i:Nat):Expr→Expr
 |.Call _ a _ _=>a.getD i (.Name "" ⟨0,0,0,0⟩)
 |.BinOp l _ r _=>[l,r].getD i l
 |.BoolOp _ a _=>a.getD i (.Name "" ⟨0,0,0,0⟩)
 |.Compare _ _ a _=>a.getD i (.Name "" ⟨0,0,0,0⟩)
 |e=>e
def scOf:Expr→Scope
 |.ListComp _ _ sc _=>sc
 |.DictComp _ _ _ sc _=>sc
 |_=>{kind:=.function,names:=[],isGenerator:=false,isCoroutine:=false}
abbrev sAt(s:Stmt)(i:Nat):Stmt:=(zch s).getD i (.Pass ⟨0,0,0,0⟩)
def Pot(H:Hp)(p:Nb)(b m:Int):Prop:=H p=some (.lst [xE,Rv m])∧0≤b∧0≤m∧m<2147483648
inductive IspTake(vs:List V)(H:Hp)(Q:VK):Prop
 |mk(p:Nb)(b m n:Int)(h0:vs=[.ref p,.int n])(h1:Pot H p b m)(h2:0<n)(h3:n<1073741824)(h4:∀(d b' m':Int) (H':Hp),0≤d→d<n→Pot H' p b' m'→(∀c o,H c=some o→c≠p→H' c=some o)→Q (.int d) H')
def zg0:Sp:=λvs H Q _=>IspTake vs H Q
end K21
namespace Wb
section
variable{α:Type}[DecidableEq α]
def nxt(zs:List α)(x:α):α:=zs.getD ((zs.idxOf x+1)%zs.length) x
def ins(zs:List α):Option α→α→List α
 |none,n=>n::zs
 |some c,n=>zs.take (zs.idxOf c+1)++n::zs.drop (zs.idxOf c+1)
abbrev Rs(α:Type):=List (α×List α)
def row(rs:Rs α)(x:α):List α:=((rs.find? λp=>decide (p.1=x)).map (·.2)).getD []
def za9(rs:Rs α)(x:α)(r:List α):Rs α:=rs.map λp=>if p.1=x then(p.1,r) else p
def stp(rs:Rs α)(s:α×α):α×α:=(s.2,nxt (Bw s.2) s.1)
end
end Wb
namespace K21
open PySem L2 Wb
def Keep(xs:No)(H H':Hp):Prop:=∀c o,H c=some o→c∉xs→H' c=some o
def Keep.refl:W5 H:=λ_ _ e _=>e
def Keep.trans(a:W5 H1)(b:Keep xs H1 H2):W5 H2:=λc o e n=>b c o (a c o e n) n
def Keep.sub(a:W5 H1)(h:∀x∈xs,x∈ys):Keep ys H H1:=λc o e n=>a c o e λz=>n (h c z)
def Keep.new(h:H l=none):W5 (ZR l o):=λc u e _=>by rw[zag (Fc h)];exact e
def Keep.wr(h:l∈xs):W5 (ZR l o):=λc u e n=>by rw[zag (λz=>n (HP z h))];exact e
abbrev Ent:=Str×List Str×Addr
abbrev eWV(es:List Ent):List (Key×V):=es.map λe=>RX
structure RAt(H:Hp)(d:Nb)(es:List Ent):Prop where
 dc:H d=some Ry
 ro:∀e∈es,H e.2.2=some HQ
 nd:(es.map (·.1)).Nodup
def rsOf(es:List Ent):Rs Str:=es.map λe=>(e.1,e.2.1)
def RAt.keep(r:Vx es)(k:W5 H')(hd:d∉xs)(h:∀e∈es,e.2.2∉xs):RAt H' d es:=⟨zJ,λe he=>k _ _ E9 (h e he),r.nd⟩
def zcb{es:List Ent}(nd:(es.map (·.1)).Nodup){e:Ent}(h:e∈es):valV (es.map λe=>RX) SK=some Tf:=by
 induction es with
 |nil=>cases h
 |cons a t ih=>
  rw[Qn,Qt]at nd;rw[Qn];rcases Qi.mp h with z|z
  ·subst z;exact zcj rfl
  rw[zbl]
  ·exact ih nd.2 z
  intro q;exact nd.1 (by rw[Wg q];exact Qe.mpr ⟨e,z,rfl⟩)
def val_out{es:List Ent}{x:Str}(h:x∉es.map (·.1)):valV (es.map λe=>RX) IH=none:=by
 induction es with
 |nil=>rfl
 |cons a t ih=>
  rw[Qn,Qi,not_or]at h;rw[Qn,zbl]
  ·exact ih h.2
  intro q;exact h.1 (Wg q).symm
def zay(nd:(es.map (·.1)).Nodup)(h:e∈es):ZJ e.1=e.2.1:=by
 unfold row rsOf;induction es with
 |nil=>cases h
 |cons a t ih=>
  rw[Qn,Qt]at nd;rw[Qn];rcases Qi.mp h with z|z
  ·subst z;rw[Ws HA];rfl
  rw[Wt]
  ·exact ih nd.2 z
  intro q;exact nd.1 (by rw[of_decide_eq_true q];exact Qe.mpr ⟨e,z,rfl⟩)
def setE(es:List Ent)(x:Str)(r:Ng)(a:Nb):List Ent:=es.map λe=>if e.1=x then(e.1,r,a) else e
def zda(es:List Ent)(x:Str)(r:Ng)(a:Nb):rsOf (U2 x r a)=za9 Ox x r:=by
 unfold rsOf setE za9;rw[Zg,Zg];refine Yj λe _=>?_;show(λe:Ent=>(e.1,e.2.1)) (if e.1=x then(e.1,r,a) else e)=if e.1=x then(e.1,r) else(e.1,e.2.1)
 by_cases h:e.1=x
 ·rw[if_pos h,if_pos h]
 rw[if_neg h,if_neg h]
def put_setE(h:x∈es.map (·.1)):Q5 Sg=(U2 x r a).map λe=>RX:=by
 unfold putK setE;rw[if_pos]
 ·rw[Zg,Zg];refine Yj λe _=>?_;show(if(Sum.inr e.1:Key)=Sum.inr x then((Sum.inr e.1:Key),LZ a) else(SK,PF))=(λe:Ent=>RX) (if e.1=x then(e.1,r,a) else e);by_cases q:e.1=x
  ·rw[if_pos (by rw[q]),if_pos q]
  rw[if_neg (λz=>q (Wg z)),if_neg q]
 obtain⟨e,he,rfl⟩:=Qe.mp h;exact Yi.mpr ⟨_,TW ⟨e,he,rfl⟩,HA⟩
def put_new{es:List Ent}{x:Str}{r:Ng}{a:Nb}(h:x∉es.map (·.1)):Q5 Sg=(es++[(x,r,a)]).map λe=>RX:=by rw[Gq (val_out h),Qp];rfl
def zce(es:List Ent)(x:Str)(r:Ng)(a:Nb):(U2 x r a).map (·.1)=es.map (·.1):=by unfold setE;rw[Zg];refine Yj λe _=>?_;show(if e.1=x then(e.1,r,a) else e).1=e.1;split<;>rfl
def cut_to{xs:List V}{k:Nat}(h:k≤xs.length):N8 none (some (k:Int))=xs.take k:=by
 unfold cutV;have e1:QS 0 none=0:=rfl;have e2:QS xs.length (some (k:Int))=k:=by rw[HT.sIx_nat];lia
 rw[e1,e2];simp
def zjv{xs:List V}{k:Nat}(h:k≤xs.length):N8 (some (k:Int)) none=xs.drop k:=by
 unfold cutV;have e1:QS 0 (some (k:Int))=k:=by rw[HT.sIx_nat];lia
 have e2:QS xs.length none=xs.length:=rfl;rw[e1,e2,Qr (RN Xv)]
def idx_lt{zs:Ng}{x:Str}(h:x∈zs):zs.idxOf x<zs.length:=List.idxOf_lt_length_iff.mpr h
def zjn{zs:Ng}{x:Str}(h:x∈zs):(∃ z,(zs.map V.str)[zs.idxOf x]?=some z∧eqV z Tt=true)∧∀ m z,m < zs.idxOf x→(zs.map V.str)[m]?=some z→eqV z Tt=false:=by
 refine⟨⟨Tt,?_,Il x⟩,λm z hm e=>?_⟩
 ·rw[Qk,Qb (idx_lt h),List.getElem_idxOf];rfl
 rw [Qk]at e;have bZ:m<zs.length:=Uk hm (idx_lt h);rw[Qb bZ]at e;cases e;show(zs[m]==x)=false;refine beq_eq_false_iff_ne.mpr λq=>?_;have au:∀(l:Ng) (j:Nat) (hj:j<l.length),l[j]=x→l.idxOf x≤j:=by
  intro l;induction l with
  |nil=>intro j hj;simp at hj
  | cons a t ih=>
   intro j hj e;rw[List.idxOf_cons];cases j with
   |zero=>have e':a=x:=e;rw[e'];simp
   |succ i=>
    have:=ih i (HE hj) OR;by_cases h:a=x
    ·rw[h];simp
    have hb:(a == x)=false:=beq_eq_false_iff_ne.mpr h;rw[hb];simp;assumption
 have:=au zs m bZ q;lia
def zbz(zs:Ng):(zs.map V.str).all zc4=true:=by rw[Ur];intro v hv;obtain⟨x,_,rfl⟩:=Qe.mp hv;rfl
def zbv:Option Str→V
 |none=>.non
 |some c=>.str c
end K21
namespace Wb
section
variable{α:Type}[DecidableEq α]
def itr(rs:Rs α)(s:α×α):Nat→α×α
 |0=>s
 |n+1=>stp rs (Bc s n)
def IsSt(rs:Rs α)(s:α×α):Prop:=∃p∈rs,p.1=s.2∧s.1∈p.2
def Clo(rs:Rs α):Prop:=∀s,IsSt rs s→IsSt rs (stp rs s)
def run(rs:Rs α)(s:α×α)(n:Nat):List (α×α):=(Sv n).map (Bc s)
def nodup_len{l m:List (α×α)}(nd:l.Nodup)(h:∀x∈l,x∈m):l.length≤m.length:=by
 induction l generalizing m with
 |nil=>exact Zc _
 |cons a t ih=>rw[Qt]at nd;have ha:=h a Qc;have:=ih (m:=m.erase a) nd.2 λx hx=>(Kr (λe=>nd.1 (by rw[←e];exact hx))).mpr (h x Co);rw[Yk ha]at this;have hp:0<m.length:=Ym ha;rw[Qy];lia
end
end Wb
namespace K21
open PySem L2 Wb
section
variable{P:Nk}{w:Nl}{K:Na}{mg:Nd}{base:Nn}
def zbx.keep{H H':Hp}{as:No}{qs:Nt}(r:zbx H as qs)(k:∀b x y,H b=some (.tup [x,y])→H' b=some (.tup [x,y])):zbx H' as qs:=by
 induction r with
 |nil=>exact .nil
 |cons h t ih=>exact .cons (k _ _ _ h) ih
end
end K21
namespace Wb
section
variable{α:Type}[DecidableEq α]
structure Gen(G:Rs α→Prop):Prop where
 clo:∀rs,G rs→Clo rs
 nd:∀rs,G rs→(rs.map (·.1)).Nodup
 sub:∀rs,G rs→∀p∈rs,p.2.Nodup∧∀x∈p.2,x∈rs.map (·.1)
 sy:∀rs,G rs→∀p∈rs,∀x∈p.2,p.1∈Bw x
 nil:G []
 new:∀rs x,G rs→x∉rs.map (·.1)→G (rs++[(x,[])])
 leaf:∀rs x p c,G rs→x∉rs.map (·.1)→p∈rs→(∀y,c=some y→y∈p.2)→(c=none→p.2=[])→G (za9 (za9 (rs++[(x,[])]) p.1 zm) x [p.1])
 tie:∀rs c p n,G rs→p∈rs→c∈p.2→(Bc (c,p.1) n).2≠p.1→(Bc (c,p.1) n).2∉p.2 →
  G (za9 (MK p.1 (Hd (Bc (c,p.1) n).2)) (Bc (c,p.1) n).2 (ins (Bw (Bc (c,p.1) n).2) (some (Bc (c,p.1) n).1) p.1))
def zcn{l m:List α}(nd:l.Nodup)(h:∀x∈l,x∈m):l.length≤m.length:=by
 induction l generalizing m with
 |nil=>exact Zc _
 |cons a t ih=>rw[Qt]at nd;have ha:=h a Qc;have:=ih (m:=m.erase a) nd.2 λx hx=>(Kr (λe=>nd.1 (by rw[←e];exact hx))).mpr (h x Co);rw[Yk ha]at this;have hp:0<m.length:=Ym ha;rw[Qy];lia
def Gen.rows{G:Rs α→Prop}(g:Gen G){rs:Rs α}(h:G rs):∀p∈rs,p.2.length≤rs.length:=λp hp=>by obtain⟨a,b⟩:=g.sub rs h p hp;have:=zcn a b;rwa[Qa]at this
end
end Wb
namespace K21
open PySem L2 Wb
def zg6{H:Hp}{p a:Nb}{b m:Int}{zs:Ng}(h:NN m)(ha:H a=some Iv):a≠p:=za8 ha h.1 (by
 intro z;have z':zs.map V.str=[xE,Rv m]:=by injection z
 cases zs with
 |nil=>cases z'
 |cons x t=>rw[Qn]at z';injection z' with z1 _;cases z1)
def pot_nd{H:Hp}{p d:Nb}{b m:Int}{kvs:List (Key×V)}(h:NN m)(hd:H d=some RO):d≠p:=za8 hd h.1 HJ
def Pot.keep{H H':Hp}{p:Nb}{b m:Int}{xs:No}(h:NN m)(k:W5 H')(hp:p∉xs):Bx b m:=⟨k _ _ h.1 hp,h.2⟩
def zbu{H H':Hp}{p:Nb}(h:∀c o,H c=some o→c≠p→H' c=some o):Keep [p] H H':=λc o e n=>h c o e λz=>n (by rw[z];exact Qd.mpr rfl)
section
variable{P:Nk}{w:Nl}{K:Na}{mg:Nd}{base:Nn}
def zdb{x:Str}{zs:Ng}:inV Tt Sj=decide (x∈zs):=by
 unfold inV;rw[Wd,Yi,decide_eq_true_iff];constructor
 ·rintro⟨v,hv,e⟩;obtain⟨y,hy,rfl⟩:=Qe.mp hv;have e':y=x:=eq_of_beq e;rw[←e'];exact hy
 intro h;exact⟨Tt,TW ⟨x,h,rfl⟩,Il x⟩
def zau{c:Bool}{A B:Prop}(h:c=false)(b:B):if c=true then A else B:=by rw[h];exact iteF b
def zbj{c:Bool}{A B:Prop}(h:c=true)(a:A):if c=true then A else B:=by rw[h];exact iteT a
def zh6{X:Cx}{K:Na}(hK:X.K=K)(hu:X.A.units<cLine):WP (Hb K):=hK▸zd3 hu
def rat_new(R:Vx es)(hx:x∉es.map (·.1))(ha:H a=some xz) :
  RAt (ZR d CV) d (es++[(x,r,a)]):=by
 refine⟨by rw[zab,put_new (r:=r) hx],λe he=>?_,?_⟩
 ·have key:∀ {b:Nb} {xs:List V},H b=some Tj→(ZR d (.dK (putK (es.map λe=>RX) IH Sg))) b=some Tj:=λ{b xs} hb=>by rw[zag (za8 hb R.dc HJ)];exact hb
  rcases Qm.mp he with z|z
  ·exact key (FM z)
  rw[Qd.mp z];exact key ha
 rw[Qp,Zb];refine⟨R.nd,C7 ⟨HA,Zk⟩,λy hy z hz=>?_⟩;have dq:z=x:=by simpa using hz
 rw[dq];exact λe=>hx (e▸hy)
def rat_set(R:Vx es)(hx:x∈es.map (·.1))(ha:H a=some xz) :
  RAt (ZR d CV) d (U2 x r a):=by
 refine⟨by rw[zab,put_setE (r:=r) hx],λe he=>?_,by rw[zce];exact R.nd⟩;have key:∀{b:Nb} {xs:List V},H b=some Tj→(ZR d CV) b=some Tj:=λ{b xs} hb=>by rw[zag (za8 hb R.dc HJ)];exact hb
 unfold setE at he;obtain⟨e0,h0,rfl⟩:=Qe.mp he;by_cases z:e0.1=x
 ·rw[if_pos z];exact key ha
 rw[if_neg z];exact key (R.ro e0 h0)
def zfj(es:List Ent):((eWV es).map λp=>kV p.1)=(es.map (·.1)).map V.str:=by rw[Zg,Zg];rfl
def zep(z:Str):Prop:=1≤z.length∧z.length≤8∧∀c∈z.cps.toList,97≤c∧c≤122
def zge{α β:Type}{f:α→β}{l:List α}(h:(EF f).Nodup):l.Nodup:=by
 induction l with
 |nil=>exact Zk
 |cons a t ih=>rw[Qn,Qt]at h;exact Qt.mpr ⟨λz=>h.1 (TW ⟨a,z,rfl⟩),ih h.2⟩
def zje{α β:Type}{f:α→β}{l:List α}(nd:l.Nodup)(h:∀a∈l,∀b∈l,f a=f b→a=b):(EF f).Nodup:=by
 induction l with
 |nil=>exact Zk
 |cons a t ih=>rw[Qt]at nd;rw[Qn,Qt];refine⟨λz=>?_,ih nd.2 λx hx y hy=>h x Co y Cs⟩;obtain⟨b,hb,e⟩:=Qe.mp z;exact nd.1 (h b Cu a Qc e▸hb)
def zd6{β:Type}{f:Nat→β}{n:Nat}(h:∀a,a<n→∀b,b<n→f a=f b→a=b):((Sv n).map f).Nodup:=
 zje List.nodup_range λa ha b hb=>h a (Yz.mp ha) b (Yz.mp hb)
def zav(k:W5 H')(h:H' l=none)(hx:l∉xs):H l=none:=by
 cases z:H l with
 |none=>rfl
 |some o=>rw[k _ _ z hx]at h;cases h
end
end K21
namespace K21
open PySem L2 Wb Tm
def leS_anti(a b:Str)(h:leS a b)(g:leS b a):a=b:=by have e:a.cps.toList=b.cps.toList:=List.le_antisymm (Oy h) (Oy g);cases a;cases b;congr 1;exact Array.toList_inj.mp e
end K21
namespace K21
open PySem L2 Wb
abbrev sWeb:Stmt:=top 47
abbrev sPlaces:Stmt:=Di 1
structure TAt(H:Hp)(d:Nb)(es:List Ent):Prop where
 dc:H d=some Ry
 ro:∀e∈es,H e.2.2=some (.tup CQ)
 nd:(es.map (·.1)).Nodup
def TAt.keep(r:TAt H d es)(k:W5 H')(hd:d∉xs)(h:∀e∈es,e.2.2∉xs):TAt H' d es:=⟨zJ,λe he=>k _ _ E9 (h e he),r.nd⟩
structure WAt(H:Hp)(C x dx d:Nb)(es:List Ent):Prop where
 ob:H x=some (.ins C dx [("rounds",C0)])
 ta:TAt H d es
def WAt.keep(r:WAt H C x dx d es)(k:W5 H')(hx:x∉xs)(hd:d∉xs)(h:∀e∈es,e.2.2∉xs):WJ es:=
 ⟨k _ _ r.ob hx,r.ta.keep k hd h⟩
inductive IspPlaces(C:Nb)(vs:List V)(H:Hp)(Q:VK):Prop
 |mk(x dx d:Nb)(es:List Ent)(h0:vs=[.ref x])(h1:WAt H C x dx d es)(h2:∀l,H l=none→Q (.ref l) (upd H l (.lst ((es.map (·.1)).map V.str))))
def zgm(C:Nb):Sp:=λvs H Q _=>IspPlaces C vs H Q
def refs_perm(h:ws.Perm E8):∃dC:List Addr,ws=dC.map V.ref∧dC.Perm as:=by
 have key:∀ws:List V,(∀v∈ws,∃a,v=V.ref a)→∃dC:List Addr,ws=dC.map V.ref:=by
  intro ws;induction ws with
  |nil=>intro _;exact⟨[],rfl⟩
  |cons v t ih=>intro hh;obtain⟨a,rfl⟩:=hh v Qc;obtain⟨dC,rfl⟩:=ih λv hv=>hh v wo;exact⟨a::dC,rfl⟩
 obtain⟨dC,rfl⟩:=key ws λv hv=>by obtain⟨a,_,rfl⟩:=Qe.mp (h.mem_iff.mp hv);exact⟨a,rfl⟩
 refine⟨dC,rfl,?_⟩;have:=h.map (λv:V=>match v with | .ref a=>a|_=>0);rw[Zg,Zg]at this;have e:∀l:List Addr,l.map ((λv:V=>match v with | .ref a=>a|_=>0)∘V.ref)=l:=λl=>List.map_id l;rw[e,e]at this;exact this
section
variable{P:Nk}{w:Nl}{K:Na}{mg:Nd}{base:Nn}
def scPlaces:zam ["self"] ["self"] (zah sPlaces):=fsk
def ok_places(F:QD "places" "Web.places" sPlaces f fd)(cW:KW C)(nW:Mp "rounds")(ao:mg "list" = none):ZB 1 f fd ["self"] wA:=by refine F.okL scPlaces HM;obtain⟨x,dx,d,es,rfl,wt,k⟩:=h;have hx:=wt.ob;have T:=wt.ta;refine⟨_,zaf (zas (NC Rg ao Wl (Sa P9))),vG,x,C,dx,_,vG,hx,cW,nW,rfl,d,vG,.inl T.dc,λl hl=>?_⟩;rw[zfj];exact k l hl
def zat:∀{as:List α} {bs:List β},J9 as bs→∀{i:Nat} (hi:i<as.length),∃am:i<bs.length,R as[i] bs[i]:=by
 intro as bs r;induction r with
 |nil=>intro i hi;simp at hi
 |cons h t ih=>
  intro i hi;cases i with
  |zero=>exact⟨HA,h⟩
  |succ j=>obtain⟨a,b⟩:=ih (i:=j) xT;exact⟨HE a,b⟩
end
end K21
namespace L2
open PySem
def zcy:KO st (λ_ _ _=>False):=λ_ _ _ _ _ _ h=>h.elim
def zfe(hg:Vm x)(hm:X.mg x=none)(hv:bootBuiltins x=some CY)(hn:x ≠ "__name__" :=by decide)(eZ:RP=false:=by decide):Z9 Oh (tC (.ty T)):=by intro a5 s σ H Q I h;exact BN hv ⟨.ty T,H,I,rfl,h⟩ hn eZ
end L2
namespace K21
open PySem L2 Wb
abbrev zi3:Stmt:=top 41
inductive IspIsName(vs:List V)(H:Hp)(Q:VK):Prop
 |mk(z:Str)(h0:vs=[.str z])(h1:zep z)(h2:∀H',Keep [] H H'→Q (.bl true) H')
def spIsName:Sp:=λvs H Q _=>IspIsName vs H Q
def nd1:(["sign"]:List Str).Nodup:=by decide+kernel
section
variable{P:Nk}{w:Nl}{K:Na}{mg:Nd}{base:Nn}
def scIsName:zam ["thing"] ["thing"] (zah zi3):=fsk
def ok_isname(F:QD "is_name" "is_name" zi3 f fd)(hML:mg "MOST_LETTERS" = some (Ao 8))(bd:mg "isinstance" = none)(tE:mg "str" = none)(ae:mg "len" = none)(ak:mg "all" = none):ZB 1 f fd ["thing"] spIsName:=by
 refine F.okL scIsName HM;obtain⟨z,rfl,hz,k⟩:=h;have hu:=zb7 hr;have ar  :=sizeLine_eq;refine⟨_,zad (vp (Et (zak call_isi_str Rg bd Yl (ZP (Sa (zfe (T:= "str") rfl tE PyProof.Rows.boot_str))))) L')
  (zaf (zas (zgc (zgp op_le op_le zai (zak call_len_str Rg ae Yd Ta) (zg7 (v:=.int 8) rfl hML ⟨tk,rfl⟩))
   (pe_one (J3 Rg ak Ww (zaa (zdu (M:=["sign"]) (ix:=[none]) (mkB scIsName) rfl (pi_str RQ) (Eh YX nd1)
      (λC a5 ex s H=>zb1) (λC a5 ex s H=>zgp op_le_str op_le_str pe_str RQ pe_str)) zae)))))),?_⟩
 obtain⟨hz1,cz,lR⟩:=hz;have hz1':1≤z.cps.size:=hz1;have hz2':z.cps.size≤8:=cz;refine⟨vG,z,rfl,vG,Z2 ⟨vG,z,rfl,(by show z.cps.size≤sizeLine;lia),_,vG,rfl,vG,zbj (RE (by show(1:Int)≤(z.cps.size:Int);exact zar9 ‹_›)) ⟨_,vG,rfl,vG,zbj (RE (by show(z.cps.size:Int)≤8;lia)) ?_⟩⟩⟩;have asc:z.cps.all (· < 128)=true:=by rw[Array.all_eq_true];intro i hi;have:=lR z.cps[i] (by rw[Array.mem_toList_iff];exact Array.getElem_mem hi);exact decide_eq_true HB
 refine⟨vG,z,rfl,asc,λi m ys τ H1=>Aj5 (H1=H) (m=z.cps.size-i) (i≤z.cps.size) (ys=VN LN) (Ex1 λx0=>τ=[x0]),⟨_,rfl,rfl,SW,rfl,none,rfl⟩,?_⟩;rintro i m ys τ H1 ⟨rfl,rfl,hi,rfl,x0,rfl⟩;by_cases ad:i<z.cps.size
 ·refine .inr ⟨ad,by rw[Uw];lia,?_⟩;rintro y H' ⟨rfl,c,hc,rfl⟩;obtain⟨h1,h2⟩:=lR c (by rw[Array.mem_toList_iff];exact Array.mem_of_getElem? hc);have l1:(!decide ((⟨#[c]⟩:Str).cps.toList<("a" : Str).cps.toList))=true:=by
   rw[Ko,decide_eq_false_iff_not,show("a" : Str).cps.toList=[97] from by decide+kernel];show ¬[c]<[97];intro h;have:=List.cons_lt_cons_iff.mp h;rcases this with q|⟨_,q⟩
   ·exact zar10 ‹_› ‹_›
   exact Uf _ q
  have l2:(!decide (("z" : Str).cps.toList<(⟨#[c]⟩:Str).cps.toList))=true:=by
   rw[Ko,decide_eq_false_iff_not,show("z" : Str).cps.toList=[122] from by decide+kernel];show ¬[122]<[c];intro h;have:=List.cons_lt_cons_iff.mp h;rcases this with q|⟨_,q⟩
   ·exact zar10 ‹_› ‹_›
   exact Uf _ q
  refine⟨vG,_,vG,rfl,vG,zbj l1 ⟨_,vG,rfl,_,?_,rfl,rfl,ad,?_,vG⟩⟩
  ·exact zar1 ‹_›
  rw[l2,List.replicate_succ']
 have e:i=z.cps.size:=by exact zar3 ‹_› ‹_›
 subst e;refine .inl ⟨Rf,λD hD=>⟨D,M9 true,rfl,HL (by rw[zab,Ji]),?_⟩⟩;have:(M9 true).all id=true:=by rw[Ur];intro b hb;exact(List.mem_replicate.mp hb).2
 rw[this];exact k _ Pt
end
end K21
namespace L2
open PySem
def lc_at(T:St→Prop)(ys:List V)(hl:ys.length=xs.length)(ha:YE xs)(hn:xs.length≤sizeLine)(h0:T τ)(hs:∀(i:Nat) (hi:i<xs.length) (ap:i<ys.length),∀τ,T τ→∀k:V→St→Hp→Prop,(∀τ2,T τ2→k ys[i] τ2 H)→g xs[i] τ H λ τ2 H2=>te τ2 H2 λy H4=>k y τ2 H4)(q:∀D,H D=none→Q Td (Lc D ys)):Fu H:=by
 refine⟨λi m zs τ H1=>Aj5 (H1=H) (T τ) (m=xs.length-i) (i≤xs.length) (zs=ys.take i),⟨_,rfl,h0,rfl,SW,rfl⟩,?_⟩;rintro i m zs τ H1 ⟨rfl,ht,rfl,hi,rfl⟩;by_cases ad:i<xs.length
 ·refine .inr ⟨⟨xs,xs[i],ha,xN⟩,by rw[Zo];lia,?_⟩;rintro x H' ⟨rfl,hx⟩;have dX:=hx xs ha;rw[Qb ad]at dX;have jV:xs[i]=x:=Qo dX;rw[←jV];exact hs i ad (by exact zar6 ‹_› ‹_›) τ ht (λy τ2 H4=>∃m',m'<xs.length-i∧Aj5 (H4=H') wB (m'=xs.length-Rm) (i+1≤xs.length) (ys.take i++[y]=ys.take Rm)) λ τ2 h2=>⟨_,Ra,rfl,h2,rfl,ad,by rw[Qh (by exact zar6 ‹_› ‹_›:i<ys.length)]⟩
 have e:i=xs.length:=by exact zar3 ‹_› ‹_›
 refine .inl ⟨⟨xs,ha,HB⟩,λD hD=>?_⟩;rw[Qr HB];exact q D hD
end L2
namespace K21
open PySem L2 Wb
structure RwAt(H:Hp)(l:Nb)(as:No)(es:List Ent):Prop where
 ls:H l=some Sl
 ts:Paired (λa (e:Ent)=>H a=some (.tup [Si,Tf])) as es
 ro:∀e∈es,H e.2.2=some HQ
def RwAt.keep(r:RwAt H l as es)(k:RH H):RwAt H' l as es:=
 ⟨k _ _ r.ls HA,Paired.imp' (λ_ _ h=>k _ _ h HA) r.ts,λe he=>k _ _ E9 HA⟩
abbrev zgo:Stmt:=top 42
abbrev zem:Stmt:=top 43
abbrev zi2:Stmt:=top 44
inductive zim(vs:List V)(H:Hp)(Q:VK):Prop
 |mk(l:Nb)(as:No)(es:List Ent)(h0:vs=[.ref l])(h1:RwAt H l as es)(h2:(∀e∈es,e.2.1.length≤100∧zep e.1∧∀x∈e.2.1,zep x))(h3:∀H',Keep [] H H'→Q .non H')
def spNoNames:Sp:=λvs H Q _=>zim vs H Q
inductive IspTwice(vs:List V)(H:Hp)(Q:VK):Prop
 |mk(l:Nb)(as:No)(es:List Ent)(h0:vs=[.ref l])(h1:RwAt H l as es)(h2:es.length≤60)(h3:(es.map (·.1)).Nodup)(h4:(∀e∈es,e.2.1.length≤100∧e.2.1.Nodup))(h5:∀H',Keep [] H H'→Q .non H')
def spTwice:Sp:=λvs H Q _=>IspTwice vs H Q
inductive IspOneWay(vs:List V)(H:Hp)(Q:VK):Prop
 |mk(l:Nb)(as:No)(es:List Ent)(h0:vs=[.ref l])(h1:RwAt H l as es)(h2:(es.map (·.1)).Nodup)(h3:(∀e∈es,e.1∉e.2.1∧∀x∈e.2.1,∃e'∈es,e'.1=x∧e.1∈e'.2.1))(h4:∀H',Keep [] H H'→Q .non H')
def spOneWay:Sp:=λvs H Q _=>IspOneWay vs H Q
section
variable{P:Nk}{w:Nl}{K:Na}{mg:Nd}{base:Nn}
def ze6:zam ["rows", "place", "around", "thing"] ["rows"] (zah zgo):=fsk
def ok_nonames(F:QD "refuse_no_names" "refuse_no_names" zgo f fd)(FN:QD "is_name" "is_name" zi3 fn fdn)(bN:WE fdn ["thing"] [])(mN:mg "is_name" = some (HK fn))(GN:ZB 1 fn fdn ["thing"] spIsName):ZB 2 f fd ["rows"] spNoNames:=by
 refine F.okL ze6 HM;obtain⟨l,as,es,rfl,R,hok,k⟩:=h;have hu:=zb7 hr;have ar  :=sizeLine_eq;refine⟨_,zaf (ZX wC (Ei (zal 1 ze6.nd) (Te (ML ze6.nd)))
  (zaf (ZX (EU (Mt (zbs SQ) Ss)) (NO ze6.nd)
   (zaf (Sb (Et (zcq GN hr rfl mN FN.kp bN .nil zcv Tw))))))),?_⟩
 refine⟨vG,l,rfl,⟨_,yu⟩,za2 (xs:=as.map V.ref) (λi σ H'=>Aj2 Cz (Ex3 λx1 x2 x3=>σ=[CW,x1,x2,x3])) ⟨Keep.refl,none,none,none,rfl⟩ (λi σ H' _ hh=>SqL.of (hh.1 _ _ R.ls HA)) ?_ ?_⟩
 ·rintro i y σ H1 hx ⟨k1,x1,x2,x3,rfl⟩;have hi:i<as.length:=by have:=(TJ hx).1;rwa[Qa]at this
  have iE:y=.ref as[i]:=by rw[Qk,Qb hi]at hx;exact(Qo hx).symm
  subst iE;obtain⟨am,fF⟩:=zat R.ts hi;obtain⟨eR,bB,cc⟩:=hok _ Aq;have gf:=k1 _ _ (R.ro _ Aq) HA;refine⟨as[i],vG,Rx (w8 fF),rfl,_,vG,_,vG,rfl,vG,OU,λq hq=>?_⟩;have nq:es[i].2.2≠q:=zac gf hq;refine⟨vG,q,es[i].2.2,_,vG,rfl,zab,(HZ nq gf),(by rw[Qa];show 1+_≤sizeLine;lia),λq2 cb=>?_⟩;have k2:Keep [] H (upd (QA q (.lst [.str es[i].1])) q2 (HR ([V.str es[i].1]++es[i].2.1.map V.str))):=(TX Iw).trans (HV cb);have kG:(upd (QA q (.lst [.str es[i].1])) q2 (HR ([V.str es[i].1]++es[i].2.1.map V.str))) q2=some (HR ((es[i].1::es[i].2.1).map V.str)):=zab;generalize upd (QA q (.lst [.str es[i].1])) q2 (HR ([V.str es[i].1]++es[i].2.1.map V.str))=H2 at k2 kG;refine⟨q2,rfl,⟨_,HL kG⟩,za2 (xs:=(es[i].1::es[i].2.1).map V.str) (λj σ H'=>Aj2 wD (Ex3 λx1 x2 x3=>σ=[CW,x1,x2,x3])) ⟨Keep.refl,_,_,_,rfl⟩ (λj σ H' _ hh=>SqL.of (yt kG)) ?_ ?_⟩
  ·rintro j y σ H3 hy ⟨k3,y1,y2,y3,rfl⟩;obtain⟨z,hz,rfl⟩:=Qe.mp (Yb hy);have cU:zep z:=by
    rcases Qi.mp hz with e|e
    ·rw[e];exact bB
    exact cc z e
   exact⟨vG,z,rfl,cU,λH4 k4=>⟨_,rfl,Z2 ⟨LC k4,_,_,vG⟩⟩⟩
  rintro σ H3 ⟨k3,y1,y2,y3,rfl⟩;exact⟨LY k3,_,_,vG⟩
 rintro σ H1 ⟨k1,x1,x2,x3,rfl⟩;exact k H1 k1
abbrev csTwA:Scope:=scOf (eOf (sAt zem 0))
abbrev csTwB:Scope:=scOf (aOf 1 (eOf (sAt zem 1)))
def csTwA_k:csTwA.kind=.function:=by rfl
def csTwA_c:∀y∈csTwA.names,y.2≠.cell:=by decide+kernel
def csTwA_n:∀y∈csTwA.names,y.2=.local→csTwA.names.lookup y.1=some .local:=by decide+kernel
def csTwA_f:∀y∈csTwA.names,y.2=.free→(zah zem).names.lookup y.1=some .cell∨(zah zem).names.lookup y.1=some .free:=by decide+kernel
def csTwB_k:csTwB.kind=.function:=by rfl
def csTwB_c:∀y∈csTwB.names,y.2≠.cell:=by decide+kernel
def csTwB_n:∀y∈csTwB.names,y.2=.local→csTwB.names.lookup y.1=some .local:=by decide+kernel
def csTwB_f:∀y∈csTwB.names,y.2=.free→(zah zem).names.lookup y.1=some .cell∨(zah zem).names.lookup y.1=some .free:=by decide+kernel
def ndPA:(["place", "around"]:List Str).Nodup:=by decide+kernel
def scTwice:zam ["rows", "places", "names"] ["rows"] (zah zem):=fsk
def noB(h1:sc.kind=.function)(h2:∀y∈sc.names,y.2≠.cell)(h3:∀y∈sc.names,y.2=.local→sc.names.lookup y.1=some .local)(h4:∀y∈sc.names,y.2=.free→X.env.scope.names.lookup y.1=some .cell∨X.env.scope.names.lookup y.1=some .free)(h5:n=M.length)(h6:M.Nodup):YM (B8 none):=⟨h1,h2,h3,h4,by rw[Uw,h5],h6,λj i x _ h=>by have:=Yb h;have:=(List.mem_replicate.mp this).2;cases this⟩
def zi7(hK:X.K=K)(hc:X.calm=true)(h:Gh es t)(hn:(LF es).length=n:=by rfl)(ay:(LF es).findIdx? (·.1)=none:=by rfl):N5 (gTup K n t):=hK▸zb9 hc h hn ay
def ok_twice(F:QD "refuse_twice" "refuse_twice" zem f fd)(ae:mg "len" = none)(kr:mg "set" = none):ZB 1 f fd ["rows"] spTwice:=by
 refine F.okL scTwice HM;obtain⟨l,as,es,rfl,R,bM,aE,hok,k⟩:=h;have hu:=zb7 hr;have ar  :=sizeLine_eq;refine⟨_,zad (ps_lc (i:=1) (M:=["place", "around"]) (ix:=[none,none]) scTwice.nd rfl rfl (noB (n:=2) csTwA_k csTwA_c csTwA_n csTwA_f rfl ndPA) rfl wC
   (λC a5 ex s H=>zi7 (K:=K) (n:=2) rfl rfl AD)
   (λC a5 ex s H=>zb1) Es rfl)
  (zaf (ZX (zan (Mt (zbs SQ) (zdu (M:=["place", "around"]) (ix:=[none,none]) (noB (n:=2) csTwB_k csTwB_c csTwB_n csTwB_f rfl ndPA) rfl wC
   (λC a5 ex s H=>zi7 (K:=K) (n:=2) rfl rfl AD)
   (λC a5 ex s H=>zb1) (Eh pv 1)))) (ML scTwice.nd)
   (zaf (zbg (NP (zak zj4 Rg ae Yd (Ix SR))
    (UQ Rg ae Yd SR) Sw) L' zao)))),?_⟩
 have aT:as.length=es.length:=Zr R.ts;refine⟨vG,l,rfl,⟨_,yu⟩,lc_at (xs:=as.map V.ref) (λ τ=>∃x0 x1,τ=[x0,x1]) ((es.map (·.1)).map V.str) (by rw[Qa,Qa,Qa,aT]) yu SY ⟨none,none,rfl⟩ ?_ (λD hD=>?_)⟩
 ·rintro i hi ap τ ⟨x0,x1,rfl⟩ kk hk;rw[Qa]at hi;obtain⟨am,fF⟩:=zat R.ts hi;rw[Zl];refine⟨as[i],vG,Rx fF,rfl,_,vG,_,vG,rfl,vG,?_⟩;have e:((es.map (·.1)).map V.str)[i]=V.str es[i].1:=by rw[Zl,Zl]
  rw[e]at hk;exact hk _ ⟨_,_,rfl⟩
 have k1:Keep [] H (ZR D R6):=Keep.new hD;have hD1:(ZR D R6) D=some R6:=zab;generalize ZR D R6=H1 at k1 hD1;have R1:=R.keep k1;refine⟨vG,OU,λq hq=>?_⟩;have k2:Keep [] H1 (QA q (.lst [Td])):=Keep.new hq;have cb:(QA q (.lst [Td])) q=some (.lst [Td]):=zab;generalize QA q (.lst [Td])=H2 at k2 cb;have R2:=R1.keep k2;refine⟨vG,l,rfl,⟨_,SqL.of R2.ls⟩,lc_at (xs:=as.map V.ref) (λ τ=>∃x0 x1,τ=[x0,x1]) (es.map λe=>V.ref e.2.2) (by rw[Qa,Qa,aT]) (SqL.of R2.ls) SY ⟨none,none,rfl⟩ ?_ (λD2 dj=>?_)⟩
 ·rintro i hi ap τ ⟨x0,x1,rfl⟩ kk hk;rw[Qa]at hi;obtain⟨am,fF⟩:=zat R2.ts hi;rw[Zl];refine⟨as[i],vG,Rx fF,rfl,_,vG,_,vG,rfl,vG,?_⟩;rw[Zl]at hk;exact hk _ ⟨_,_,rfl⟩
 have k3:Keep [] H2 (QI D2 (.lst (es.map λe=>V.ref e.2.2))):=Keep.new dj;have cx:(QI D2 (.lst (es.map λe=>V.ref e.2.2))) D2=some (.lst (es.map λe=>V.ref e.2.2)):=zab;generalize QI D2 (.lst (es.map λe=>V.ref e.2.2))=H3 at k3 cx;refine⟨q,D2,_,vG,rfl,Pg cb,cx,(by rw[Qa];show 1+_≤sizeLine;lia),λq4 hq4=>?_⟩;have k4:Keep [] H3 (Q4 q4 (.lst ([LZ D]++es.map λe=>V.ref e.2.2))):=Keep.new hq4;have kF:(Q4 q4 (.lst ([LZ D]++es.map λe=>V.ref e.2.2))) q4=some (.lst ([LZ D]++es.map λe=>V.ref e.2.2)):=zab;generalize Q4 q4 (.lst ([LZ D]++es.map λe=>V.ref e.2.2))=H4 at k4 kF;have fU:Keep [] H H4:=((TX k2).trans k3).trans k4;refine⟨q4,rfl,⟨_,HL kF⟩,za2 (xs:=[LZ D]++es.map λe=>V.ref e.2.2) (λi σ H'=>Aj2 (RH H4) (Ex2 λx1 x2=>σ=[CW,x1,x2])) ⟨Keep.refl,_,_,rfl⟩ (λi σ H' _ hh=>SqL.of (yt kF)) ?_ ?_⟩
 ·rintro i y σ H5 hy ⟨k5,x1,x2,rfl⟩;obtain⟨a,zs,rfl,ha,cU,bW⟩:∃(a:Nb) (zs:Ng),y=V.ref a∧H5 a=some Iv∧zs.Nodup∧zs.length≤100:=by
   rcases Qm.mp (Yb hy) with z|z
   ·refine⟨D,es.map (·.1),CI z,?_,aE,by rw[Qa];exact Zi bM HH⟩;exact k5 _ _ (k4 _ _ (Pg (Ce hD1)) HA) HA
   obtain⟨e,he,rfl⟩:=Qe.mp z;exact⟨e.2.2,e.2.1,rfl,IN (fU _ _ (FM he) HA),(hok e he).2,(hok e he).1⟩
  refine⟨vG,a,zs,rfl,zZ,cU,HB,λt ht=>?_⟩;have sE:a≠t:=zac ha ht;exact⟨t,zs,rfl,zab,HB,vG,a,vG,Sr (by rw[zag sE];exact ha),_,vG,rfl,vG,zau (decide_eq_false SY) ⟨xO,_,vG⟩⟩
 rintro σ H5 ⟨k5,x1,x2,rfl⟩;exact k H5 (fU.trans k5)
abbrev sLeast:Stmt:=top 46
inductive IspLeast(vs:List V)(H:Hp)(Q:VK):Prop
 |mk(a:Nb)(zs:Ng)(h0:vs=[.ref a])(h1:H a=some (.lst (zs.map V.str)))(h2:zs.length≤100)(h3:∀(t:Nb) (j:Nat) (H':Hp),j≤zs.length→H' t=some (.tup ((zs.drop j++zs.take j).map V.str))→H t=none→Keep [] H H'→Q (.ref t) H')
def spLeast:Sp:=λvs H Q _=>IspLeast vs H Q
def paired_map{α β γ:Type}{R:α→γ→Prop}{f:β→γ}:∀{as:List α} {bs:List β},Paired (λa b=>R a (f b)) as bs→J9 as (bs.map f):=by
 intro as bs r;induction r with
 |nil=>exact .nil
 |cons h t ih=>exact .cons h ih
def ze5:zam ["rows", "rounds", "one", "around", "other"] ["rows"] (zah zi2):=fsk
def ok_oneway{f:Nb}{fd:Nu}(F:QD "refuse_one_way" "refuse_one_way" zi2 f fd)(aO:mg "dict" = none):ZB 1 f fd ["rows"] spOneWay:=by
 refine F.okL ze5 HM;obtain⟨l,as,es,rfl,R,aE,hok,k⟩:=h;have hu:=zb7 hr;have ar  :=sizeLine_eq;refine⟨_,zad (NQ ze5.nd (zbc (zhx rfl) Rg aO Uj Ta))
  (zaf (ZX wC (Ei (ML ze5.nd) (Te (NO ze5.nd)))
   (zaf (ZX (EU Sn) (Vy ze5.nd)
    (zaf (Em (JH Ia Pu) (zd0 (KK Ia (pe_dget2 hu Rz Ib Tq ⟨rfl,rfl,rfl,rfl⟩) rfl)))))))),?_⟩
 have hps:(es.map λe:Ent=>(e.1,PF)).map (·.1)=es.map (·.1):=by rw[Zg];rfl
 refine⟨vG,l,as,es.map λe=>(e.1,PF),rfl,R.ls,paired_map R.ts,HP hps aE,λd hd=>?_⟩;have hpd:((es.map λe:Ent=>(e.1,PF)).map λp=>((Sum.inr p.1:Key),p.2))=eWV es:=by rw[Zg];rfl
 rw[hpd];have k1:Keep [] H (ZR d Ry):=Keep.new hd;have mr:(ZR d Ry) d=some Ry:=zab;generalize ZR d Ry=H1 at k1 mr;have R1:=R.keep k1;refine⟨vG,l,rfl,⟨_,SqL.of R1.ls⟩,za2 (xs:=as.map V.ref) (λi σ H'=>Aj2 wE (Ex3 λx2 x3 x4=>σ=[CW,Lb,x2,x3,x4])) ⟨Keep.refl,none,none,none,rfl⟩ (λi σ H' _ hh=>SqL.of (hh.1 _ _ R1.ls HA)) ?_ ?_⟩
 ·rintro i y σ H2 hx ⟨k2,x2,x3,x4,rfl⟩;have hi:i<as.length:=by have:=(TJ hx).1;rwa[Qa]at this
  have iE:y=.ref as[i]:=by rw[Qk,Qb hi]at hx;exact(Qo hx).symm
  subst iE;obtain⟨am,fF⟩:=zat R1.ts hi;obtain⟨bB,cc⟩:=hok _ Aq;have gf:=k2 _ _ (R1.ro _ Aq) HA;refine⟨as[i],vG,Rx (Ce fF),rfl,_,vG,_,vG,rfl,vG,es[i].2.2,rfl,⟨_,HL gf⟩,za2 (xs:=es[i].2.1.map V.str) (λj σ H'=>Aj2 wD (Ex1 λx4=>σ=[CW,Lb,HW (.str es[i].1),HW (.ref es[i].2.2),x4])) ⟨Keep.refl,_,rfl⟩ (λj σ H' _ hh=>SqL.of (yt gf)) ?_ ?_⟩
  ·rintro j y σ H3 hy ⟨k3,y4,rfl⟩;obtain⟨z,hz,rfl⟩:=Qe.mp (Yb hy);obtain⟨e',bi,r9,aw⟩:=cc z hz;have au:z≠es[i].1:=λq=>bB (q▸hz);have pA:=k3 _ _ (Ce mr) HA;refine⟨vG,vG,rfl,vG,zau (decide_eq_false (λq=>au (by injection q))) ⟨vG,vG,d,rfl,.inl ⟨_,Rq pA⟩,vG,Cm,λq hq=>?_⟩⟩;have ndq:d≠q:=zac pA hq;have uF:(Q4 q RM) d=some Ry:=by rw[zag ndq];exact pA
   have jo:(Q4 q RM) e'.2.2=some (HR (e'.2.1.map V.str)):=by have h3:=k3 _ _ (Ce (R1.ro e' bi)) HA;rw[zag (yp h3 hq)];exact h3
   have dg:=DGet.k (k:=Sum.inr z) uF;rw[←r9,zcb aE bi,r9]at dg;exact⟨_,dg,e'.2.2,vG,Sr jo,rfl,PH,vG,zau (by rw[if_pos rfl,zdb,decide_eq_true aw];rfl) ⟨LC Iw,vG⟩⟩
  rintro σ H3 ⟨k3,y4,rfl⟩;exact⟨LY k3,_,_,vG⟩
 rintro σ H2 ⟨k2,x2,x3,x4,rfl⟩;exact k H2 (TX k2)
def scLeast:zam ["around", "at"] ["around"] (zah sLeast):=fsk
def ok_least(F:QD "from_least" "from_least" sLeast f fd)(kU:mg "min" = none)(km:mg "tuple" = none):ZB 1 f fd ["around"] spLeast:=by
 refine F.okL scLeast HM;obtain⟨a,zs,rfl,ha,hz,k⟩:=h;have ar  :=sizeLine_eq;refine⟨_,zad (NQ scLeast.nd (pe_ifExp (zfb RQ (by intro _;rfl)) (VP RQ (Sa (zak (zj2 rfl) Rg kU PyProof.Rows.boot_min Ta))) zai))
  (zaf (zas (zbc zj1 Rg km PyProof.Rows.boot_tuple (Sa (Mt (JI yw zdm) (JI zdm yw)))))),?_⟩
 have aN:(zs.map V.str).length=zs.length:=Qa ..;refine⟨vG,_,.inl ⟨_,zZ,rfl⟩,?_⟩;by_cases sS:zs=[]
 ·refine zau (by rw[sS];rfl) ?_;have h0:0≤zs.length:=Zc _;refine⟨vG,vG,vG,a,vG,zZ,λp1 h1=>?_⟩;have n1:a≠p1:=zac ha h1;refine⟨vG,vG,vG,a,vG,HL (by rw[zag n1];exact ha),λp2 h2=>?_⟩;have fS:p1≠p2:=zac (o:=_) zab h2;refine⟨p1,p2,_,vG,rfl,yx,zab,?_,λp3 h3=>?_⟩
  ·have q1:=By (HW (0:Int)) none;have q2:=By none (HW (0:Int));rw[aN]at q1 q2;show _+_≤sizeLine;lia
  have ecut:YS (HW (0:Int)) none++YS none (HW (0:Int))=(zs.drop (0:Nat)++zs.take (0:Nat)).map V.str:=by show YS (HW (((0:Nat)):Int)) none++YS none (HW (((0:Nat)):Int))=_;rw[zjv (HP aN h0),cut_to (HP aN h0),Qp,Xj,Je]
  rw[ecut];refine⟨p3,vG,.inl ⟨Ls,λt ht=>?_⟩⟩;have kk:Keep [] H _:=(((HV h1).trans Pw).trans Px).trans (Keep.new (o:=.tup ((zs.drop (0:Nat)++zs.take (0:Nat)).map V.str)) ht);exact k t (0:Nat) _ h0 zab (zav (xs:=[]) (((HV h1).trans Pw).trans Px) ht HA) kk
 refine zbj (by cases hh:zs with
  |nil=>exact absurd hh sS
  |cons _ _=>rfl) ?_
 refine⟨vG,.inl ⟨rfl,_,zZ⟩,vG,a,zs,rfl,zZ,sS,λz cV _=>?_⟩;obtain⟨i1,i2⟩:=zjn cV;have hj:zs.idxOf z≤zs.length:=Ud (idx_lt cV);refine⟨a,_,_,vG,rfl,ha,rfl,PH,i1,i2,vG,vG,vG,a,vG,zZ,λp1 h1=>?_⟩;have n1:a≠p1:=zac ha h1;refine⟨vG,vG,vG,a,vG,HL (by rw[zag n1];exact ha),λp2 h2=>?_⟩;have fS:p1≠p2:=zac (o:=_) zab h2;refine⟨p1,p2,_,vG,rfl,yx,zab,?_,λp3 h3=>?_⟩
 ·have q1:=By (HW (TV:Int)) none;have q2:=By none (HW (TV:Int));rw[aN]at q1 q2;show _+_≤sizeLine;lia
 have ecut:YS (HW (TV:Int)) none++YS none (HW (TV:Int))=(zs.drop TV++zs.take TV).map V.str:=by rw[zjv Aa,cut_to Aa,Qp,Xj,Je]
 rw[ecut];refine⟨p3,vG,.inl ⟨Ls,λt ht=>?_⟩⟩;have kk:Keep [] H _:=(((HV h1).trans Pw).trans Px).trans (Keep.new (o:=.tup ((zs.drop TV++zs.take TV).map V.str)) ht);exact k t TV _ hj zab (zav (xs:=[]) (((HV h1).trans Pw).trans Px) ht HA) kk
end
end K21
namespace Wb
section lk
variable{β:Type}
def Lk(f:β→β):β→List β→β→Prop
 |s,[],e=>f s=e
 |s,x::t,e=>f s=x∧MM x t e
def zic:∀{A:List β} {s:β},MM s (A++x::B) e↔MM s A x∧MM x B e:=by
 intro A;induction A with
 |nil=>intro s;exact Iff.rfl
 |cons a t ih=>intro s;show f s=a∧MM a (t++x::B) e↔(f s=a∧MM a t x)∧MM x B e;rw[ih,and_assoc]
def lk_congr:∀{t:List β} {s:β},(∀y,y=s∨y∈t→g y=f y)→MM s t e→Lk g s t e:=by
 intro t;induction t with
 |nil=>intro s h k;exact(h s Sf).trans k
 |cons a t ih=>
  intro s h k;refine⟨(h s Sf).trans k.1,ih (λy hy=>h y (.inr ?_)) k.2⟩;rcases hy with z|z
  ·rw[z];exact Qc
  exact QR z
def Cyc(f:β→β)(c:List β):Prop:=∃s t,c=s::t∧MM s t s
def zdc(h:Cyc f (A++x::B)):MM x (B++A) x:=by
 obtain⟨s,t,e,k⟩:=h;cases A with
 |nil=>cases e;rw[Zt];exact k
 |cons a A'=>cases e;obtain⟨k1,k2⟩:=zic.mp k;exact zic.mpr ⟨k2,k1⟩
def zfm(h:∀y∈c,g y=f y)(k:Cyc f c):Cyc g c:=by obtain⟨s,t,e,k⟩:=k;subst e;exact⟨s,t,rfl,lk_congr (λy hy=>h y Tx) k⟩
end lk
section nx
variable{α:Type}[DecidableEq α]
def zbd{A B:List α}{w:α}(h:w∉A):(B++A++[w]).head?=some (nxt (A++w::B) w):=by
 have hi:(A++w::B).idxOf w=A.length:=by rw[List.idxOf_append,if_neg h,List.idxOf_cons_self];lia
 unfold nxt;rw[hi,Za,Qy];cases B with
 |nil=>
  have e:(A.length+1)%(A.length+(([]:List α).length+1))=0:=by simp
  rw[e];cases A with
  |nil=>rfl
  |cons a t=>rfl
 | cons b t=>
  have e:(A.length+1)%(A.length+((b::t).length+1))=A.length+1:=Nat.mod_eq_of_lt (Rc Qy);rw[e];have:(A++w::b::t).getD (A.length+1) w=b:=by
   rw[Ze,Xa (by exact FA _)];have:A.length+1-A.length=1:=by lia
   rw[this];rfl
  rw[this];rfl
def zb6{zs:List α}{c:α}(h:c∈zs)(nd:zs.Nodup):∃A B,zs=A++c::B∧c∉A∧c∉B:=by
 obtain⟨A,B,e⟩:=Yq h;refine⟨A,B,e,?_,?_⟩
 ·rw[e,Zb]at nd;exact λz=>nd.2.2 _ z _ Qc rfl
 rw[e,Zb,Qt]at nd;exact nd.2.1.1
def zdg{A B:List α}{c n:α}(h:c∉A):ins (A++c::B) (HW c) n=A++c::n::B:=by
 have hi:(A++c::B).idxOf c=A.length:=by rw[List.idxOf_append,if_neg h,List.idxOf_cons_self];lia
 show(A++c::B).take ((A++c::B).idxOf c+1)++n::(A++c::B).drop ((A++c::B).idxOf c+1)=_;rw[hi];have e1:(A++c::B).take (A.length+1)=A++[c]:=by
  rw[List.take_append,Qr (by exact FA _)];have:A.length+1-A.length=1:=by lia
  rw[this];rfl
 have e2:(A++c::B).drop (A.length+1)=B:=by
  rw[List.drop_append,Um (by exact FA _)];have:A.length+1-A.length=1:=by lia
  rw[this];rfl
 rw[e1,e2,Qw];rfl
variable{zs:List α}{c n:α}
def zd7(hc:c∈zs)(nd:zs.Nodup){w:α}:w∈U3 n↔w=n∨w∈zs:=by
 obtain⟨A,B,rfl,h1,h2⟩:=Dj nd;rw[zdg h1];simp only[Qm,Qi];constructor
 ·rintro (h|h|h|h)
  ·exact .inr P4
  ·exact .inr (SJ P4)
  ·exact .inl h
  exact .inr zo
 rintro (h|h|h|h)
 ·exact .inr (SJ P4)
 ·exact .inl h
 ·exact .inr P4
 exact .inr zo
def zjg(hc:c∈zs)(nd:zs.Nodup):(U3 n).length=zs.length+1:=by obtain⟨A,B,rfl,h1,h2⟩:=Dj nd;rw[zdg h1];simp only[Za,Qy];lia
def nd_ins(hc:c∈zs)(nd:zs.Nodup)(hn:n∉zs):(U3 n).Nodup:=by
 obtain⟨A,B,rfl,h1,h2⟩:=Dj nd;rw[zdg h1];rw[Zb,Qt]at nd;rw[Qm,Qi,not_or,not_or]at hn;obtain⟨nA,⟨ncB,nB⟩,nAB⟩:=nd;rw[Zb,Qt,Qt];refine⟨nA,⟨?_,hn.2.2,nB⟩,λa ha b hb=>?_⟩
 ·rw[Qi,not_or];exact⟨λe=>hn.2.1 e.symm,ncB⟩
 rcases Qi.mp hb with z|z
 ·rw[z];exact nAB a ha c Qc
 rcases Qi.mp z with y|y
 ·rw[y];exact λe=>hn.1 (e▸ha)
 exact nAB a ha b (QR y)
def zfh(hc:c∈zs)(nd:zs.Nodup):FQ c=n:=by obtain⟨A,B,rfl,h1,h2⟩:=Dj nd;rw[zdg h1];have k:=zbd (B:=n::B) h1;exact(Qo k).symm
def zfg(hc:c∈zs)(nd:zs.Nodup)(hn:n∉zs):FQ n=XH c:=by
 obtain⟨A,B,rfl,h1,h2⟩:=Dj nd;rw[zdg h1];rw[Qm,Qi,not_or,not_or]at hn;have e:A++c::n::B=(A++[c])++n::B:=by rw[Qw];rfl
 have u9:n∉A++[c]:=by rw[Qm,not_or,Qd];exact⟨hn.1,hn.2.1⟩
 have k1:=zbd (B:=B) u9;have k2:=zbd (B:=B) h1;rw[←e]at k1;refine Qo (k1.symm.trans (Eq.trans ?_ k2));cases B with
 |cons b t=>rfl
 |nil=>cases A with
  |nil=>rfl
  |cons a t=>rfl
def zd5(hc:c∈zs)(nd:zs.Nodup)(hn:n∉zs){w:α}(hw:w∈zs)(sX:w≠c):FQ w=XH w:=by
 obtain⟨A,B,rfl,h1,h2⟩:=Dj nd;rw[zdg h1];rw[Zb,Qt]at nd;obtain⟨nA,⟨ncB,nB⟩,nAB⟩:=nd;rw[Qm,Qi,not_or,not_or]at hn;rcases Qm.mp hw with h|h
 ·obtain⟨A1,A2,rfl,g1,g2⟩:=zb6 h nA;have k1:=zbd (A:=A1) (B:=A2++c::n::B) g1;have k2:=zbd (A:=A1) (B:=A2++c::B) g1;rw[Qw,Uc,Qw,Uc];refine Qo (k1.symm.trans (Eq.trans ?_ k2));cases A2<;>rfl
 rcases Qi.mp h with z|z
 ·exact absurd z sX
 obtain⟨B1,B2,rfl,g1,g2⟩:=zb6 z nB;have hwA:w∉A:=λq=>nAB _ q _ (QR z) rfl;have dY:w≠n:=λq=>hn.2.2 (q▸z);have m1:w∉A++c::n::B1:=by simp only[Qm,Qi,not_or];exact⟨hwA,sX,dY,g1⟩
 have m2:w∉A++c::B1:=by simp only[Qm,Qi,not_or];exact⟨hwA,sX,g1⟩
 have k1:=zbd (B:=B2) m1;have k2:=zbd (B:=B2) m2;have e1:A++c::n::(B1++w::B2)=(A++c::n::B1)++w::B2:=by rw[Qw];rfl
 have e2:A++c::(B1++w::B2)=(A++c::B1)++w::B2:=by rw[Qw];rfl
 rw[e1,e2];refine Qo (k1.symm.trans (Eq.trans ?_ k2));cases B2 with
 |cons b t=>rfl
 |nil=>cases A<;>rfl
def nxt_rot(nd:zs.Nodup)(k:Nat){w:α}(hw:w∈zs):nxt (zs.drop k++zs.take k) w=XH w:=by
 obtain⟨A,B,rfl,h1,h2⟩:=zb6 hw nd;have k2:=zbd (B:=B) h1;by_cases hk:k≤A.length
 ·have e:(A++w::B).drop k++(A++w::B).take k=A.drop k++w::(B++A.take k):=by
   rw[List.drop_append,List.take_append];have:k-A.length=0:=by lia
   rw[this,List.drop_zero,Kz,Zt,Qw];rfl
  have k1:=zbd (A:=A.drop k) (B:=B++A.take k) (λz=>h1 (Os z));rw[e];refine Qo (k1.symm.trans (Eq.trans ?_ k2));rw[Qw B,Wm]
 have e:(A++w::B).drop k++(A++w::B).take k=(B.drop (k - A.length - 1)++A)++w::B.take (k - A.length - 1):=by
  rw[List.drop_append,List.take_append,Um HB,Qr HB];have:k-A.length=(k-A.length-1)+1:=by lia
  conv=>lhs;rw[this]
  rw[List.drop_succ_cons,List.take_succ_cons,Wp,Qw]
 have k1:=zbd (A:=B.drop (k-A.length-1)++A) (B:=B.take (k-A.length-1)) (λz=>by
  rcases Qm.mp z with y|y
  ·exact h2 (Os y)
  exact h1 y)
 rw[e];refine Qo (k1.symm.trans (Eq.trans ?_ k2));rw[←Qw,Wm]
end nx
section
variable{α:Type}[DecidableEq α]
def st(r:α→List α)(s:α×α):α×α:=(s.2,nxt (r s.2) s.1)
inductive Conn(r:α→List α)(x:α):α→Prop
 |refl:Conn r x x
 |step {y z:α}:Conn r x y→z∈r y→Conn r x z
def Conn.trans{r:α→List α}{x y z:α}(a:WR y)(b:Conn r y z):WR z:=by
 induction b with
 |refl=>exact a
 |step _ h ih=>exact .step ih h
def Conn.mono(h:∀x y,y∈r x→y∈r' x)(a:WR y):Y6 x y:=by
 induction a with
 |refl=>exact .refl
 |step _ hz ih=>exact .step ih (h _ _ hz)
def wt(ns:List α)(r:α→List α)(a9:α→α)(t:α):Int:=(ns.map λx=>if a9 x=t then 2+(if r x=[] then 2 else 0)-((r x).length:Int) else 0).sum
def ct(cs:wX (α×α))(a9:α→α)(t:α):Int:=(cs.map λc=>if(c.any λs=>decide (a9 s.1=t))=true then(2:Int) else 0).sum
structure Cert(ns:List α)(r:α→List α)(cs:List (List (α×α)))(a9:α→α):Prop where
 nd:ns.Nodup
 ro:∀x,x∉ns→r x=[]
 rn:∀x,(r x).Nodup
 ir:∀x,x∉r x
 sy:∀x y,y∈r x→x∈r y
 cf:cs.flatten.Nodup
 cm:∀s,s∈cs.flatten↔s.1∈r s.2
 cy:∀c∈cs,Cyc (st r) c
 ln:∀x∈ns,a9 x∈ns
 la:∀x y,y∈r x→a9 y=a9 x
 co:∀x∈ns,∀y∈ns,a9 x=a9 y→WR y
 eu:∀x∈ns,WZ (a9 x)+WS (a9 x)=4
end
section
variable{α:Type}[DecidableEq α] {ns:List α}{r r':α→List α}{cs:List (List (α×α))}{a9:α→α}
def Cert.inn(C:QN a9){x y:α}(h:y∈r x):x∈ns:=Jy λz=>by rw[Dk z]at h;cases h
def Cert.inn'(C:QN a9){x y:α}(h:y∈r x):y∈ns:=C.inn (C.sy x y h)
def zfu{g g':α→Int}:∀ {l:List α},l.Nodup→a∈l→(∀ x∈l,x≠a→g' x=g x)→(EF g').sum=(EF g).sum+(g' a - g a):=by
 intro l;induction l with
 |nil=>intro _ h;cases h
 | cons b t ih=>
  intro nd h e;rw[Qt]at nd;rw[Qn,Qn,Zn,Zn];by_cases hb:b=a
  ·have:(t.map g').sum=(t.map g).sum:=by congr 1;exact Yj λx hx=>e x Co λz=>nd.1 (by rw[hb,←z];exact hx)
   rw[this,hb];lia
  have h':a∈t:=by
   rcases Qi.mp h with z|z
   ·exact absurd z.symm hb
   exact z
  rw[ih nd.2 h' λx hx=>e x Co,e b Qc hb];lia
def zcr{β:Type}{g g':β→Int}{l:List β}(h:∀x∈l,g' x=g x):(EF g').sum=(EF g).sum:=by congr 1;exact Yj h
def zjz(C:QN a9){N R:List (S1 (α×α))}{c0 news:List (α×α)}(hR:∀c∈R,c∈cs)(c7:cs.flatten.Perm (c0++R.flatten))(hN:N.flatten.Perm (news++c0))(aE:news.Nodup)(dI:∀s∈news,s.1∉r s.2)(hmem:∀s:α×α,s.1∈r' s.2↔s∈news∨s.1∈r s.2)(pC:∀c∈N,UJ c)(ay:∀s:α×α,s.1∈r s.2→s∉c0→st r' s=B9 s) :
  (N++R).flatten.Nodup∧(∀s,s∈(N++R).flatten↔s.1∈r' s.2)∧∀c∈N++R,UJ c:=by
 have hp:(N++R).flatten.Perm (news++cs.flatten):=by rw[Wv];refine(NA hN).trans ?_;rw[Qw];exact Mh c7.symm
 refine⟨?_,λs=>?_,λc hc=>?_⟩
 ·rw[hp.nodup_iff,Zb];exact⟨aE,C.cf,λa ha b hb e=>dI a ha (by rw[e];exact(Oz b).mp hb)⟩
 ·rw[hp.mem_iff,Qm,hmem,C.cm]
 rcases Qm.mp hc with z|z
 ·exact pC c z
 refine zfm (λy hy=>?_) (Bz (hR c z));have hyR:y∈R.flatten:=Zv.mpr ⟨c,z,hy⟩;refine ay y ((Oz y).mp (c7.mem_iff.mpr (WI hyR))) λqE=>?_;have:=c7.nodup_iff.mp C.cf;rw[Zb]at this;exact this.2.2 y qE y hyR rfl
def zed{β:Type}{g:β→Int}:∀{l:List β},(∀x∈l,g x=0)→(EF g).sum=0:=by
 intro l;induction l with
 |nil=>intro _;rfl
 |cons a t ih=>intro h;rw[Qn,Zn,h a Qc,ih λx hx=>h x Co];rfl
def Cert.inc(C:QN a9){c:List (α×α)}(hc:c∈cs){s:α×α}(hs:s∈c):s.1∈r s.2:=(Oz s).mp (yz ⟨c,hc,hs⟩)
def ct_lab{ah:α→α}{t:α}(h:∀c∈cs,∀s∈c,ah s.1=a9 s.1):ct cs ah t=WS t:=by
 refine zcr λc hc=>?_;have:(c.any λs=>decide (ah s.1=t))=c.any λs=>decide (a9 s.1=t):=by
  rw[Wd,Yi,Yi];constructor
  ·rintro⟨s,hs,e⟩;exact⟨s,hs,by rwa[h c hc s hs]at e⟩
  rintro⟨s,hs,e⟩;exact⟨s,hs,by rw[h c hc s hs];exact e⟩
 rw[this]
def cert_new(C:QN a9){x:α}(hx:x∉ns){ah:α→α}(hl:∀y∈ns,ah y=a9 y)(bC:ah x=x):Cert (ns++[x]) r cs ah:=by
 have hrx:r x=[]:=Dk hx;have ne:∀{y},y∈ns→y≠x:=λ{y} hy e=>hx (e▸hy);have aw:∀c∈cs,∀s∈c,s.1∈ns:=λc hc s hs=>C.inn' (Xy hs);have mt:∀t,ct cs ah t=WS t:=λt=>ct_lab λc hc s hs=>hl _ (aw c hc s hs);have lx:∀y∈ns,a9 y≠x:=λy hy e=>hx (e▸C.ln y hy);have uH:WS x=0:=zed λc hc=>if_neg λz=>by obtain⟨s,hs,e⟩:=Yi.mp z;exact lx _ (aw c hc s hs) (Tn e)
 have hw:∀t,wt (ns++[x]) r ah t=WZ t+if x=t then 4 else 0:=λt=>by
  unfold wt;rw[Qp,List.sum_append,Qn,Jj,Zn,List.sum_nil];congr 1
  ·exact zcr λz hz=>by rw[hl z hz]
  rw[bC,hrx];simp
 refine⟨?_,λy hy=>C.ro y λz=>hy (YG z),C.rn,C.ir,C.sy,C.cf,C.cm,C.cy,λy hy=>?_,λy z hz=>?_,λy hy z hz e=>?_,λy hy=>?_⟩
 ·rw[Zb];exact⟨C.nd,C7 ⟨HA,Zk⟩,λa ha b hb=>by rw[Qd.mp hb];exact ne ha⟩
 ·rcases Qm.mp hy with h|h
  ·rw[hl y h];exact YG (C.ln y h)
  rw[Qd.mp h,bC];exact WI Qc
 ·rw[hl _ (C1 hz),hl _ (OA hz)];exact C.la y z hz
 ·rcases Qm.mp hy with h|h <;> rcases Qm.mp hz with g|g
  ·rw[hl _ h,hl _ g]at e;exact C.co y h z g e
  ·rw[hl _ h,CI g,bC]at e;exact absurd e (lx y h)
  ·rw[hl _ g,CI h,bC]at e;exact absurd e.symm (lx z g)
  rw[Qd.mp h,Qd.mp g];exact .refl
 rw[mt,hw];rcases Qm.mp hy with h|h
 ·rw[hl _ h,if_neg (λz=>lx y h z.symm)];have:=C.eu y h;lia
 rw[CI h,bC,C2,uH];have:WZ x=0:=zed λz hz=>if_neg (lx z hz);rw[this];rfl
end
section
variable{β:Type}
def zgq:∀{t:List β},g s'=f s→(∀y∈t,g y=f y)→MM s t e→Lk g s' t e:=by
 intro t;cases t with
 |nil=>intro h _ k;exact h.trans k
 |cons a t=>intro h hh k;exact⟨h.trans k.1,lk_congr (λy hy=>hh y Tx) k.2⟩
def lk_lab{γ:Type}{f:β→β}{lb:β→γ}{e:β}:∀{t:List β} {s:β},(∀y,y=s∨y∈t→lb (f y)=lb y)→MM s t e→∀y∈t,lb y=lb s:=by
 intro t;induction t with
 |nil=>intro s _ _ y hy;cases hy
 |cons a t ih=>
  intro s h k y hy;have ha:lb a=lb s:=by rw[←k.1];exact h s Sf
  rcases Qi.mp hy with z|z
  ·rw[z];exact ha
  rw[← ha];exact ih (λy hy=>h y wF) k.2 y z
def zi9{l m:List Int}(h:l.Perm m):l.sum=m.sum:=by
 induction h with
 |nil=>rfl
 |cons x _ ih=>rw[Zn,Zn,ih]
 |swap x y l=>rw[Zn,Zn,Zn,Zn];lia
 |trans _ _ a b=>exact a.trans b
end
section
variable{α:Type}[DecidableEq α]{ns:List α}{r r':α→List α}{cs:List (List (α×α))}{a9 ah:α→α}
def ct_perm{cs':List (S1 (α×α))}(h:cs.Perm cs')(t:α):WS t=ct cs' a9 t:=zi9 (h.map _)
def zd8(c:S1 (α×α))(t:α):ct (c::cs) a9 t=(if(c.any λs=>decide (a9 s.1=t))=true then(2:Int) else 0)+WS t:=by unfold ct;rw[List.map_cons,List.sum_cons]
def Cert.one_lab(C:QN a9){c:List (α×α)}(hc:c∈cs){s u:α×α}(hs:s∈c)(hu:u∈c):a9 u.1=a9 s.1:=by
 obtain⟨A,B,rfl⟩:=Yq hs;have k:=zdc (C.cy _ hc);have hl:∀y,y=s∨y∈B++A→a9 (B9 y).1=a9 y.1:=λy hy=>by
  have bf:y∈A++s::B:=by
   rcases hy with z|z
   ·rw[z];exact hs
   rcases Qm.mp z with q|q
   ·exact WI (QR q)
   exact YG q
  exact(C.la _ _ (Xy bf)).symm
 rcases Qm.mp hu with z|z
 ·exact lk_lab (lb:=λy:α×α=>a9 y.1) hl k u (WI z)
 rcases Qi.mp z with q|q
 ·rw[q]
 exact lk_lab (lb:=λy:α×α=>a9 y.1) hl k u (YG q)
def zeb{c:List (α×α)}(h:∀s∈c,a9 s.1=u)(au:c≠[]):(c.any λs=>decide (a9 s.1=t))=decide (u=t):=by
 rw[Wd,Yi,decide_eq_true_iff];constructor
 ·rintro⟨s,hs,e⟩;rw[←h s hs];exact of_decide_eq_true e
 intro e;cases c with
 |nil=>exact absurd rfl au
 |cons s _=>exact⟨s,Qc,RE ((h s Qc).trans e)⟩
def zb8(hc:c∈cs):cs.flatten.Perm (c++(cs.erase c).flatten):=by have:=List.Perm.flatten (Jv hc);rwa[Wi]at this
def zgg(C:QN a9)(hp:p∈ns)(hx:x∉ns)(h1:r' x=[p])(h3:∀ y,y≠x→y≠p→r' y=r y)(hm:∀ w,w∈r' p↔w=x∨w∈r p)(hn:(r' p).Nodup)(ae:(r' p).length=(r p).length+1)(hl:∀y∈ns,ah y=a9 y)(bC:ah x=a9 p)(hc:cs'.flatten.Nodup∧(∀s,s∈cs'.flatten↔s.1∈r' s.2)∧∀c∈cs',UJ c)(mt:∀t,ct cs' ah t=WS t+if a9 p=t then(if r p=[] then 2 else 0) else 0):Cert (ns++[x]) r' cs' ah:=by
 have fA:p≠x:=λe=>hx (e▸hp);have hrx:r x=[]:=Dk hx;have ne:∀{y},y∈ns→y≠x:=λ{y} hy e=>hx (e▸hy);have sub:∀z y,y∈r z→y∈r' z:=λz y hy=>by
  by_cases hz:z=p
  ·rw[hz]at hy ⊢;exact(hm y).mpr zf
  rw[h3 z (ne (OA hy)) hz];exact hy
 have hw:∀t,wt (ns++[x]) r' ah t=WZ t-if a9 p=t then(if r p=[] then 2 else 0) else 0:=λt=>by
  unfold wt;rw[Qp,List.sum_append,Qn,Jj,Zn,List.sum_nil,bC,h1];have e1:(ns.map λy=>if ah y=t then(2:Int)+(if r' y=[] then 2 else 0)-((r' y).length:Int) else 0).sum=(ns.map λy=>if a9 y=t then(2:Int)+(if r' y=[] then 2 else 0)-((r' y).length:Int) else 0).sum:=
   zcr λy hy=>by rw[hl y hy]
  rw[e1,zfu (g:=λy=>if a9 y=t then(2:Int)+(if r y=[] then 2 else 0)-((r y).length:Int) else 0) C.nd hp (λy hy bm=>by rw[h3 y (ne hy) bm])];have au:r' p≠[]:=λe=>by rw[e]at ae;simp at ae
  by_cases ht:a9 p=t
  ·simp only[ht,if_true,au,if_false,ae];by_cases o0:r p=[]
   ·simp[o0];lia
   simp[o0];lia
  simp only[ht,if_false];lia
 refine⟨?_,λy hy=>?_,λy=>?_,λy=>?_,λy z hz=>?_,hc.1,hc.2.1,hc.2.2,λy hy=>?_,λy z hz=>?_,λy hy z hz e=>?_,λy hy=>?_⟩
 ·rw[Zb];exact⟨C.nd,C7 ⟨HA,Zk⟩,λa ha b hb=>by rw[Qd.mp hb];exact ne ha⟩
 ·rw[Qm,not_or,Qd]at hy;rw[h3 y hy.2 (λe=>hy.1 (e▸hp))];exact C.ro y hy.1
 ·by_cases cC:y=x
  ·rw[cC,h1];exact Qt.mpr ⟨HA,Zk⟩
  by_cases bm:y=p
  ·rw[bm];exact hn
  rw[h3 y cC bm];exact C.rn y
 ·by_cases cC:y=x
  ·rw[cC,h1,Qd];exact Zm fA
  by_cases bm:y=p
  ·rw[bm,hm,not_or];exact⟨fA,C.ir p⟩
  rw[h3 y cC bm];exact C.ir y
 ·by_cases cC:y=x
  ·rw[cC,h1,Qd]at hz;rw[hz,cC];exact(hm x).mpr Sf
  by_cases bm:y=p
  ·rw[bm]at hz ⊢;rcases(hm z).mp hz with q|q
   ·rw[q,h1];exact Qc
   exact sub z p (C.sy p z q)
  rw[h3 y cC bm]at hz;exact sub z y (C.sy y z hz)
 ·rcases Qm.mp hy with h|h
  ·rw[hl y h];exact YG (C.ln y h)
  rw[Qd.mp h,bC];exact YG (C.ln p hp)
 ·by_cases cC:y=x
  ·rw[cC,h1,Qd]at hz;rw[hz,cC,bC,hl p hp]
  by_cases bm:y=p
  ·rw[bm]at hz ⊢;rcases(hm z).mp hz with q|q
   ·rw[q,bC,hl p hp]
   rw[hl _ (C1 q),hl p hp];exact MN z q
  rw[h3 y cC bm]at hz;rw[hl _ (C1 hz),hl _ (OA hz)];exact C.la y z hz
 ·have xp:Y6 x p:=.step .refl (by rw[h1];exact Qc);rcases Qm.mp hy with h|h<;>rcases Qm.mp hz with g|g
  ·rw[hl _ h,hl _ g]at e;exact(C.co y h z g e).mono sub
  ·rw[hl _ h,CI g,bC]at e;rw[Qd.mp g];exact .step ((C.co y h p hp e).mono sub) ((hm x).mpr Sf)
  ·rw[hl _ g,CI h,bC]at e;rw[Qd.mp h];exact xp.trans ((C.co p hp z g e).mono sub)
  rw[Qd.mp h,Qd.mp g];exact .refl
 have key:∀ u∈ns,wt (ns++[x]) r' ah (a9 u)+ct cs' ah (a9 u)=4:=λu hu=>by rw[hw,mt];have:=C.eu u hu;lia
 rcases Qm.mp hy with h|h
 ·rw[hl _ h];exact key y h
 rw[Qd.mp h,bC];exact key p hp
def zjd(p:α):nxt [p] p=p:=by unfold nxt;simp
def leaf_mem(C:QN a9)(hp:p∈ns)(hx:x∉ns)(h1:r' x=[p])(h3:∀ y,y≠x→y≠p→r' y=r y)(hm:∀ w,w∈r' p↔w=x∨w∈r p) :
  ∀s:α×α,s.1∈r' s.2↔s∈[(x,p),(p,x)]∨s.1∈r s.2:=λs=>by
 obtain⟨a,b⟩:=s;have fA:p≠x:=λe=>hx (e▸hp);show a∈r' b↔(a,b)∈[(x,p),(p,x)]∨a∈r b;rw[Qi,Qd,Prod.mk.injEq,Prod.mk.injEq];by_cases rq:b=x
 ·subst rq;rw[h1,C.ro b hx,Qd];constructor
  ·intro e;exact .inl (SJ ⟨e,rfl⟩)
  rintro ((⟨_,e⟩|⟨e,_⟩)|e)
  ·exact absurd e.symm fA
  ·exact e
  cases e
 by_cases cR:b=p
 ·subst cR;rw[hm];constructor
  ·rintro (e|e)
   ·exact .inl (Rq ⟨e,rfl⟩)
   exact .inr e
  rintro ((⟨e,_⟩|⟨_,e⟩)|e)
  ·exact .inl e
  ·exact absurd e rq
  exact .inr e
 rw[h3 b rq cR];constructor
 ·exact .inr
 rintro ((⟨_,e⟩|⟨_,e⟩)|e)
 ·exact absurd e cR
 ·exact absurd e rq
 exact e
def leaf_nd(fA:p≠x):([(x,p),(p,x)]:List (α×α)).Nodup:=by rw[Qt,Qd];exact⟨λe=>fA (Jt e).1.symm,C7 ⟨HA,Zk⟩⟩
def leaf_no(C:QN a9)(hx:x∉ns):∀s∈([(x,p),(p,x)]:List (α×α)),s.1∉r s.2:=λs hs h=>by
 rcases Qi.mp hs with e|e
 ·rw[e]at h;exact hx (C1 h)
 rw[Qd.mp e]at h;exact hx (OA h)
def cert_leaf0(C:QN a9)(hp:p∈ns)(hx:x∉ns)(kC:r p=[])(h1:r' x=[p])(h2:r' p=[x])(h3:∀ y,y≠x→y≠p→r' y=r y)(hl:∀ y∈ns,ah y=a9 y)(bC:ah x=a9 p) :
  Cert (ns++[x]) r' ([(x,p),(p,x)]::cs) ah:=by
 have fA:p≠x:=λe=>hx (e▸hp);have hm:∀w,w∈r' p↔w=x∨w∈r p:=λw=>by rw[h2,kC,Qd];simp
 refine Fh (by rw[h2];exact Qt.mpr ⟨HA,Zk⟩) (by rw[h2,kC];rfl) hl bC ?_ λt=>?_
 ·refine zjz (N:=[[(x,p),(p,x)]]) (R:=cs) (c0:=[]) (news:=[(x,p),(p,x)]) C (λc h=>h) (by rw[Wp]) HA (leaf_nd fA) (leaf_no C hx) (Dl hm) (λc hc=>?_) λs hs _=>?_
  ·rw[CI hc];refine⟨(x,p),[(p,x)],rfl,?_,?_⟩
   ·show (p,Vb x)=(p,x);rw[h2,zjd]
   show (x,nxt (r' x) p)=(x,p);rw[h1,zjd]
  have tz:s.2≠x:=λe=>hx (e ▸ C.inn hs);have bA:s.2≠p:=λe=>by rw[e,kC]at hs;cases hs
  unfold st;rw[h3 s.2 tz bA]
 rw[zd8,zeb (u:=a9 p) (λs hs=>?_) HA]
 ·have:ct cs ah t=WS t:=ct_lab λc hc s hs=>hl _ (C1 (Xy hs));rw[this];simp only[decide_eq_true_eq,kC,if_true];lia
 rcases Qi.mp hs with e|e
 ·rw[e];exact bC
 rw[Qd.mp e];exact hl p hp
def cert_leaf(C:QN a9)(hp:p∈ns)(hx:x∉ns)(hc:c∈r p)(h1:r' x=[p])(h2:r' p=FU x)(h3:∀ y,y≠x→y≠p→r' y=r y)(hl:∀ y∈ns,ah y=a9 y)(bC:ah x=a9 p) :
  ∃cs',Cert (ns++[x]) r' cs' ah:=by
 have fA:p≠x:=λe=>hx (e▸hp);have je:x∉r p:=λh=>hx (C1 h);have hm:∀w,w∈r' p↔w=x∨w∈r p:=λw=>by rw[h2];exact zd7 hc LX
 obtain⟨c1,bG,cX⟩:=Zv.mp ((Oz (c,p)).mpr hc);obtain⟨A,B,fh⟩:=Yq cX;have k:=zdc (fh▸C.cy c1 bG);have old:∀y∈c1,y.1∈r y.2:=λy hy=>MO hy;have nd1:c1.Nodup:=by have:=(zb8 bG).nodup_iff.mp C.cf;rw[Zb]at this;exact this.1
 have ay:∀s:α×α,s.1∈r s.2→s≠(c,p)→st r' s=B9 s:=λs hs au=>by
  have tz:s.2≠x:=λe=>hx (e▸C.inn hs);by_cases bA:s.2=p
  ·unfold st;rw[bA,h2];rw[bA]at hs;rw[zd5 hc LX je hs (λe=>au (Wx e bA))]
  unfold st;rw[h3 s.2 tz bA]
 have inBA:∀y∈B++A,y∈c1∧y≠(c,p):=λy hy=>by
  rw[fh]at nd1 ⊢;rw[Zb,Qt]at nd1;rcases Qm.mp hy with z|z
  ·exact⟨WI (QR z),λe=>nd1.2.1.1 (e▸z)⟩
  exact⟨YG z,λe=>nd1.2.2 y z (c,p) Qc e⟩
 refine⟨[(c,p)::(p,x)::(x,p)::(B++A)]++cs.erase c1,Fh (by rw[h2];exact FV je) (by rw[h2];exact zjg hc LX) hl bC ?_ λt=>?_⟩
 ·refine zjz (c0:=c1) (news:=[(x,p),(p,x)]) C (λc h=>Uv h) (zb8 bG) ?_ (leaf_nd fA) (leaf_no C hx) (Dl hm) (λc' cQ=>?_) λs hs hn=>ay s hs λe=>hn (e ▸ cX)
  ·rw[fh];refine Jz.mpr λa=>?_;simp only[Wi,List.flatten_nil,Zt,Kn,Kw,List.count_nil];lia
  rw[CI cQ];refine⟨(c,p),vG,?_,?_,zgq (f:=st r) (s:=(c,p)) ?_ (λy hy=>ay y (old y (inBA y hy).1) (inBA y hy).2) k⟩
  ·show (p,Vb c)=(p,x);rw[h2,zfh hc LX]
  ·show (x,nxt (r' x) p)=(x,p);rw[h1,zjd]
  show (p,Vb x)=(p,nxt (r p) c);rw[h2,zfg hc LX je]
 have au:r p≠[]:=Ki hc;have e2:WS t=ct (c1::cs.erase c1) a9 t:=ct_perm (Jv bG) t;have e3:He ah t=He a9 t:=ct_lab λc h s hs=>hl _ (C1 (C.inc (Uv h) hs));have lc:∀s∈c1,a9 s.1=a9 p:=λs hs=>(Mm hs).trans (MN c hc);rw[e2,zd8,List.singleton_append,zd8,e3,zeb (u:=a9 p) lc (Ki cX),zeb (u:=a9 p) (λs hs=>?_) HA,if_neg au]
 ·simp
 rcases Qi.mp hs with e|hs
 ·rw[e];exact(hl _ (C1 hc)).trans (MN c hc)
 rcases Qi.mp hs with e|hs
 ·rw[e];exact hl p hp
 rcases Qi.mp hs with e|hs
 ·rw[e];exact bC
 rw[hl _ (C1 (old s (inBA s hs).1))];exact lc s (inBA s hs).1
def cert_tie(C:QN a9)(bG:c1∈cs)(cX:(c,p)∈c1)(cq:(a,o)∈c1)(jq:o≠p)(dI:o∉r p)(h1:r' p=FU o)(h2:r' o=ins (r o) xB p)(h3:∀ y,y≠p→y≠o→r' y=r y) :
  ∃cs',Cert ns r' cs' a9:=by
 have hc:c∈r p:=MO cX;have ha:a∈r o:=MO cq;have hp:p∈ns:=C.inn hc;have ho:o∈ns:=C.inn ha;have lZ:p∉r o:=λh=>dI (C.sy o p h);have kW:∀w,w∈r' p↔w=o∨w∈r p:=λw=>by rw[h1];exact zd7 hc LX
 have bZ:∀w,w∈r' o↔w=p∨w∈r o:=λw=>by rw[h2];exact zd7 ha Ic
 have gw:a9 o=a9 p:=by rw[←C.la o a ha,←MN c hc];exact Mm cq
 obtain⟨A,B,fh⟩:=Yq cX;have k:=zdc (fh▸C.cy c1 bG);have old:∀y∈c1,y.1∈r y.2:=λy hy=>MO hy;have nd1:c1.Nodup:=by have:=(zb8 bG).nodup_iff.mp C.cf;rw[Zb]at this;exact this.1
 have tJ:(a,o)∈B++A:=by
  rw[fh]at cq;rcases Qm.mp cq with z|z
  ·exact WI z
  rcases Qi.mp z with q|q
  ·exact absurd (Jt q).2 jq
  exact YG q
 obtain⟨A2,B2,pV⟩:=Yq tJ;rw[pV]at k;obtain⟨k1,k2⟩:=zic.mp k;have pm:c1.Perm ((c,p)::(A2++(a,o)::B2)):=by rw[fh,←pV];refine Jz.mpr λa=>?_;simp only[Kn,Kw];lia
 have dS:=pm.nodup_iff.mp nd1;rw[Qt,Zb,Qt]at dS;obtain⟨n1,n2,⟨n3,n4⟩,n5⟩:=dS;have inA:∀y∈A2,y∈c1∧y≠(c,p)∧y≠(a,o):=λy hy=>⟨pm.mem_iff.mpr (QR (YG hy)),λe=>n1 (e▸YG hy),λe=>n5 y hy (a,o) Qc e⟩;have inB:∀y∈B2,y∈c1∧y≠(c,p)∧y≠(a,o):=λy hy=>⟨pm.mem_iff.mpr (QR (WI Cs)),λe=>n1 (e▸WI Cs),λe=>n3 (e▸hy)⟩;have ay:∀s:α×α,s.1∈r s.2→s≠(c,p)→s≠(a,o)→st r' s=B9 s:=λs hs bB cc=>by
  by_cases bA:s.2=p
  ·unfold st;rw[bA,h1];rw[bA]at hs;rw[zd5 hc LX dI hs (λe=>bB (Wx e bA))]
  by_cases lU:s.2=o
  ·unfold st;rw[lU,h2];rw[lU]at hs;rw[zd5 ha Ic lZ hs (λe=>cc (Wx e lU))]
  unfold st;rw[h3 s.2 bA lU]
 have sub:∀z y,y∈r z→y∈r' z:=λz y hy=>by
  by_cases hz:z=p
  ·rw[hz]at hy ⊢;exact(kW y).mpr zf
  by_cases cz:z=o
  ·rw[cz]at hy ⊢;exact(bZ y).mpr zf
  rw[h3 z hz cz];exact hy
 have hmem:∀s:α×α,s.1∈r' s.2↔s∈[(o,p),(p,o)]∨s.1∈r s.2:=λs=>by
  obtain⟨u,b⟩:=s;show u∈r' b↔(u,b)∈[(o,p),(p,o)]∨u∈r b;rw[Qi,Qd,Prod.mk.injEq,Prod.mk.injEq];by_cases cR:b=p
  ·subst cR;rw[kW];constructor
   ·rintro (e|e)
    ·exact .inl (Rq ⟨e,rfl⟩)
    exact .inr e
   rintro ((⟨e,_⟩|⟨_,e⟩)|e)
   ·exact .inl e
   ·exact absurd e.symm jq
   exact .inr e
  by_cases uJ:b=o
  ·subst uJ;rw[bZ];constructor
   ·rintro (e|e)
    ·exact .inl (SJ ⟨e,rfl⟩)
    exact .inr e
   rintro ((⟨_,e⟩|⟨e,_⟩)|e)
   ·exact absurd e cR
   ·exact .inl e
   exact .inr e
  rw[h3 b cR uJ];constructor
  ·exact .inr
  rintro ((⟨_,e⟩|⟨_,e⟩)|e)
  ·exact absurd e cR
  ·exact absurd e uJ
  exact e
 have nnd:([(o,p),(p,o)]:List (α×α)).Nodup:=by rw[Qt,Qd];exact⟨λe=>jq (Jt e).1,C7 ⟨HA,Zk⟩⟩
 have cP:=zjz (N:=[(c,p)::(p,o)::B2,(a,o)::(o,p)::A2]) (R:=cs.erase c1) (c0:=c1) (news:=[(o,p),(p,o)]) (r':=r') C (λc h=>Uv h) (zb8 bG) (by
   refine List.Perm.trans ?_ (Mh pm.symm);refine Jz.mpr λa=>?_;simp only[Wi,List.flatten_nil,Zt,Kn,Kw,List.count_nil];lia) nnd (λs hs h=>by
    rcases Qi.mp hs with e|e
    ·rw[e]at h;exact dI h
    rw[Qd.mp e]at h;exact lZ h) hmem (λc' cQ=>by
   rcases Qi.mp cQ with e|e
   ·rw[e];refine⟨(c,p),vG,?_,zgq (f:=st r) (s:=(a,o)) ?_ (λy hy=>ay y (old y (inB y hy).1) (inB y hy).2.1 (inB y hy).2.2) k2⟩
    ·show (p,Vb c)=(p,o);rw[h1,zfh hc LX]
    show (o,nxt (r' o) p)=(o,nxt (r o) a);rw[h2,zfg ha Ic lZ]
   rw[CI e];refine⟨(a,o),vG,?_,zgq (f:=st r) (s:=(c,p)) ?_ (λy hy=>ay y (old y (inA y hy).1) (inA y hy).2.1 (inA y hy).2.2) k1⟩
   ·show (o,nxt (r' o) a)=(o,p);rw[h2,zfh ha Ic]
   show (p,Vb o)=(p,nxt (r p) c);rw[h1,zfg hc LX dI]) λs hs hn=>ay s hs (λe=>hn (e▸cX)) λe=>hn (e▸cq)
 refine⟨_,C.nd,λy hy=>?_,λy=>?_,λy=>?_,λy z hz=>?_,cP.1,cP.2.1,cP.2.2,C.ln,λy z hz=>?_,λy hy z hz e=>(C.co y hy z hz e).mono sub,λy hy=>?_⟩
 ·rw[h3 y (λe=>hy (e▸hp)) (λe=>hy (e▸ho))];exact C.ro y hy
 ·by_cases bm:y=p
  ·rw[bm,h1];exact FV dI
  by_cases fW:y=o
  ·rw[fW,h2];exact nd_ins ha Ic lZ
  rw[h3 y bm fW];exact C.rn y
 ·by_cases bm:y=p
  ·rw[bm,kW,not_or];exact⟨Zm jq,C.ir p⟩
  by_cases fW:y=o
  ·rw[fW,bZ,not_or];exact⟨jq,C.ir o⟩
  rw[h3 y bm fW];exact C.ir y
 ·by_cases bm:y=p
  ·rw[bm]at hz ⊢;rcases(kW z).mp hz with q|q
   ·rw[q];exact(bZ p).mpr Sf
   exact sub z p (C.sy p z q)
  by_cases fW:y=o
  ·rw[fW]at hz ⊢;rcases(bZ z).mp hz with q|q
   ·rw[q];exact(kW o).mpr Sf
   exact sub z o (C.sy o z q)
  rw[h3 y bm fW]at hz;exact sub z y (C.sy y z hz)
 ·by_cases bm:y=p
  ·rw[bm]at hz ⊢;rcases(kW z).mp hz with q|q
   ·rw[q];exact gw
   exact MN z q
  by_cases fW:y=o
  ·rw[fW]at hz ⊢;rcases(bZ z).mp hz with q|q
   ·rw[q];exact gw.symm
   exact C.la o z q
  rw[h3 y bm fW]at hz;exact C.la y z hz
 have e2:WS zp=ct (c1::cs.erase c1) a9 zp:=ct_perm (Jv bG) _;have lc:∀s∈c1,a9 s.1=a9 p:=λs hs=>(Mm hs).trans (MN c hc);have l1:∀s∈(c,p)::(p,o)::B2,a9 s.1=a9 p:=λs hs=>by
  rcases Qi.mp hs with e|hs
  ·rw[e];exact MN c hc
  rcases Qi.mp hs with e|hs
  ·rw[e]
  exact lc s (inB s hs).1
 have l2:∀s∈(a,o)::(o,p)::A2,a9 s.1=a9 p:=λs hs=>by
  rcases Qi.mp hs with e|hs
  ·rw[e];exact(C.la o a ha).trans gw
  rcases Qi.mp hs with e|hs
  ·rw[e];exact gw
  exact lc s (inA s hs).1
 have mt:ct ([(c,p)::(p,o)::B2,(a,o)::(o,p)::A2]++cs.erase c1) a9 zp=WS zp+if a9 p=a9 y then 2 else 0:=by rw[e2,zd8,Uc,zd8,Uc,zd8,Wp,zeb lc (Ki cX),zeb l1 HA,zeb l2 HA];simp only[decide_eq_true_eq];split<;>lia
 have hw:wt ns r' a9 zp=WZ zp-if a9 p=a9 y then 2 else 0:=by
  have aj:∀{zs:List α} {w n:α},w∈zs→zs.Nodup→ins zs (HW w) n≠[]:=λ{zs w n} hw nd e=>by have:=zjg (n:=n) hw nd;rw[e]at this;simp at this
  unfold wt;have s1:=zfu (g:=λx=>if a9 x=a9 y then(2:Int)+(if r x=[] then 2 else 0)-((r x).length:Int) else 0)
   (g':=λx=>if x=p then(if a9 p=a9 y then(2:Int)+(if r' p=[] then 2 else 0)-((r' p).length:Int) else 0) else if a9 x=a9 y then(2:Int)+(if r x=[] then 2 else 0)-((r x).length:Int) else 0) C.nd hp (λx _ hx=>if_neg hx)
  have s2:=zfu (g:=λx=>if x=p then(if a9 p=a9 y then(2:Int)+(if r' p=[] then 2 else 0)-((r' p).length:Int) else 0) else if a9 x=a9 y then(2:Int)+(if r x=[] then 2 else 0)-((r x).length:Int) else 0)
   (g':=λx=>if a9 x=a9 y then (2:Int)+(if r' x=[] then 2 else 0) - ((r' x).length:Int) else 0) C.nd ho (λx _ hx=>by
    by_cases je:x=p
    ·rw[if_pos je,je]
    rw[if_neg je,h3 x je hx])
  rw[s2,s1];simp only[if_true,jq,if_false,gw,h1,h2,aj hc LX,aj ha Ic,zjg hc LX,zjg ha Ic,Ki hc,Ki ha];by_cases ht:a9 p=a9 y
  ·simp only[ht,if_true];lia
  simp only[ht,if_false];lia
 rw[mt,hw];have:=C.eu y hy;lia
end
section
variable{α:Type}[DecidableEq α]
def Good(rs:Rs α):Prop:=∃cs a9,Cert (rs.map (·.1)) yA cs a9
def zju{β:Type}{f:β→β}{c:List β}(h:Cyc f c){s:β}(hs:s∈c):f s∈c:=by
 obtain⟨A,B,rfl⟩:=Yq hs;have k:=zdc h;cases e:B++A with
 |nil=>rw[e]at k;rw[show f s=s from k];exact hs
 |cons a t=>
  rw[e]at k;rw[k.1];have:a∈B++A:=by rw[e];exact Qc
  rcases Qm.mp this with z|z
  ·exact WI (QR z)
  exact YG z
end
section
variable{α:Type}[DecidableEq α] {rs:Rs α}
def zgb(nd:(rs.map (·.1)).Nodup){p:α×List α}(h:p∈rs):Bw p.1=p.2:=by
 unfold row;induction rs with
 |nil=>cases h
 |cons a t ih=>
  rw[Qn,Qt]at nd;rcases Qi.mp h with z|z
  ·subst z;rw[Ws HA];rfl
  rw[Wt]
  ·exact ih nd.2 z
  intro q;exact nd.1 (by rw[of_decide_eq_true q];exact Qe.mpr ⟨p,z,rfl⟩)
def zg4(h:x∉rs.map (·.1)):Bw x=[]:=by
 unfold row;rw[List.find?_eq_none.mpr]
 ·rfl
 intro p hp q;exact h (of_decide_eq_true q▸Qe.mpr ⟨p,hp,rfl⟩)
def zjl(nd:(rs.map (·.1)).Nodup){s:α×α}:IsSt rs s↔s.1∈Bw s.2:=by
 constructor
 ·rintro⟨p,hp,e,h⟩;rw[←e,zgb nd hp];exact h
 intro h;by_cases hx:s.2∈rs.map (·.1)
 ·obtain⟨p,hp,e⟩:=Qe.mp hx;have e':p.1=s.2:=e;rw[←e',zgb nd hp]at h;exact⟨p,hp,e',h⟩
 rw[zg4 hx]at h;cases h
def zb3(x:α)(rr:List α):(MK x rr).map (·.1)=rs.map (·.1):=by unfold za9;rw[Zg];refine Yj λp _=>?_;show(if p.1=x then(p.1,rr) else p).1=p.1;split<;>rfl
def zbh{x:α}{rr:List α}(h:x∈rs.map (·.1)):row (MK x rr) x=rr:=by
 unfold row za9;induction rs with
 |nil=>cases h
 |cons a t ih=>
  rw[Qn];by_cases hx:a.1=x
  ·rw[if_pos hx,Ws (HE hx)];rfl
  rw[So hx,Wt (HE hx)];refine ih ?_;rw[Qn]at h;rcases Qi.mp h with z|z
  ·exact absurd z.symm hx
  exact z
def zbb{x y:α}{rr:List α}(h:y≠x):row (MK x rr) y=Bw y:=by
 unfold row za9;induction rs with
 |nil=>rfl
 |cons a t ih=>
  rw[Qn];by_cases hy:a.1=y
  ·have hx:a.1≠x:=λe=>h (hy ▸ e);rw[if_neg hx,Ws zq,Ws zq]
  have h1:(if a.1=x then (a.1,rr) else a).1=a.1:=by split <;> rfl
  rw[Wt (by rw[h1];simpa using hy),Wt zq];exact ih
def row_snoc{x:α}(h:x∉rs.map (·.1)):row (rs++[(x,[])])=row rs:=by
 funext y;unfold row;rw[List.find?_append];cases e:rs.find? λp=>decide (p.1=y) with
 |some p=>rfl
 |none=>
  rw[Option.none_or];by_cases hy:x=y
  ·rw[Ws zq];rfl
  rw[Wt zq];rfl
theorem zfk:Gen (Good (α:=α)) where
 clo:=λrs ⟨cs,a9,C⟩ s hs=>by obtain⟨c,hc,h⟩:=Zv.mp ((Oz s).mpr ((zjl C.nd).mp hs));exact(zjl C.nd).mpr ((Oz _).mp (yz ⟨c,hc,zju vC h⟩))
 nd:=λrs ⟨cs,a9,C⟩=>C.nd
 sub:=λrs ⟨cs,a9,C⟩ p hp=>by have e:=Fi hp;exact⟨e▸C.rn p.1,λx hx=>C.inn' (x:=p.1) (HP e hx)⟩
 sy:=λrs ⟨cs,a9,C⟩ p hp x hx=>C.sy p.1 x (by rw[Fi hp];exact hx)
 nil:=by
  refine⟨[],id,⟨Zk,HX,λ_=>Zk,λ_ h=>?_,λ_ _ h=>?_,Zk,λs=>⟨λh=>?_,λh=>?_⟩,λc h=>?_,λ_ h=>?_,λ_ _ h=>?_,λ_ h=>?_,λ_ h=>?_⟩⟩
  ·exact absurd h (by simp[row])
  ·exact absurd h (by simp[row])
  ·cases h
  ·exact absurd h (by simp[row])
  ·cases h
  ·cases h
  ·exact absurd h (by simp[row])
  ·cases h
  cases h
 new:=λrs x ⟨cs,a9,C⟩ hx=>by refine⟨cs,λy=>if y=x then x else a9 y,?_⟩;rw[row_snoc hx,Qp];exact cert_new C hx (λy hy=>if_neg (λe:y=x=>hx (e▸hy))) C2
 leaf:=λrs x p c ⟨cs,a9,C⟩ hx hp hc ig=>by
  have gl:p.1∈rs.map (·.1):=Qe.mpr ⟨p,hp,rfl⟩;have fA:p.1≠x:=λe=>hx (e▸gl);have e0:(za9 (za9 (rs++[(x,[])]) p.1 zm) x [p.1]).map (·.1)=rs.map (·.1)++[x]:=by rw[zb3,zb3,Qp];rfl
  have sT:x∈(za9 (rs++[(x,[])]) p.1 zm).map (·.1):=by rw[zb3,Qp];exact WI Qc
  have tV:p.1∈(rs++[(x,([]:List α))]).map (·.1):=by rw[Qp];exact YG gl
  have r1:row (za9 (za9 (rs++[(x,[])]) p.1 zm) x [p.1]) x=[p.1]:=zbh sT;have r2:row (za9 (za9 (rs++[(x,[])]) p.1 zm) x [p.1]) p.1=B7 x:=by rw[zbb fA,zbh tV]
  have r3:∀y,y≠x→y≠p.1→row (za9 (za9 (rs++[(x,[])]) p.1 zm) x [p.1]) y=Bw y:=λy h1 h2=>by rw[zbb h1,zbb h2,row_snoc hx]
  have er:=Fi hp;have hl:∀y∈rs.map (·.1),(λy=>if y=x then a9 p.1 else a9 y) y=a9 y:=λy hy=>if_neg (λe:y=x=>hx (e▸hy));have bC:(λy=>if y=x then a9 p.1 else a9 y) x=a9 p.1:=if_pos rfl;unfold Good;rw[e0];cases c with
  |none=>have h0:=ig rfl;refine⟨_,_,cert_leaf0 C gl hx (er.trans h0) r1 ?_ r3 hl bC⟩;rw[r2,h0];rfl
  |some y=>have hy:=hc y rfl;obtain⟨cs',C'⟩:=cert_leaf C gl hx (c:=y) (HP er hy) r1 (by rw[r2,er]) r3 hl bC;exact⟨cs',_,C'⟩
 tie:=λrs c p n ⟨cs,a9,C⟩ hp hc h1 h2=>by
  have er:=Fi hp;obtain⟨c1,bG,cX⟩:=Zv.mp ((Oz (c,p.1)).mpr (HP er hc));have cq:∀n,Bc (c,p.1) n∈c1:=λn=>by
   induction n with
   |zero=>exact cX
   |succ n ih=>exact zju (C.cy c1 bG) ih
  have lV:=cq n;generalize Bc (c,p.1) n=q at h1 h2 lV;have gl:p.1∈rs.map (·.1):=Qe.mpr ⟨p,hp,rfl⟩;have kE:q.2∈rs.map (·.1):=C.inn (MO lV);unfold Good;rw[zb3,zb3];obtain⟨cs',C'⟩:=cert_tie (r':=row (za9 (MK p.1 (Hd q.2)) q.2 (ins (Bw q.2) (some q.1) p.1))) C bG cX (a:=q.1) (o:=q.2) lV h1 (HP er h2)
   (by rw[zbb (Zm h1),zbh gl,er]) (by rw[zbh (HP zb3 kE)]) (λy h3 h4=>by rw[zbb h4,zbb h3])
  exact⟨cs',a9,C'⟩
end
section
variable{α:Type}[DecidableEq α]{ns qu:List α}{r r':α→List α}{cs:List (List (α×α))}{a9:α→α}
def zi4(zs:List α)(k:Nat):(zs.drop k++zs.take k).Perm zs:=by refine Wn.trans ?_;rw[Wm]
def cert_turn(C:QN a9)(hn:qu.Perm ns)(hr:∀x,∃k,r' x=(r x).drop k++(r x).take k):Cert qu r' cs a9:=by
 have hp:∀x,(r' x).Perm (r x):=λx=>by obtain⟨k,e⟩:=hr x;rw[e];exact zi4 _ k
 have hm:∀{x y},y∈r' x↔y∈r x:=λ{x y}=>(hp x).mem_iff;have ay:∀s:α×α,s.1∈r s.2→st r' s=B9 s:=λs hs=>by obtain⟨k,e⟩:=hr s.2;unfold st;rw[e,nxt_rot (C.rn _) k hs]
 have hw:∀t,wt qu r' a9 t=WZ t:=λt=>by unfold wt;rw[zi9 (hn.map _)];refine zcr λx _=>?_;have h1:=(hp x).length_eq;have h2:(r' x=[])=(r x=[]):=propext ⟨λe=>by rw[e]at h1;exact List.eq_nil_of_length_eq_zero h1.symm,λe=>by rw[e]at h1;exact List.eq_nil_of_length_eq_zero h1⟩;simp only[h1,h2]
 refine⟨hn.nodup_iff.mpr C.nd,λx hx=>?_,λx=>(hp x).nodup_iff.mpr (C.rn x),λx h=>C.ir x (hm.mp h),λx y h=>hm.mpr (C.sy x y (hm.mp h)),C.cf,λs=>(Oz s).trans hm.symm,λc hc=>?_,λx hx=>hn.mem_iff.mpr (C.ln x IS),λx y h=>C.la x y (hm.mp h),λx hx y hy e=>?_,λx hx=>?_⟩
 ·have:=hp x;rw[Dk (λz=>hx (hn.mem_iff.mpr z))]at this;exact List.Perm.eq_nil this
 ·exact zfm (λy hy=>ay y (Xy hy)) vC
 ·exact(C.co x IS y (hn.mem_iff.mp hy) e).mono λ_ _ h=>hm.mpr h
 rw[hw];exact C.eu x IS
end
end Wb
namespace K21
open PySem L2 Wb
abbrev sSteps:Stmt:=top 13
structure BAt(H:Hp)(b:Nb)(bs:List ((Str×Str)×Addr))(r:Nq):Prop where
 dc:H b=some (.dT (bs.map λe=>(zr,Pn)))
 tp:∀e∈bs,H e.2=some (.tup [.str (B9 e.1).1,.str (B9 e.1).2])
 nd:(bs.map (·.1)).Nodup
def BAt.keep{H H':Hp}{b:Nb}{bs:List ((Str×Str)×Addr)}{r:Nq}{xs:No}(h:BAt H b bs r)(k:W5 H')(hb:b∉xs)(ht:∀e∈bs,e.2∉xs):BAt H' b bs r:=
 ⟨k _ _ h.dc hb,λe he=>k _ _ (h.tp e he) (ht e he),h.nd⟩
def kP_inj{s u:Str×Str}(h:kP s=kP u):s=u:=by unfold kP at h;injection h with h1 h2;injection h2 with h2 _;exact Wx (Wg h1) (Wg h2)
def valT_out{bs:List ((Str×Str)×Addr)}{s:Str×Str}(h:s∉bs.map (·.1)):valV (bs.map λe=>(zr,Pn)) yB=none:=by
 induction bs with
 |nil=>rfl
 |cons a t ih=>
  rw[Qn,Qi,not_or]at h;rw[Qn,zbl]
  ·exact ih h.2
  intro q;exact h.1 (kP_inj q).symm
def valT_in{bs:List ((Str×Str)×Addr)}(nd:(bs.map (·.1)).Nodup){e:(Str×Str)×Addr}(h:e∈bs):valV (bs.map λe=>(zr,Pn)) zr=some (.ref e.2):=by
 induction bs with
 |nil=>cases h
 |cons a t ih=>
  rw[Qn,Qt]at nd;rw[Qn];rcases Qi.mp h with z|z
  ·subst z;exact zcj rfl
  rw[zbl]
  ·exact ih nd.2 z
  intro q;exact nd.1 (by rw[kP_inj q];exact Qe.mpr ⟨e,z,rfl⟩)
inductive IspSteps(vs:List V)(H:Hp)(Q:VK):Prop
 |mk(d:Nb)(es:List Ent)(h0:vs=[.ref d])(h1:TAt H d es)(h2:es.length≤60)(h3:(∀e∈es,e.2.1.Nodup∧e.2.1.length≤100))(h4:∀(b:Nb) (bs:List ((Str×Str)×Addr)) (H':Hp),BAt H' b bs (row (rsOf es))→(∀s,s∈bs.map (·.1)↔s.1∈row (rsOf es) s.2)→bs.length≤10000→H b=none→Keep [] H H'→Q (.ref b) H')
def spSteps:Sp:=λvs H Q _=>IspSteps vs H Q
def pidx(n j:Nat):Nat:=if j=0 then n-1 else j-1
def atI_prev{zs:List V}{j:Nat}(hj:j<zs.length):atI zs ((j:Int)-1)=zs[X3 j]?:=by
 unfold pidx;by_cases h:j=0
 ·subst h;rw[if_pos rfl];unfold atI ixN;have e1:¬(0:Int)≤((0:Nat):Int)-1:=by lia
  have e2:-(zs.length:Int)≤((0:Nat):Int)-1:=by lia
  rw[if_neg e1,if_pos e2];show zs[(((0:Nat):Int)-1+(zs.length:Int)).toNat]?=_;congr 1;lia
 rw[So h];have e:(j:Int)-1=((j-1:Nat):Int):=by lia
 rw[e,za0 (Qb HB),Qb HB]
def idx_at{zs:Ng}(nd:zs.Nodup){i:Nat}(hi:i<zs.length):zs.idxOf zs[i]=i:=by have h1:zs.idxOf zs[i]<zs.length:=idx_lt wH;have h2:zs[zs.idxOf zs[i]]=zs[i]:=List.getElem_idxOf h1;exact(Wf nd).mp h2
def nxt_idx{zs:Ng}(nd:zs.Nodup){j:Nat}(hj:j<zs.length)(hp:X3 j<zs.length):XH zs[X3 j]=zs[j]:=by
 unfold nxt;rw[idx_at nd hp];have e:(X3 j+1)%zs.length=j:=by
  unfold pidx;by_cases h:j=0
  ·rw[Sx h,h];have:zs.length-1+1=zs.length:=by lia
   rw[this,Nat.mod_self]
  rw[So h];have:j-1+1=j:=by lia
  rw[this,Nat.mod_eq_of_lt hj]
 rw[e,Ze,Qb hj];rfl
section
variable{P:Nk}{w:Nl}{K:Na}{mg:Nd}{base:Nn}
def zfw:zam ["rounds", "behind", "place", "around", "at", "to"] ["rounds"] (zah sSteps):=fsk
def ok_steps{f:Nb}{fd:Nu}(F:QD "steps_behind" "steps_behind" sSteps f fd)(gP:mg "enumerate" = none):ZB 1 f fd ["rounds"] spSteps:=by
 refine F.okL zfw HM;obtain⟨d,es,rfl,T,aS,hok,k⟩:=h;have hu:=zb7 hr;have ar  :=sizeLine_eq;refine⟨_,zad (NQ zfw.nd pe_dnewT)
  (zad (zi6 (ZX OB (ML zfw.nd)
   (zad (Xz zfw.nd (QT Ss))
   (zaf (ZX (pi_enum rfl gP Tw) (Ei (Vy zfw.nd) (Te (BA zfw.nd)))
    (zaf (BB Rz (PV (QO Sn (Bg Sy zai) HX) SR) (zbq (ZU PM)) rfl)))))))
  (zaf (zas Rz))),?_⟩
 refine λb hb=>?_;have nfz:∀o' u',H d≠some Tl:=λo' u' z=>by rw[T.dc]at z;cases z
 have nbd:d≠b:=MP hb;have k1:Keep [] H (ZR b (.dT [])):=Keep.new hb;have gX:BAt (ZR b (.dT [])) b [] RZ:=⟨zab,λe he=>(by cases he),Zk⟩;have T1:TAt (ZR b (.dT [])) d es:=NR HA RA;generalize ZR b (.dT [])=H1 at k1 gX T1;have hbm:∀{H':Hp} {bs:List ((Str×Str)×Addr)},BAt H' b bs RZ→b≠d:=λ_=>Zm nbd;refine⟨_,rfl,d,_,rfl,T1.dc,λo=>for_dict (λi σ H'=>Aj4 (Ex4 λx2 x3 x4 x5=>σ=[Lb,HC b,x2,x3,x4,x5]) (H' d=some Py) (Keep [d,b] H1 H') (Ex1 λbs=>Vk (bs.length≤100*i) (∀s,s∈bs.map (·.1)↔s.2∈(II i).map (·.1)∧s.1∈ZJ s.2)))
  ⟨⟨_,_,_,_,rfl⟩,zab,SD,[],gX.keep (xs:=[d]) SD (by simpa using Zm nbd) (λe he=>by cases he),SW,λs=>⟨λh=>(by cases h),λh=>(by cases h.1)⟩⟩
  (λi σ H' _ hh=>hh.2) ?_ ?_⟩
 ·rintro i pr σ H2 tT ⟨⟨x2,x3,x4,x5,rfl⟩,hz,k2,bs,bv,di,br⟩;have hi:i<es.length:=by have:=(TJ tT).1;rwa[Qa]at this
  have g1:pr=((Sum.inr es[i].1:Key),V.ref es[i].2.2):=by rw[Qk,Qb hi]at tT;exact(Qo tT).symm
  subst g1;have aU:es[i]∈es:=Qq hi;obtain⟨aE,hln⟩:=hok _ aU;have ku:ZJ es[i].1=es[i].2.1:=zay T.nd aU;have bJ:=T1.ro _ aU;have nrd:es[i].2.2≠d:=za8 bJ T1.dc HJ;have nrb:es[i].2.2≠b:=za8 bJ gX.dc HJ;have kD:=k2 _ _ bJ (by simp[nrd,nrb]);refine⟨vG,vG,d,.ref es[i].2.2,rfl,Rq ⟨_,Sum.inr es[i].1,SJ ⟨o,hz⟩,rfl,(zcb T.nd aU).symm⟩,?_⟩;have cH:es[i].1∉(II i).map (·.1):=by
   have h1:(es.map (·.1)).take Rm=(es.map (·.1)).take i++[es[i].1]:=by rw[Qh (y8 hi),Zl]
   have h2:((es.map (·.1)).take Rm).Nodup:=V5 T.nd;rw[h1,Zb,←Je]at h2;exact λz=>h2.2.2 _ z _ Tk rfl
  refine⟨_,rfl,es[i].2.2,rfl,⟨_,Rx kD⟩,for_enum (xs:=es[i].2.1.map V.str) (λj σ H'=>Aj4 (Ex2 λx4 x5=>σ=[Lb,HC b,HW (.str es[i].1),HW (.ref es[i].2.2),x4,x5]) (H' d=some Py) (Keep [d,b] H1 H') (Ex1 λbs=>Vk (bs.length≤100*i+j) (∀s,s∈bs.map (·.1)↔(s.2∈(II i).map (·.1)∧s.1∈ZJ s.2)∨∃(m:Nat) (hm:m<j) (hp:pidx es[i].2.1.length m<es[i].2.1.length),s=(es[i].2.1[RT m],es[i].1))))
   ⟨⟨_,_,rfl⟩,hz,k2,bs,bv,di,λs=>(br s).trans ⟨.inl,λh=>by
    rcases h with z|⟨m,hm,_⟩
    ·exact z
    exact absurd hm (Kv m)⟩⟩ (λj σ H' _ hh=>hh.3 _ _ bJ (by simp[nrd,nrb])) ?_ ?_⟩
  ·rintro j y t σ H3 hy ⟨⟨y4,y5,rfl⟩,lR,k3,mD,f7,pG,gA⟩ ht;have hj:j<es[i].2.1.length:=by have:=(TJ hy).1;rwa[Qa]at this
   have nr:y=.str es[i].2.1[j]:=by rw[Qk,Qb hj]at hy;exact(Qo hy).symm
   subst nr;have o8:pidx es[i].2.1.length j<es[i].2.1.length:=by unfold pidx;split<;>lia
   have tN:=k3 _ _ bJ (by simp[nrd,nrb]);have k4:Keep [] H3 (Q4 t (.tup [Rv j,.str es[i].2.1[j]])):=Keep.new ht;refine⟨t,vG,Rx zab,rfl,_,vG,_,vG,rfl,?_⟩;generalize Q4 t (.tup [Rv j,.str es[i].2.1[j]])=H4 at k4;refine⟨vG,vG,Tg,λv hv=>?_⟩;have k5:Keep [] H4 (QQ v (.tup [.str es[i].1,.str es[i].2.1[j]])):=Keep.new hv;have hv5:(QQ v (.tup [.str es[i].1,.str es[i].2.1[j]])) v=some (.tup [.str es[i].1,.str es[i].2.1[j]]):=zab;generalize QQ v (.tup [.str es[i].1,.str es[i].2.1[j]])=H5 at k5 hv5;have lO:Keep [] H3 H5:=k4.trans k5;have tM:=lO _ _ tN HA;have f8:atI (es[i].2.1.map V.str) ((j:Int)-1)=some (.str es[i].2.1[yW]):=by rw[atI_prev (y8 hj),Qa,Qk,Qb o8];rfl
   refine⟨vG,vG,vG,_,vG,rfl,es[i].2.2,_,_,vG,rfl,Rx tM,f8,vG,Tg,λq hq=>?_⟩;have k6:Keep [] H5 (QZ q (.tup [.str es[i].2.1[yW],.str es[i].1])):=Keep.new hq;have hq6:(QZ q (.tup [.str es[i].2.1[yW],.str es[i].1])) q=some (.tup ((kP (es[i].2.1[yW],es[i].1)).map kV)):=zab;generalize QZ q (.tup [.str es[i].2.1[yW],.str es[i].1])=H6 at k6 hq6;have sM:Keep [] H3 H6:=lO.trans k6;have lu:BAt H6 b mD RZ:=f7.keep sM HA RA;have hv6:=k6 _ _ hv5 HA;have iD:=sM _ _ lR HA;refine⟨b,vG,DPut.t lu.dc hq6 SY,?_⟩;have gI:(es[i].2.1[yW],es[i].1)∉mD.map (·.1):=λz=>by
    rcases(gA _).mp z with⟨z1,_⟩|⟨m,hm,dG,e⟩
    ·exact cH z1
    have e1:=(Jt e).1;have e2:=(Wf aE).mp e1;unfold pidx at e2;by_cases hj0:j=0
    ·lia
    rw[So hj0]at e2;by_cases i6:m=0
    ·rw[if_pos i6]at e2;lia
    rw[if_neg i6]at e2;lia
   have kI:putK (mD.map λe=>(zr,Pn)) (kP (es[i].2.1[yW],es[i].1)) (HK v)=(mD++[((es[i].2.1[yW],es[i].1),v)]).map λe=>(zr,Pn):=by rw[Gq (valT_out gI),Qp];rfl
   have ay:BC (es[i].2.1[yW],es[i].1)=(es[i].1,es[i].2.1[j]):=by show(es[i].1,nxt (ZJ es[i].1) es[i].2.1[yW])=_;rw[ku,nxt_idx aE hj o8]
   refine⟨⟨_,vG⟩,HZ nbd iD,(LC (sM.sub HA)).trans SD,_,⟨by rw[zab,kI],λe he=>?_,?_⟩,?_,λs=>?_⟩
   ·rcases Qm.mp he with z|z
    ·have:=lu.tp e z;rw[zag (za8 this lu.dc HJ)];exact this
    rw[Qd.mp z,ay,zag (za8 hv6 lu.dc HJ)];exact hv6
   ·rw[Qp,Zb];refine⟨f7.nd,C7 ⟨HA,Zk⟩,λx hx y hy e=>?_⟩;have bf:y=(es[i].2.1[yW],es[i].1):=by simpa using hy
    exact gI (by rw[←bf,←e];exact hx)
   ·rw[Za];show _+1≤_;exact zar4 ‹_›
   rw[Qp,Qm,gA];constructor
   ·rintro ((z|⟨m,hm,hp,e⟩)|z)
    ·exact .inl z
    ·exact .inr ⟨m,by exact zar16 ‹_›,hp,e⟩
    exact .inr ⟨j,by exact Qf _,o8,HE z⟩
   rintro (z|⟨m,hm,hp,e⟩)
   ·exact .inl (Rq z)
   by_cases hmj:m < j
   ·exact .inl (SJ ⟨m,hmj,hp,e⟩)
   have:m=j:=by lia
   subst this;exact .inr (HP e Qc)
  rintro σ H3 ⟨⟨y4,y5,rfl⟩,lR,k3,mD,f7,pG,gA⟩;rw[Qa]at gA pG;refine⟨⟨_,_,_,vG⟩,lR,k3,mD,f7,HB,λs=>(gA s).trans ?_⟩;have aZ:(II Rm).map (·.1)=(II i).map (·.1)++[es[i].1]:=by rw[Qh hi,Qp];rfl
  rw[aZ,Qm,Qd];constructor
  ·rintro (⟨z1,z2⟩|⟨m,hm,hp,e⟩)
   ·exact⟨Rq z1,z2⟩
   rw[e];exact⟨SJ rfl,by rw[ku];exact Qq hp⟩
  rintro⟨z1|z1,z2⟩
  ·exact .inl ⟨z1,z2⟩
  refine .inr ?_;rw[z1,ku]at z2;obtain⟨q,hq,e⟩:=Zu z2;by_cases gv:q+1<es[i].2.1.length
  ·have fC:pidx es[i].2.1.length (q+1) < es[i].2.1.length:=by unfold pidx;rw[So HB];assumption
   refine⟨q+1,gv,fC,Wx ?_ z1⟩;show s.1=es[i].2.1[RT (q+1)];rw[←e];congr 1
  have fC:pidx es[i].2.1.length 0 < es[i].2.1.length:=by unfold pidx;rw[C2];lia
  refine⟨0,HB,fC,Wx ?_ z1⟩;show s.1=es[i].2.1[RT 0];rw[←e];congr 1;unfold pidx;rw[if_pos rfl];lia
 rintro σ H2 ⟨⟨x2,x3,x4,x5,rfl⟩,hz,k2,bs,bv,di,br⟩;rw[Qa]at br di;rw[Qr Rf]at br;refine⟨d,o,_,hz,nfz,?_⟩;have kf:Keep [] H (QI d Ry):=λc u ec _=>by
  have nc:c≠b:=W0 hb;by_cases az:c=d
  ·subst az;rw[zab,←T.dc];exact ec
  rw[zag az];exact k2 c u Ab (by simp[az,nc])
 refine⟨vG,k b bs _ (bv.keep (xs:=[d]) SD (by simpa using Zm nbd) (λe he=>by simpa using za8 (bv.tp e he) hz HJ)) (λs=>?_) HB hb kf⟩;rw[br];constructor
 ·exact λh=>h.2
 intro h;refine⟨?_,h⟩;obtain⟨p,hp,e,_⟩:=(zjl (rs:=rsOf es) (by unfold rsOf;rw[List.map_map];exact T.nd)).mpr h;obtain⟨en,bE,rfl⟩:=Qe.mp hp;exact Qe.mpr ⟨en,bE,e⟩
abbrev sFaces:Stmt:=top 14
def zdt(H:Hp)(a:Nb)(h:Str):Prop:=∃t:List Str,H a=some (HR ((h::t).map V.str))
def zf4(es:List Ent):List Str:=(es.filter λe=>e.2.1.isEmpty).map (·.1)
inductive IspFaces(vs:List V)(H:Hp)(Q:VK):Prop
 |mk(d:Nb)(es:List Ent)(cs:List (List (Str×Str)))(a9:Nx)(h0:vs=[.ref d])(h1:TAt H d es)(h2:es.length≤60)(h3:(∀e∈es,e.2.1.length≤100))(h4:Cert (es.map (·.1)) (row (rsOf es)) cs a9)(h5:∀(l:Nb) (as:No) (hd hc:Ng) (cs':List (List (Str×Str))) (H':Hp),H' l=some (.lst (as.map V.ref))→as.length≤20000→Paired (zdt H') as hd→hd.Perm (zf4 es++hc)→cs'.Perm cs→Paired (λh c=>∃s∈c,s.1=h) hc cs'→Keep [] H H'→Q SO H')
def spFaces:Sp:=λvs H Q _=>IspFaces vs H Q
def pt_truthK{X:Cx}{K:Na}{a:Expr}{ta:TE}(hK:X.K=K)(ha:Lz)(he:∀whole,isTrue a X.env whole=(do let v ←whole;standAt a.pos;holding [v] P3)) :
  PT X a (λ σ H Q=>ta σ H λx H'=>RTr K x H' Q):=hK▸zfb ha he
def ndF:(["place", "rounds"]:List Str).Nodup:=by decide+kernel
def valG_out{gs:Nt}{s:Str×Str}(h:s∉gs):valV (gs.map λs=>(yB,LN)) yB=none:=by
 induction gs with
 |nil=>rfl
 |cons a t ih=>
  rw[Qi,not_or]at h;rw[Qn,zbl]
  ·exact ih h.2
  intro q;exact h.1 (kP_inj q).symm
def valG_in{gs:Nt}{s:Str×Str}(h:s∈gs):valV (gs.map λs=>(yB,LN)) yB=some S2:=by
 induction gs with
 |nil=>cases h
 |cons a t ih=>
  rw[Qn];by_cases e:a=s
  ·exact zcj (by rw[e])
  rw[zbl (λq=>e (kP_inj q))];rcases Qi.mp h with z|z
  ·exact absurd z.symm e
  exact ih z
def lk_get{β:Type}{f:β→β}{e:β}:∀{t:List β} {s:β},MM s t e→∀k,k<(s::t).length→f ((s::t).getD k e)=(s::t).getD (k+1) e:=by
 intro t;induction t with
 |nil=>
  intro s h k hk;have:k=0:=by simp at hk;exact hk
  subst this;exact h
 |cons a t ih=>
  intro s h k hk;cases k with
  |zero=>exact h.1
  |succ n=>have:=ih h.2 n wb;simpa using this
def zdh{H H':Hp}{D g:Nb}{fa:No}{hd:Ng}{xs:No}(k:W5 H')(h:yC (zdt H) fa hd)(hx:∀a (h:Str) (t:Ng),H a=some (HR ((h::t).map V.str))→a∉xs):FW hd:=
 Paired.imp' (λa h ⟨t,e⟩=>⟨t,k _ _ e (hx a h t e)⟩) h
def za1{α β:Type}{R:α→β→Prop}:∀{as dC:List α} {bs mE:List β},J9 as bs→J9 dC mE→J9 (as++dC) (bs++mE):=by
 intro as dC bs mE r r';induction r with
 |nil=>exact r'
 |cons h t ih=>exact .cons h ih
def zdl:zam ["rounds", "behind", "found", "gone", "first", "face", "step"] ["rounds"] (zah sFaces):=fsk
def ok_faces{f fs:Nb}{fd fds:Nu}(F:QD "faces_of" "faces_of" sFaces f fd)(FS:QD "steps_behind" "steps_behind" sSteps fs fds)(bS:WE fds ["rounds"] [])(mS:mg "steps_behind" = some (HK fs))(GS:ZB 1 fs fds ["rounds"] spSteps)(aD:mg "sorted" = none):ZB 2 f fd ["rounds"] spFaces:=by
 refine F.okL zdl HM;obtain⟨d,es,cs,a9,rfl,T,aS,aW,C,k⟩:=h;have hu:=zb7 hr;have jg:(A.deeper (PyProof.Rows.envOfC "faces_of" (zah sFaces) s.heap.objs.size f cdv)).units+8<cLine:=Kf (Nat.add_le_add_left (by decide:8≤64) _) hr.units;have ar  :=sizeLine_eq;refine⟨_,zad (NQ zdl.nd (zcq GS hr rfl mS FS.kp bS .nil zcv Ta))
  (zad (zi6 (ps_lc (i:=2) (M:=["place", "rounds"]) (ix:=[none,yX]) zdl.nd rfl rfl (mkB zdl) rfl OB (Eh YX ndF)
    (λC a5 ex s H=>zcp (zc2 (pt_truthK (K:=K) rfl Th (by intro _;rfl)))) (Eh zbs Ta) rfl))
  (zad (Xz zdl.nd pe_dnewT)
  (zad (ZX (EU (PR (zhw rfl) SQ)) (Vy zdl.nd)
   (zad (NS zdl.nd Tq)
   (zad (NT zdl.nd Sy)
   (zad (FX (w6 LI Sn)
    (zad (BB Sn LI pe_bl rfl)
    (zad (EQ SE (Sa Cb))
    (zaf (NT zdl.nd (MQ Rz LI))))))
   (zaf (zbg (zfb SE (by intro _;rfl)) (zaf (EQ Ss PM)) zao))))))
  (zaf (zas (PR (zf8 jg) SR)))))),?_⟩
 have aG:∀e∈es,ZJ e.1=e.2.1:=λe he=>zay T.nd he;refine⟨vG,d,es,rfl,T,aS,λe he=>⟨aG e he▸C.rn e.1,aW e he⟩,λb bs H1 gX br di hbfr k1=>?_⟩;have T1:TAt H1 d es:=NR HA RA;have nfz:∀o' u',H d≠some Tl:=λo' u' z=>by rw[T.dc]at z;cases z
 refine⟨_,rfl,d,_,rfl,T1.dc,λo=>⟨λi m ys τ H2=>Aj6 (m=es.length-i) (i≤es.length) (Ex1 λx0=>τ=[x0,Lb]) (H2 d=some Py) (Keep [d] H1 H2) (Ex1 λ(as:No)=>Aj3 (ys=as.map V.ref) (as.length≤i) (yC (zdt H2) as (zf4 (II i)))),
  ⟨es.length,rfl,SW,⟨none,rfl⟩,zab,L4,[],rfl,SW,.nil⟩,?_⟩⟩
 rintro i m ys τ H2 ⟨rfl,hi,⟨x0,rfl⟩,hz,k2,fa,rfl,gO,lY⟩;by_cases ad:i<es.length
 ·refine .inr ⟨⟨hz,by rw[Qa];exact ad⟩,by rw[Qa];lia,?_⟩;rintro y H' ⟨rfl,pr,e1,rfl⟩;have g1:pr=((Sum.inr es[i].1:Key),V.ref es[i].2.2):=by rw[Qk,Qb ad]at e1;exact(Qo e1).symm
  subst g1;have aU:es[i]∈es:=Qq ad;have du:=T1.ro _ aU;have nri:es[i].2.2≠d:=za8 du T1.dc HJ;have kD:=k2 _ _ du (HE nri);have aZ:es.take Rm=es.take i++[es[i]]:=Qh ad;refine⟨vG,vG,d,.ref es[i].2.2,rfl,Rq ⟨_,Sum.inr es[i].1,SJ ⟨o,hz⟩,rfl,(zcb T.nd aU).symm⟩,_,SJ (Rq ⟨_,SqT.of kD,rfl⟩),?_⟩;have rh:(es[i].2.1.map V.str).isEmpty=es[i].2.1.isEmpty:=by cases es[i].2.1<;>rfl
  cases hb:es[i].2.1.isEmpty with
  |false=>
   refine zau (by rw[rh,hb];rfl) ⟨_,?_,rfl,ad,⟨_,rfl⟩,hz,k2,fa,rfl,by exact zar16 ‹_›,?_⟩
   ·exact zar1 ‹_›
   unfold zf4;rw[aZ,Yp,Zq (by rw[hb];decide),Wk,Zt];exact lY
  |true=>
   refine zbj (by rw[rh,hb];rfl) ⟨_,rfl,OU,λq hq=>⟨_,?_,rfl,ad,⟨_,rfl⟩,?_,LY Iw,fa++[q],?_,?_,?_⟩⟩
   ·exact zar1 ‹_›
   ·rw[zag (VQ hq)];exact hz
   ·rw[Qp];rfl
   ·rw[Za];show _+1≤_;exact zar4 ‹_›
   unfold zf4;rw[aZ,Yp,Zp (by rw[hb]),Wk,Qp];exact za1 (zdh (D:=d) (g:=d) (xs:=[]) Iw lY (λ_ _ _ _=>by simp)) (SA ⟨[],zab⟩)
 have bw:i=es.length:=by exact zar3 ‹_› ‹_›
 subst bw;rw[Qr Rf]at lY;refine .inl ⟨⟨hz,AK⟩,λD hD=>?_⟩;have ndD:d≠D:=VQ hD;refine⟨d,o,_,yD,nfz,?_⟩;have k3:Keep [] H1 (W' Ry):=λc u ec _=>by
  by_cases az:c=d
  ·subst az;rw[zab,←T1.dc];exact ec
  have qd:=k2 c u ec wJ;rw[zag az,zag (yp qd hD)];exact qd
 have cx:(W' Ry) D=some xa:=by rw[zag yE];exact zab
 have dy:Paired (zdt (W' Ry)) fa (zf4 es):=Paired.imp' (λa h ⟨t,e⟩=>⟨t,by rw[zag (za8 e hz HJ),zag (Fc hD)];exact e⟩) lY;generalize W' Ry=H3 at k3 cx dy;have f7:BAt H3 b bs RZ:=gX.keep k3 HA RA;refine λg hg=>?_;have k4:Keep [] H3 (Q4 g (.dT [])):=Keep.new hg;have hg4:(Q4 g (.dT [])) g=some (.dT []):=zab;generalize Q4 g (.dT [])=H4 at k4 hg4;have pL:BAt H4 b bs RZ:=f7.keep k4 HA RA;refine⟨vG,b,_,bs.map (·.1),rfl,pL.dc,(by rw[Zg,Zg];rfl),λl as ws hl af pa=>?_⟩;have k5:Keep [] H4 (QQ l Sl):=Keep.new hl;have de:(QQ l Sl) l=some Sl:=zab;have lM:zbx (QQ l Sl) as ws:=zbx.keep pa λc x y ec=>k5 _ _ ec HA;have nDl:D≠l:=zac (k4 _ _ cx HA) hl;generalize QQ l Sl=H5 at k5 de lM;have lO:Keep [] H3 H5:=k4.trans k5;have pU:=lO _ _ cx HA;have oU:=k5 _ _ hg4 HA;have jC:BAt H5 b bs RZ:=pL.keep k5 HA RA;have iP:Paired (zdt H5) fa (zf4 es):=zdh (D:=d) (g:=d) lO dy (λ_ _ _ _=>by simp);have hV:Keep [] H H5:=(TX k3).trans lO;have nlg:l≠g:=za8 de oU HJ;have nDg:D≠g:=za8 pU oU HJ;have nbg:b≠g:=zac f7.dc hg;have nbD:b≠D:=za8 jC.dc pU HJ;have aT:as.length=ws.length:=Zr lM;have dZ:ws.length≤10000:=by rw[af.length_eq,Qa];exact di
 have notDg:∀{H':Hp} {rQ:No} {gs:Nt},H' D=some (HR (rQ.map V.ref))→H' g=some (.dT (gs.map λs=>(yB,LN)))→∀a (h:Str) (t:Ng),H' a=some (HR ((h::t).map V.str))→a≠D∧a≠g:=λ{H' rQ gs} e1 e2 a h t e=>
  ⟨za8 e e1 (by
   intro z;have z':(h::t).map V.str=rQ.map V.ref:=by injection z
   cases rQ with
   |nil=>cases z'
   |cons x u=>rw[Qn,Qn]at z';injection z' with z1 _;cases z1),za8 e e2 HJ⟩
 refine⟨l,rfl,⟨_,HL de⟩,za2 (xs:=as.map V.ref) (λi σ H'=>Aj3 (Ex3 λx4 x5 x6=>σ=[Lb,HC b,HC D,HC g,x4,x5,x6]) (Keep [D,g] H5 H') (Ex5 λ(gs:Nt) (dn rem:wX (Str×Str)) (fa:No) (hc:Ng)=>Aj9 (H' g=some (.dT (gs.map λs=>(yB,LN)))) gs.Nodup (∀s,s∈gs↔s∈dn.flatten) (cs.Perm (dn++rem)) (∀s∈ws.take i,s∈gs) (H' D=some xa) (FW (zf4 es++hc)) (Paired (λh c=>∃s∈c,s.1=h) hc dn) (fa.length≤100+i)))
  ⟨⟨_,_,_,rfl⟩,Keep.refl,[],[],cs,fa,[],oU,Zk,λs=>Iff.rfl,List.Perm.refl _,λs hs=>(by cases hs),pU,HP Zt iP,.nil,HB⟩
  (λi σ H' _ hh=>SqL.of (C4 de (by simp[Zm nDl,nlg]))) ?_ ?_⟩
 ·rintro i y σ H6 hx ⟨⟨x4,x5,x6,rfl⟩,k6,gs,dn,rem,q5,pF,uu,ur,kY,fE,qG,rF,iO,az,pd⟩;have hi:i<as.length:=by have:=(TJ hx).1;rwa[Qa]at this
  have iE:y=.ref as[i]:=by rw[Qk,Qb hi]at hx;exact(Qo hx).symm
  subst iE;obtain⟨am,ly⟩:=zat lM hi;have nag:as[i]≠g:=za8 ly oU HJ;have naD:as[i]≠D:=za8 ly pU HJ;have pP:=k6 _ _ ly (by simp[nag,naD]);have hZ:ws[i]∈ws:=Qq am;have qQ:ws[i].1∈ZJ ws[i].2:=(br _).mp (af.mem_iff.mp hZ);have hwt:∀{rN:Nt},(∀s∈gs,s∈rN)→ws[i]∈rN→∀s∈ws.take Rm,s∈rN:=λ{rN} h1 h2 s hs=>by
   rw[Qh am]at hs;rcases Qm.mp hs with z|z
   ·exact h1 s (qG s z)
   rw[Qd.mp z];exact h2
  refine⟨Cm,λfl gN=>?_⟩;have k7:Keep [] H6 (YY fl RM):=Keep.new gN;have c8:(YY fl RM) fl=some RM:=zab;have nfD:fl≠D:=Zm (yp rF gN);have nfg:fl≠g:=Zm (yp uu gN);have nafl:as[i]≠fl:=zac pP gN;generalize YY fl RM=H7 at k7 c8;have oT:=k7 _ _ uu HA;have uV:=k7 _ _ rF HA;have pO:=k7 _ _ pP HA;have fT:Keep [D,g] H5 H7:=k6.trans O5;have uL:BAt H7 b bs RZ:=jC.keep fT (by simp[nbD,nbg]) λe he=>by have h1:=jC.tp e he;simp[Do pU HJ,Do oU HJ]
  have nbfl:b≠fl:=za8 uL.dc c8 HJ;have o9:Paired (zdt H7) q5 (zf4 es++pF):=zdh (D:=d) (g:=d) k7 iO (λ_ _ _ _=>by simp);refine⟨vG,?_⟩;by_cases gH:ws[i]∈gs
  ·-- it is gone already
   refine⟨λm σ H'=>Aj2 (σ=[Lb,HC b,HC D,HC g,HW (.ref as[i]),HC fl,HW (.ref as[i])]) (H'=H7),⟨0,rfl,rfl⟩,?_⟩;rintro m σ H' ⟨rfl,rfl⟩;have dg:=DGet.t (k:=kP ws[i]) oT pO;rw[valG_in gH]at dg;exact⟨vG,vG,g,vG,dg,vG,Z2 ⟨vG,_,.inl ⟨_,HL c8,rfl⟩,Z2 ⟨⟨_,_,vG⟩,fT,gs,dn,rem,q5,pF,oT,ur,kY,fE,hwt (λ_ h=>h) gH,uV,o9,az,by exact zar16 ‹_›⟩⟩⟩
  ·-- a new cycle
   obtain⟨c,cP,iL⟩:=Zv.mp ((C.cm ws[i]).mpr qQ);obtain⟨A1,B1,fh⟩:=Yq iL;have mh:=zdc (fh▸Bz cP);generalize hL:ws[i]::(B1++A1)=L;have cw:L.Perm c:=by rw[←hL,fh];refine Jz.mpr λa=>?_;simp only[Kn,Kw];lia
   have c7:=(List.Perm.flatten fE).nodup_iff.mp C.cf;rw[Wv,Zb]at c7;have jB:c∈rem:=by
    rcases Qm.mp (fE.mem_iff.mp cP) with z|z
    ·exact absurd ((kY _).mpr (yz ⟨c,z,iL⟩)) gH
    exact z
   have hLg:∀s∈L,s∉gs:=λs hs hg=>by exact absurd rfl (c7.2.2 s ((kY s).mp hg) s (yz ⟨c,jB,O3 hs⟩))
   have pT:L.Nodup:=by rw[cw.nodup_iff];have:=(zb8 cP).nodup_iff.mp C.cf;rw[Zb]at this;exact this.1
   have pS:∀s∈L,s.1∈ZJ s.2:=λs hs=>C.inc cP (O3 hs);have hLpos:0<L.length:=by rw[←hL];simp
   have ak:gs++L |>.Nodup:=Zb.mpr ⟨ur,pT,λa ha b' cu e=>hLg b' cu (e▸ha)⟩
   have hsz:(gs++L).length≤10000:=by
    refine Zi (nodup_len ak (m:=bs.map (·.1)) λs hs=>?_) (y8 di);rcases Qm.mp hs with z|z
    ·obtain⟨c',cQ,dF⟩:=Zv.mp ((kY s).mp z);exact(br s).mpr (C.inc (fE.mem_iff.mpr (YG cQ)) dF)
    exact(br s).mpr (pS s z)
   rw[Za]at hsz;have iT:∀k (hk:k<L.length),BC L[k]=L.getD (k+1) ws[i]:=λk hk=>by have:=lk_get mh k (HP hL hk);rw[hL,Ze,Qb hk]at this;exact this
   refine⟨λm σ H'=>Ex2 λ(k:Nat) (t:Nb)=>Aj7 (m=L.length-k) (k≤L.length) (σ=[Lb,HC b,HC D,HC g,HW (.ref as[i]),HC fl,AL]) (Keep [g,fl] H7 H') (H' g=some (Id k)) (H' fl=some (Sh k)) (H' t=some (.tup [.str (L.getD k ws[i]).1,.str (L.getD k ws[i]).2])),
    ⟨_,0,as[i],rfl,SW,rfl,Keep.refl,by rw[Kz,Zt];exact oT,c8,by rw[←hL];exact pO⟩,?_⟩
   rintro m σ H8 ⟨k8,t,rfl,hk8,rfl,iy,oS,gM,i4⟩;have dg:=DGet.t (k:=kP (L.getD k8 ws[i])) oS i4;by_cases eM:k8<L.length
   ·have gQ:L.getD k8 ws[i]=L[k8]:=by rw[Ze,Qb eM];rfl
    have aZ:L.take (k8+1)=L.take k8++[L[k8]]:=Qh eM;have cH:L[k8]∉gs++L.take k8:=λz=>by
     rcases Qm.mp z with q|q
     ·exact hLg _ (Qq eM) q
     have:=Wc (Uy (k8+1) L) pT;rw[aZ,Zb]at this;exact this.2.2 _ q _ Tk rfl
    rw[gQ]at i4 dg;rw[valG_out cH]at dg;refine⟨vG,vG,g,vG,dg,vG,WX ⟨_,λ σ' H' z=>z,?_⟩⟩;have oC:(Ru k8).length<sizeLine:=by rw[Qa,Za,Zo];lia
    refine⟨vG,vG,g,vG,DPut.t (k:=kP L[k8]) oS i4 oC,?_⟩;have kI:putK (Ru k8) (kP L[k8]) S2=(gs++L.take (k8+1)).map λs=>(yB,LN):=by rw[Gq (valG_out cH),aZ,←Qw,Qp (l₂:=[L[k8]])];rfl
    rw[kI];have ntg:t≠g:=za8 i4 oS HJ;have ntfl:t≠fl:=za8 i4 gM HJ;have k9:Keep [g,fl] H7 (Vc g (Id (k8+1))):=iy.trans SD;have hg9:(Vc g (Id (k8+1))) g=some (Id (k8+1)):=zab;have l0:(Vc g (Id (k8+1))) fl=some (Sh k8):=by rw[zag nfg];exact gM
    have ji:(Vc g (Id (k8+1))) t=some (.tup [.str L[k8].1,.str L[k8].2]):=by rw[zag ntg];exact i4
    generalize Vc g (Id (k8+1))=H9 at k9 hg9 l0 ji;refine⟨vG,.inl ⟨rfl,_,HL l0⟩,vG,t,_,_,vG,rfl,Rx ji,za0 (j:=0) rfl,fl,_,vG,rfl,l0,(by rw[Qa,Qa,Zo];lia),?_⟩;have hfe:((yF k8).map (·.1)).map V.str++[V.str L[k8].1]=((yF (k8+1)).map (·.1)).map V.str:=by rw[aZ,Qp,Qp];rfl
    rw[hfe];have dW:Keep [g,fl] H7 (VR (Sh (k8+1))):=k9.trans SD;have oV:(VR (Sh (k8+1))) g=some (Id (k8+1)):=by rw[zag (Zm nfg)];exact hg9
    have jy:(VR (Sh (k8+1))) fl=some (Sh (k8+1)):=zab;have nU:(VR (Sh (k8+1))) t=some (.tup [.str L[k8].1,.str L[k8].2]):=by rw[zag ntfl];exact ji
    generalize VR (Sh (k8+1))=dD at dW oV jy nU;have lv:BAt dD b bs RZ:=uL.keep dW (by simp[nbg,nbfl]) λe he=>by have h1:=uL.tp e he;simp[Do oT HJ,Do c8 HJ]
    obtain⟨e,he,hee⟩:=Qe.mp ((br L[k8]).mpr (pS _ (Qq eM)));have dg2:=DGet.t (k:=kP L[k8]) lv.dc nU;rw[←hee,valT_in lv.nd he]at dg2;have fZ:=lv.tp e he;rw[hee,iT k8 eM]at fZ;refine⟨vG,vG,b,vG,dg2,L.length-(k8+1),Ra,k8+1,e.2,rfl,eM,rfl,dW,oV,jy,fZ⟩
   have hk:k8=L.length:=by exact zar3 ‹_› ‹_›
   subst hk;have gQ:L.getD L.length ws[i]=ws[i]:=by rw[Ze,Wy Rf];rfl
   rw[Qr Rf]at oS gM dg;have hwL:ws[i]∈L:=by rw[←hL];exact Qc
   rw[gQ,valG_in (WI hwL)]at dg;refine⟨vG,vG,g,vG,dg,vG,Z2 ?_⟩;have au:((L.map (·.1)).map V.str).isEmpty=false:=by rw[←hL];rfl
   refine⟨vG,_,.inl ⟨_,HL gM,rfl⟩,zbj (by rw[au];rfl) ?_⟩;have hD8:=iy _ _ uV (by simp[nDg,Zm nfD]);refine⟨vG,.inl ⟨rfl,_,HL hD8⟩,vG,D,_,vG,rfl,hD8,SY,?_⟩;have k9:Keep [D,g] H5 (Vc D (.lst (q5.map V.ref++[HK fl]))):=by
    refine Keep.trans (λc' u' ec cQ=>?_) SD;have h7:=fT c' u' ec cQ;refine iy c' u' h7 ?_;have ncg:c'≠g:=λz=>cQ (by simp[z]);have ncf:c'≠fl:=λz=>by have:=k6 c' u' ec cQ;rw[z,gN]at this;cases this
    simp[ncg,ncf]
   refine⟨⟨_,_,vG⟩,k9,gs++L,dn++[c],rem.erase c,q5++[fl],pF++[ws[i].1],HZ (Zm nDg) oS,ak,λs=>?_,?_,hwt (λs hs=>YG hs) (WI hwL),by rw[zab,Qp];rfl,?_,za1 az (SA ⟨ws[i],iL,rfl⟩),by rw[Za];show _+1≤_;exact zar4 ‹_›⟩
   ·rw[Qm,kY,Wv,Qm,Wi,List.flatten_nil,Zt,cw.mem_iff]
   ·refine fE.trans ?_;rw[Qw];exact Mh (Jv jB)
   rw[← Qw];refine za1 (Paired.imp' (λa h ⟨t,e⟩=>⟨t,?_⟩) o9) (SA ⟨(B1++A1).map (·.1),?_⟩)
   ·have n1:=notDg uV oT a h t e;have naf:a≠fl:=za8 e c8 (by intro z;injection z with z;cases z);rw[zag n1.1];exact iy _ _ e (by simp[n1.2,naf])
   rw[zag nfD,gM,←hL];rfl
 rintro σ H6 ⟨⟨x4,x5,x6,rfl⟩,k6,gs,dn,rem,q5,pF,uu,ur,kY,fE,qG,rF,iO,az,pd⟩;rw[Qa,aT,Qr Rf]at qG;have tP:rem=[]:=by
  cases rem with
  |nil=>rfl
  |cons c rem'=>
   have pE:c∈cs:=fE.mem_iff.mpr ER;obtain⟨s0,t0,ig,_⟩:=Bz pE;have ar:s0∈c:=by rw[ig];exact Qc
   have h1:s0∈ws:=af.mem_iff.mpr ((br s0).mpr (C.inc pE ar));have h2:=(kY s0).mp (qG s0 h1);have h3:=(List.Perm.flatten fE).nodup_iff.mp C.cf;rw[Wv,Zb]at h3;exact absurd rfl (h3.2.2 s0 h2 s0 (yz ⟨c,Qc,ar⟩))
 rw[tP,Zt]at fE;refine⟨vG,D,vG,HL rF,λv hv=>?_,λl7 ws7 bD kK=>?_⟩
 ·obtain⟨a,ha,rfl⟩:=Qe.mp hv;obtain⟨j,hj,rfl⟩:=Zu ha;obtain⟨_,t,e⟩:=zat iO hj;exact⟨_,vG,e⟩
 obtain⟨fj,rfl,bn⟩:=refs_perm kK;obtain⟨hd7,bX,cb⟩:=zex bn iO;refine k l7 fj hd7 pF dn _ zab (by rw[bn.length_eq];rw[Qa]at pd;lia) (Paired.imp' (λa h ⟨t,e⟩=>⟨t,HZ (Fc bD) e⟩) cb) bX fE.symm az ((λc u ec _=>?_));have nD:c≠D:=λz=>by
  by_cases zd:c=d
  ·exact ndD (zd▸z)
  have h2:=k2 c u Ab (HE zd);rw[z,hD]at h2;cases h2
 have nG:c≠g:=λz=>by have h1:=k3 c u Ab HA;rw[z,hg]at h1;cases h1
 have:=k6 c u (hV c u ec HA) (by simp[nD,nG]);rw[zag (zac this bD)];exact this
abbrev zh2:Stmt:=top 15
abbrev zi1:Stmt:=top 16
def marks(ks:Ng):List (Key×V):=ks.map λz=>((Sum.inr z:Key),LN)
def zir(h:x∉ks):valV (marks ks) IH=none:=by
 unfold marks;induction ks with
 |nil=>rfl
 |cons a t ih=>
  rw[Qi,not_or]at h;rw[Qn,zbl]
  ·exact ih h.2
  intro q;exact h.1 (Wg q).symm
def valM_in(h:x∈ks):valV (marks ks) IH=some S2:=by
 unfold marks;induction ks with
 |nil=>cases h
 |cons a t ih=>
  rw[Qn];by_cases e:a=x
  ·exact zcj (by rw[e])
  rw[zbl (λq=>e PY)];rcases Qi.mp h with z|z
  ·exact absurd z.symm e
  exact ih z
def putM_new(h:x∉ks):Mu S2=marks (ks++[x]):=by rw[Gq (zir h)];unfold marks;rw[List.map_append];rfl
def putM_old(h:x∈ks):Mu S2=marks ks:=by
 unfold putK marks;rw[if_pos]
 ·rw[Zg];refine Yj λz _=>?_;show(if(Sum.inr z:Key)=Sum.inr x then((Sum.inr z:Key),LN) else(ES,LN))=_;split<;>rfl
 exact Yi.mpr ⟨_,TW ⟨x,h,rfl⟩,HA⟩
def mkeys(ks:Ng):((marks ks).map λp=>kV p.1)=ks.map V.str:=by unfold marks;rw[List.map_map];rfl
inductive IspPiece(vs:List V)(H:Hp)(Q:VK):Prop
 |mk(d:Nb)(es:List Ent)(cs:List (List (Str×Str)))(a9:Nx)(x:Str)(h0:vs=[.ref d,.str x])(h1:TAt H d es)(h2:es.length≤60)(h3:Cert (es.map (·.1)) (row (rsOf es)) cs a9)(h4:x∈es.map (·.1))(h5:∀(l:Nb) (zs:Ng) (H':Hp),H' l=some (.lst (zs.map V.str))→zs.Nodup→zs.Pairwise leS→(∀y,y∈zs↔y∈es.map (·.1)∧a9 y=a9 x)→H l=none→Keep [] H H'→Q (.ref l) H')
def spPiece:Sp:=λvs H Q _=>IspPiece vs H Q
def seqO(b:Bool)(xs:List V):HO:=bif b then .tup xs else .lst xs
structure GAt(b:Bool)(H:Hp)(d:Nb)(es:List Ent):Prop where
 dc:H d=some Ry
 ro:∀e∈es,H e.2.2=some (seqO b CQ)
 nd:(es.map (·.1)).Nodup
def GAt.keep(r:GAt b H d es)(k:W5 H')(hd:d∉xs)(h:∀e∈es,e.2.2∉xs):GAt b H' d es:=⟨zJ,λe he=>k _ _ E9 (h e he),r.nd⟩
def SqB(b:Bool)(K:Na)(H:Hp)(a:Nb)(xs:List V):Prop:=bif b then KD a xs else YE xs
def ItB(b:Bool)(K:Na)(a:Nb):It:=bif b then Gi a else KU a
def SqB.of{b:Bool}{K:Na}{H:Hp}{a:Nb}{xs:List V}(h:H a=some (seqO b xs)):Gr H a xs:=by
 cases b
 ·exact SqL.of h
 exact SqT.of h
def GAt.sq{b:Bool}{K:Na}{H:Hp}{d:Nb}{es:List Ent}{e:Ent}(r:GAt b H d es)(he:e∈es):Gr H e.2.2 CQ:=SqB.of E9
def iB(b:Bool)(K:Na)(tl:TE):TI:=λ σ H R=>tl σ H λx H1=>RI1 x (λa=>∃xs,Gr H1 a xs) λa=>R (Gs a) H1
def pi_b(b:Bool){X:Cx}{tg l:Expr}{tl:TE}(hl:OY):YR l (iB b X.K tl):=by
 cases b
 ·exact zan hl
 exact pi_tup hl
def for_b(b:Bool){K:Na}{a:Nb}{xs:List V}{g:TG}{tb:TS}{D:Ends}{σ:St}{H:Hp}(Pv:Nat→St→Hp→Prop)(h0:Ch)(hl:∀i σ H,i≤xs.length→Pv i σ H→Gr H a xs)(hs:∀i x σ H,xs[i]?=some x→Pv i σ H→g x σ H λ σ2 H2=>tb {D with nx:=Pv Rm,ct:=Pv Rm,bk:=D.nx} σ2 H2)(hd:∀σ H,Pv xs.length σ H→WW H) :
  ∃W:Nat→Nat→St→Hp→Prop,(∃m,W 0 m σ H)∧∀i m σ H,W i m σ H →
   ((Gs a).stop i H∧WW H)∨((Gs a).go i H∧∃N:St→Hp→Prop,Rk∧∀x H',(Gs a).yld i H x H'→g x σ H' λ σ2 H2=>tb {D with nx:=N,ct:=N,bk:=D.nx} σ2 H2):=by
 cases b
 ·exact za2 Pv h0 hl hs hd
 exact for_tup Pv h0 hl hs hd
inductive IspPieceG(b:Bool)(vs:List V)(H:Hp)(Q:VK):Prop
 |mk(d:Nb)(es:List Ent)(x:Str)(h0:vs=[.ref d,.str x])(h1:GAt b H d es)(h2:es.length≤60)(h3:∀z y,y∈row (rsOf es) z→y∈es.map (·.1))(h4:x∈es.map (·.1))(h5:∀(l:Nb) (zs:Ng) (H':Hp),H' l=some (.lst (zs.map V.str))→zs.Nodup→zs.Pairwise leS→(∀y,y∈zs↔Conn (row (rsOf es)) x y)→H l=none→Keep [] H H'→Q (.ref l) H')
def spPieceG(b:Bool):Sp:=λvs H Q _=>IspPieceG b vs H Q
def zg3:zam ["rounds", "start", "reached", "waiting", "place", "other"] ["rounds", "start"] (zah zh2):=fsk
def ok_pieceG(b:Bool){f:Nb}{fd:Nu}(F:QD "piece_from" "piece_from" zh2 f fd)(aD:mg "sorted" = none):ZB 1 f fd ["rounds", "start"] (spPieceG b):=by
 refine F.okL zg3 HM;obtain⟨d,es,x,rfl,T,aS,gT,hx,k⟩:=h;have hu:=zb7 hr;have ar  :=sizeLine_eq;refine⟨_,zad (NU zg3.nd (pe_disp (pps_cons Rz pe_bl pps_nil) rfl rfl HH HH))
  (zad (Xz zg3.nd (zbs SQ))
  (zad (FX (zfb Sn (by intro _;rfl))
   (zad (XA zg3.nd (pe_bm0 Zw PySem.F.slot_list_pop PySem.F.type_list_pop mt_pop Sn))
   (zaf (ZX (pi_b b (QT Sy)) (BA zg3.nd)
    (zaf (zbg (w6 SE Ss)
     (zad wK
     (zaf (EQ Sn PM))) zao))))))
  (zaf (zas (yG SR))))),?_⟩
 have aG:∀e∈es,ZJ e.1=e.2.1:=λe he=>zay T.nd he;refine λre cF=>⟨_,rfl,zab,[(IH,S2)],rfl,(by show 1≤15;decide),?_⟩;have i6:(zia [] [((Sum.inr x:Key),LN)])=marks [x]:=rfl;rw[i6];have kre:Keep [] H (upd (ZR re (.dK [])) re (.dK (marks [x]))):=by rw[upd_upd];exact Keep.new cF
 have eI:(upd (ZR re (.dK [])) re (.dK (marks [x]))) re=some (.dK (marks [x])):=zab;generalize upd (ZR re (.dK [])) re (.dK (marks [x]))=H1 at kre eI;refine⟨vG,OU,λwa sY=>?_⟩;have k2:Keep [] H (QA wa (.lst [Tt])):=kre.trans (HV sY);have jX:H wa=none:=zav (xs:=[]) kre sY HA;have nK:(QA wa (.lst [Tt])) wa=some (HR ([x].map V.str)):=zab;have qv:re≠wa:=zac eI sY;have gk:(QA wa (.lst [Tt])) re=some (.dK (marks [x])):=by rw[zag qv];exact eI
 generalize QA wa (.lst [Tt])=H2 at k2 nK gk;have T2:GAt b H2 d es:=T.keep k2 HA RA;have sD:d≠re:=MP cF;have ndw:d≠wa:=MP jX;have rowne:∀e∈es,e.2.2≠re∧e.2.2≠wa:=λe he=>⟨yp (T.ro e he) cF,yp (T.ro e he) jX⟩;refine⟨λm σ H'=>Aj3 (Ex2 λx4 x5=>σ=[Lb,S4 x,HC re,HC wa,x4,x5]) (Keep [re,wa] H2 H') (Ex2 λ(ks wl:Ng)=>Aj9 (H' re=some wL) (H' wa=some (HR (wl.map V.str))) ks.Nodup wl.Nodup (∀z∈wl,z∈ks) (∀z∈ks,z∈es.map (·.1)∧Dp z) (x∈ks) (∀z∈ks,z∉wl→∀y∈ZJ z,y∈ks) (m=es.length+wl.length-ks.length)),
  ⟨_,⟨none,none,rfl⟩,Keep.refl,[x],[x],gk,nK,C7 ⟨HA,Zk⟩,C7 ⟨HA,Zk⟩,λz h=>h,λz h=>(by rw[Qd.mp h];exact⟨hx,.refl⟩),Qc,λz h h'=>absurd h h',rfl⟩,?_⟩
 rintro m σ H3 ⟨⟨x4,x5,rfl⟩,k3,ks,wl,cE,jZ,cK,dY,qF,eS,hxk,cO,rfl⟩;have hkle:ks.length≤es.length:=by have:=zcn cK (m:=es.map (·.1)) λz hz=>(eS z hz).1;rwa[Qa]at this
 have nH:wl.length≤ks.length:=zcn dY qF;refine⟨vG,_,.inl ⟨_,HL jZ,rfl⟩,?_⟩;rcases List.eq_nil_or_concat wl with dZ|⟨ini,z,dZ⟩
 ·-- all are reached
  subst dZ;refine Z2 ⟨vG,re,_,ks,rfl,Rq cE,mkeys ks,λl zs hl af aV=>?_⟩;have kf:Keep [] H H3:=λc u ec _=>k3 c u (k2 c u ec HA) (by simp[W0 cF,W0 jX]);refine k l zs _ zab (af.nodup_iff.mpr cK) (aV HB) (λy=>?_) (zav kf hl HA) (kf.trans zt);rw[af.mem_iff];constructor
  ·exact λh=>(eS y h).2
  intro hc;induction hc with
  |refl=>exact hxk
  |step _ hz ih=>exact cO _ ih HA _ hz
 rw[List.concat_eq_append]at dZ;subst dZ;refine zbj (by rw[Qp];cases ini<;>rfl) ⟨_,λ σ' H' zz=>zz,?_⟩;have dE:z∈ks:=qF z ER;obtain⟨en,bE,cU⟩:=Qe.mp (eS z dE).1;have nn:en.1=z:=cU;rw[Zb]at dY;obtain⟨aw,_,uD⟩:=dY;have hzi:z∉ini:=λq=>uD z q z Qc rfl;have gv:((ini++[z]).map V.str)[((ini++[z]).map V.str).length-1]?=some xo:=by rw[Qp,Za,Xa HA];simp
 have lg:((ini++[z]).map V.str).dropLast=ini.map V.str:=by rw[Qp];exact List.dropLast_concat
 refine⟨vG,.inl ⟨rfl,_,HL jZ⟩,wa,_,vG,rfl,jZ,gv,?_⟩;rw[lg];have k4:Keep [re,wa] H2 (Q4 wa Lm):=k3.trans SD;have nI:(Q4 wa Lm) wa=some Lm:=zab;have gj:(Q4 wa Lm) re=some wL:=by rw[zag qv];exact cE
 generalize Q4 wa Lm=H4 at k4 nI gj;have T4:GAt b H4 d es:=T2.keep k4 (by simp[sD,ndw]) λe he=>by simp[(rowne e he).1,(rowne e he).2]
 have dg:DGet H4 d xo IT:=by have:=DGet.k (k:=Sum.inr en.1) T4.dc;rw[zcb T4.nd bE,nn]at this;exact this
 have hrz:ZJ z=en.2.1:=by rw[←nn];exact aG en bE
 refine⟨_,rfl,_,rfl,d,_,rfl,dg,en.2.2,rfl,⟨_,GAt.sq T4 bE⟩,for_b b (xs:=en.2.1.map V.str) (λj σ H'=>Aj3 (Ex1 λx5=>σ=[Lb,S4 x,HC re,HC wa,S4 z,x5]) (Keep [re,wa] H2 H') (Ex1 λ(nw:Ng)=>Aj5 (H' re=some (TN (ks++nw))) (H' wa=some (HR ((ini++nw).map V.str))) ((ks++nw).Nodup) (∀y∈nw,y∈es.map (·.1)∧Dp y) (∀y∈en.2.1.take j,y∈ks++nw)))
  ⟨⟨_,rfl⟩,k4,[],HP Zt gj,HP Zt nI,HP Zt cK,λy hy=>(by cases hy),λy hy=>(by cases hy)⟩
  (λj σ H' _ hh=>(SqB.of (C4 (T2.ro en bE) (by simp[(rowne en bE).1,(rowne en bE).2])))) ?_ ?_⟩
 ·rintro j y σ H5 hy ⟨⟨y5,rfl⟩,k5,nw,c9,iI,dA,eJ,f'⟩;have hj:j<en.2.1.length:=by have:=(TJ hy).1;rwa[Qa]at this
  have nr:y=.str en.2.1[j]:=by rw[Qk,Qb hj]at hy;exact(Qo hy).symm
  subst nr;have ny:en.2.1[j]∈ZJ z:=by rw[hrz];exact Qq hj
  have aZ:en.2.1.take (j+1)=en.2.1.take j++[en.2.1[j]]:=Qh hj;have hsz:(ks++nw).length≤es.length:=by
   have:=zcn dA (m:=es.map (·.1)) λq hq=>by
    rcases Qm.mp hq with h|h
    ·exact(eS q h).1
    exact(eJ q h).1
   rwa[Qa]at this
  have rV:=DGet.k (k:=Sum.inr en.2.1[j]) c9;by_cases aw:en.2.1[j]∈ks++nw
  ·rw[valM_in aw]at rV;refine⟨vG,vG,re,vG,rV,vG,Z2 ⟨⟨vG⟩,k5,nw,c9,iI,dA,eJ,λq hq=>?_⟩⟩;rw[aZ]at hq;rcases Qm.mp hq with h|h
   ·exact f' q h
   rw[Qd.mp h];exact aw
  rw[zir aw]at rV;refine⟨vG,vG,re,vG,rV,vG,WX ⟨vG,vG,re,vG,DPut.k (k:=Sum.inr en.2.1[j]) c9 (by unfold marks;rw[List.length_map];lia),?_⟩⟩;rw[putM_new aw];have jY:(QZ re (TN (ks++nw++[en.2.1[j]]))) wa=some (HR ((ini++nw).map V.str)):=by rw[zag (Zm qv)];exact iI
  have eG:(QZ re (TN (ks++nw++[en.2.1[j]]))) re=some (TN (ks++nw++[en.2.1[j]])):=zab;have k6:Keep [re,wa] H2 (QZ re (TN (ks++nw++[en.2.1[j]]))):=k5.trans SD;generalize QZ re (TN (ks++nw++[en.2.1[j]]))=H6 at jY eG k6;rw[Za]at hsz;rw[Za,Qy,Uh]at nH;refine⟨vG,.inl ⟨rfl,_,HL jY⟩,vG,wa,_,vG,rfl,jY,(by rw[Qa,Za];lia),⟨vG⟩,OI SD,nw++[en.2.1[j]],by rw[zag qv,←Qw];exact eG,by rw[zab,←Qw,Qp (l₂:=[en.2.1[j]])];rfl,?_,λq hq=>?_,λq hq=>?_⟩
  ·rw[← Qw,Zb];refine⟨dA,C7 ⟨HA,Zk⟩,λa ha b hb e=>?_⟩;rw[Qd.mp hb]at e;exact aw (e▸ha)
  ·rcases Qm.mp hq with h|h
   ·exact eJ q h
   rw[CI h];exact⟨gT z _ ny,.step (eS z dE).2 ny⟩
  rw[aZ]at hq;rw[←Qw];rcases Qm.mp hq with h|h
  ·exact YG (f' q h)
  exact WI h
 rintro σ H5 ⟨⟨y5,rfl⟩,k5,nw,c9,iI,dA,eJ,f'⟩;rw[Qa,Qr Rf]at f';have hsz:(ks++nw).length≤es.length:=by
  have:=zcn dA (m:=es.map (·.1)) λq hq=>by
   rcases Qm.mp hq with h|h
   ·exact(eS q h).1
   exact(eJ q h).1
  rwa[Qa]at this
 have gq:=dA;rw[Zb]at gq;refine⟨es.length+(ini++nw).length-(ks++nw).length,?_,⟨_,vG⟩,k5,ks++nw,ini++nw,c9,iI,dA,?_,?_,?_,YG hxk,?_,rfl⟩
 ·rw[Za]at hsz;rw[Za,Za,Za,Qy,Uh];rw[Za,Qy,Uh]at nH;lia
 ·rw[Zb];refine⟨aw,gq.2.1,λa ha b hb e=>gq.2.2 a (qF a (YG ha)) b hb e⟩
 ·intro q hq;rcases Qm.mp hq with h|h
  ·exact YG (qF q (YG h))
  exact WI h
 ·intro q hq;rcases Qm.mp hq with h|h
  ·exact eS q h
  exact eJ q h
 intro q hq kE y hy;rw[Qm,not_or]at kE;rcases Qm.mp hq with h|h
 ·by_cases hqz:q=z
  ·rw[hqz,hrz]at hy;exact f' y hy
  exact YG (cO q h (by rw[Qm,not_or,Qd];exact⟨kE.1,hqz⟩) y hy)
 exact absurd h kE.2
def ok_piece(F:QD "piece_from" "piece_from" zh2 f fd)(aD:mg "sorted" = none):ZB 1 f fd ["rounds", "start"] spPiece:=
 (ok_pieceG true F aD).imp λvs H Q E ⟨d,es,cs,a9,x,e,T,aS,C,hx,k⟩=>⟨d,es,x,e,⟨T.dc,T.ro,T.nd⟩,aS,λz y h=>C.inn' h,hx,λl zs H' h1 h2 h3 h4=>k l zs H' h1 h2 h3 λy=>(h4 y).trans ⟨λh=>by
  induction h with
  |refl=>exact⟨hx,rfl⟩
  |step _ ny ih=>exact⟨C1 ny,(C.la _ _ ny).trans ih.2⟩,λh=>C.co x hx y h.1 h.2.symm⟩⟩
def IsPiece(ns:Ng)(a9:Nx)(zs:Ng):Prop:=zs.Nodup∧∃s∈ns,∀y,y∈zs↔y∈ns∧a9 y=a9 s
structure InRow(ns:Ng)(zss:List (List Str)):Prop where
 so:∀zs∈zss,zs.Pairwise leS
 hd:zss.Pairwise λa b=>∀x∈a.head?,∀y∈b.head?,leS x y
 al:∀y∈ns,∃zs∈zss,y∈zs
def zht(H:Hp)(a:Nb)(zs:Ng):Prop:=H a=some Iv
inductive IspPieces(vs:List V)(H:Hp)(Q:VK):Prop
 |mk(d:Nb)(es:List Ent)(cs:List (List (Str×Str)))(a9:Nx)(h0:vs=[.ref d])(h1:TAt H d es)(h2:es.length≤60)(h3:Cert (es.map (·.1)) (row (rsOf es)) cs a9)(h4:∀(l:Nb) (as:No) (zss:List (List Str)) (H':Hp),H' l=some (.lst (as.map V.ref))→Paired (zht H') as zss→(∀zs∈zss,IsPiece (es.map (·.1)) a9 zs)→InRow (es.map (·.1)) zss→Keep [] H H'→Q (.ref l) H')
def spPieces:Sp:=λvs H Q _=>IspPieces vs H Q
def zee:zam ["rounds", "found", "reached", "start", "piece", "place"] ["rounds"] (zah zi1):=fsk
def ok_pieces(F:QD "pieces_of" "pieces_of" zi1 f fd)(FP:QD "piece_from" "piece_from" zh2 fp fdp)(bP:WE fdp ["rounds", "start"] [])(mP:mg "piece_from" = some (HK fp))(GP:ZB 1 fp fdp ["rounds", "start"] spPiece)(aD:mg "sorted" = none):ZB 2 f fd ["rounds"] spPieces:=by
 refine F.okL zee HM;obtain⟨d,es,cs,a9,rfl,T,aS,C,k⟩:=h;have hu:=zb7 hr;have ar  :=sizeLine_eq;refine⟨_,zad (NQ zee.nd Tq)
  (zad (NU zee.nd zei)
  (zad (ZX (EU (yG Ta)) (NO zee.nd)
   (zaf (zbg (w6 Sn Ss)
    (zad (XA zee.nd (Dq bP .nil zcv (ZP Tw)))
    (zad (EQ Rz TQ)
    (zaf (ZX (EU Sy) (BA zee.nd)
     (zaf wK))))) zao)))
  (zaf (zas Rz)))),?_⟩
 refine⟨Cm,λfo iU re cF=>?_⟩;have gh:H re=none:=zav (xs:=[]) (HV iU) cF HA;have sC:fo≠re:=zac (o:=_) zab cF;have k1:Keep [] H (upd Ac re (.dK [])):=(HV iU).trans (HV cF);have gL:(upd Ac re (.dK [])) fo=some RM:=by rw[zag sC];exact zab
 have eI:(upd Ac re (.dK [])) re=some (.dK []):=zab;generalize upd Ac re (.dK [])=H1 at k1 gL eI;have T1:TAt H1 d es:=NR HA RA;refine⟨vG,d,_,es.map (·.1),rfl,.inl T1.dc,zfj es,λl ws hl af aV=>?_⟩;replace aV:=aV SY;have k2:Keep [] H1 (QA l Se):=Keep.new hl;have av:(QA l Se) l=some Se:=zab;have nlf:l≠fo:=Zm (yp gL hl);generalize QA l Se=H2 at k2 av;have kZ:=k2 _ _ gL HA;have gk:=k2 _ _ eI HA;have nlr:l≠re:=za8 av gk HJ;have T2:TAt H2 d es:=T1.keep k2 HA RA;have kk2:Keep [] H H2:=k1.trans k2;have ndf:d≠fo:=MP iU;have sD:d≠re:=MP gh;have dZ:ws.length=es.length:=by rw[af.length_eq,Qa]
 refine⟨l,rfl,⟨_,A0⟩,zfl (zs:=ws) (λi σ H'=>Aj3 (Ex3 λx3 x4 x5=>σ=[Lb,HC fo,HC re,x3,x4,x5]) (Keep [fo,re] H2 H') (Ex3 λ(as:No) (zss:wX Str) (ks:Ng)=>Aj8 (H' fo=some Sl) (H' re=some wL) (yC (zht H') as zss) (∀zs∈zss,IsPiece (es.map (·.1)) a9 zs) (as.length≤i) ks.Nodup (∀z∈ks,z∈es.map (·.1)) (Aj7 (∀a∈as,a≠fo) (∀y∈ws.take i,y∈ks) (∀y∈ks,∃zs∈zss,y∈zs) (∀zs∈zss,∀y∈zs,y∈ks) (∀zs∈zss,∀x∈zs.head?,x∈ws.take i) (zss.Pairwise λa b=>∀x∈a.head?,∀y∈b.head?,leS x y) (∀zs∈zss,zs.Pairwise leS))))
  ⟨⟨_,_,_,rfl⟩,Keep.refl,[],[],[],kZ,gk,.nil,λzs h=>(by cases h),SW,Zk,λz h=>(by cases h),λz h=>(by cases h),λz h=>(by cases h),λz h=>(by cases h),λz h=>(by cases h),λz h=>(by cases h),List.Pairwise.nil,λz h=>(by cases h)⟩ (λi σ H' _ hh=>SqL.of (C4 av (by simp[nlf,nlr]))) ?_ ?_⟩
 ·rintro i hi σ H3 ⟨⟨x3,x4,x5,rfl⟩,k3,as,zss,ks,gK,cE,dy,kM,uO,cK,i7,iY,c1,c2,c6,c3,c4,c5⟩;have dg:=DGet.k (k:=Sum.inr ws[i]) cE;have T3:TAt H3 d es:=T2.keep k3 (by simp[ndf,sD]) λe he=>by have h1:=T.ro e he;simp[zac h1 iU,zac h1 gh]
  by_cases aw:ws[i]∈ks
  ·rw[valM_in aw]at dg;refine⟨vG,vG,re,vG,dg,vG,Z2 ⟨⟨_,_,vG⟩,k3,as,zss,ks,gK,cE,dy,kM,by exact zar16 ‹_›,cK,i7,iY,λy hy=>?_,c2,c6,λzs h x hx=>Ue (i:=i) (by rw[List.take_take,Nat.min_eq_left (Uo i)];exact c3 zs h x hx),c4,c5⟩⟩;rw[Qh hi]at hy;rcases Qm.mp hy with h|h
   ·exact c1 y h
   rw[Qd.mp h];exact aw
  rw[zir aw]at dg;refine⟨vG,vG,re,vG,dg,vG,WX ?_⟩;have iG:=af.mem_iff.mp wH;refine⟨vG,vG,d,es,cs,a9,ws[i],rfl,T3,aS,C,iG,λp zs H4 bK cU sR cV tW k4=>?_⟩;obtain⟨jN,ul⟩:∃jN,jN=ks:=⟨_,rfl⟩;rw[←ul]at cE cK i7 aw c1 c2 c6;have gJ:=k4 _ _ gK HA;have gj:=k4 _ _ cE HA;have npf:p≠fo:=Zm (yp gK tW);have npr:p≠re:=za8 bK gj HJ;refine⟨vG,.inl ⟨rfl,_,HL gJ⟩,vG,fo,_,vG,rfl,gJ,SY,?_⟩;have k5:Keep [fo,re] H2 (QQ fo (.lst (as.map V.ref++[TB]))):=(LC (k4.sub HA)).trans SD;have p9:(QQ fo (.lst (as.map V.ref++[TB]))) fo=some (HR ((as++[p]).map V.ref)):=by rw[zab,Qp];rfl
  have c9:(QQ fo (.lst (as.map V.ref++[TB]))) re=some (TN jN):=by rw[zag (Zm sC)];exact gj
  have aY:(QQ fo (.lst (as.map V.ref++[TB]))) p=some Iv:=by rw[zag npf];exact bK
  have iP:Paired (zht (QQ fo (.lst (as.map V.ref++[TB])))) (as++[p]) (zss++[zs]):=by
   refine za1 ?_ (SA aY);have:∀{as:No} {zss:List (S1 Str)},Paired (zht H3) as zss→(∀a∈as,a≠fo)→Paired (zht (QQ fo (.lst (as.map V.ref++[TB])))) as zss:=λ{as zss} r ha=>by
    have h2:∀(L:List V),Paired (zht (zu fo L)) as zss:=λL=>by
     induction r with
     |nil=>exact .nil
     |cons h t ih=>exact .cons (by unfold zht;rw[zag (ha _ List.mem_cons_self)];exact k4 _ _ h HA) (ih λa h=>ha a (NZ h))
    exact h2 _
   exact this dy iY
  have pM:∀a∈as++[p],a≠fo:=λa ha=>by
   rcases Qm.mp ha with h|h
   ·exact iY a h
   rw[Qd.mp h];exact npf
  generalize QQ fo (.lst (as.map V.ref++[TB]))=H5 at k5 p9 c9 aY iP;refine⟨_,rfl,p,rfl,⟨_,HL aY⟩,za2 (xs:=zs.map V.str) (λj σ H'=>Aj3 (Ex1 λx5=>σ=[Lb,HC fo,HC re,HW (.str ws[i]),zK,x5]) (Keep [re] H5 H') (Ex1 λ(ks:Ng)=>Aj4 (H' re=some wL) ks.Nodup (∀z∈ks,z∈es.map (·.1)) (∀z,z∈ks↔z∈jN∨z∈zs.take j)))
   ⟨⟨_,rfl⟩,Keep.refl,jN,c9,cK,i7,λz=>⟨.inl,λh=>h.elim id λh=>(by cases h)⟩⟩ (λj σ H' _ hh=>SqL.of (C4 aY (HE npr))) ?_ ?_⟩
  ·rintro j y σ H6 hy ⟨⟨y5,rfl⟩,k6,jM,eG,gB,gC,cI⟩;have hj:j<zs.length:=by have:=(TJ hy).1;rwa[Qa]at this
   obtain⟨z,hz,rfl,ez⟩:∃z,z∈zs∧y=V.str z∧z=zs[j]:=by rw[Qk,Qb hj]at hy;exact⟨zs[j],Qq hj,(Qo hy).symm,rfl⟩
   have step:∀q,(q∈jM∨q=z)↔q∈jN∨q∈zs.take (j+1):=λq=>by rw[cI,Qh hj,Qm,Qd,ez,or_assoc]
   have hsz:jM.length≤es.length:=by have:=zcn gB gC;rwa[Qa]at this
   refine⟨vG,vG,re,vG,DPut.k (k:=Sum.inr z) eG (by unfold marks;rw[List.length_map];lia),⟨vG⟩,OI SD,?_⟩;by_cases dE:z∈jM
   ·exact⟨jM,by rw[zab,putM_old dE],gB,gC,λq=>by rw[←step q];exact⟨.inl,λh=>h.elim id λe=>e▸dE⟩⟩
   refine⟨jM++[z],by rw[zab,putM_new dE],?_,λq hq=>?_,λq=>by rw[← step q,Qm,Qd]⟩
   ·rw[Zb];refine⟨gB,C7 ⟨HA,Zk⟩,λa ha b hb e=>?_⟩;rw[Qd.mp hb]at e;exact dE (e▸ha)
   rcases Qm.mp hq with h|h
   ·exact gC q h
   rw[Qd.mp h];exact((cV z).mp hz).1
  rintro σ H6 ⟨⟨y5,rfl⟩,k6,jM,eG,gB,gC,cI⟩;rw[Qa,Qr Rf]at cI;have nF:ws[i]∈zs:=(cV _).mpr ⟨iG,rfl⟩;have jx:zs.head?=some ws[i]:=by
   cases nh:zs with
   |nil=>rw[nh]at nF;cases nF
   | cons m t=>
    have hmz:m∈zs:=by rw[nh];exact Qc
    obtain⟨ox,qZ⟩:=(cV m).mp hmz;obtain⟨j,hj,ej⟩:=Zu (af.mem_iff.mpr ox);have h1:leS m ws[i]:=by
     rw[nh]at nF sR;rcases Qi.mp nF with q|q
     ·rw[q];exact λz=>Uf _ z
     exact(Kh.mp sR).1 _ q
    have dh:i≤j:=Xr λad=>by have i6:m∈jN:=c1 m (by rw[←ej,←Jr (j:=i) (h:=by rw[Zo];lia)];exact Qq _);obtain⟨j6,dq,ua⟩:=c2 m i6;obtain⟨_,s,_,hs⟩:=kM j6 dq;exact aw (c6 j6 dq _ ((hs _).mpr ⟨iG,qZ.symm.trans ((hs m).mp ua).2⟩))
    have h2:leS ws[i] m:=by
     rcases Nat.lt_or_eq_of_le dh with q|q
     ·rw[←ej];exact Xd.mp aV i j hi hj q
     subst q;rw[ej];exact λz=>Uf _ z
    rw[leS_anti _ _ h1 h2];rfl
  have tk:ws.take Rm=ws.take i++[ws[i]]:=Qh hi;refine⟨⟨_,_,vG⟩,CD Ie,as++[p],zss++[zs],jM,k6 _ _ p9 (HE sC),eG,Paired.imp' (λa zs h=>k6 _ _ h (by simpa using za8 h c9 HJ)) iP,λq hq=>?_,by rw[Za];show _+1≤_;exact zar4 ‹_›,gB,gC,pM,λy hy=>?_,λy hy=>?_,λq hq y hy=>?_,λq hq x hx=>?_,?_,λq hq=>?_⟩
  ·rcases Qm.mp hq with h|h
   ·exact kM q h
   rw[Qd.mp h];exact⟨cU,ws[i],iG,cV⟩
  ·rw[tk]at hy;rcases Qm.mp hy with h|h
   ·exact(cI y).mpr (Rq (c1 y h))
   rw[Qd.mp h];exact(cI _).mpr (SJ nF)
  ·rcases (cI y).mp hy with h|h
   ·obtain⟨z,hz,nr⟩:=c2 y h;exact⟨z,YG hz,nr⟩
   exact⟨zs,ER,h⟩
  ·rcases Qm.mp hq with h|h
   ·exact(cI y).mpr (Rq (c6 q h y hy))
   rw[Qd.mp h]at hy;exact(cI y).mpr zf
  ·rw[tk];rcases Qm.mp hq with h|h
   ·exact YG (c3 q h x hx)
   rw[CI h,jx]at hx;rw[←Qo hx];exact WI Qc
  ·rw[List.pairwise_append];refine⟨c4,Xt _ _,λa ha b hb x hx y hy=>?_⟩;rw[Qd.mp hb,jx]at hy;rw[←Qo hy];obtain⟨j,hj,ej⟩:=Zu (c3 a ha x hx);rw[Zo]at hj;rw[←ej,Jr];exact Xd.mp aV j i HB hi HB
  rcases Qm.mp hq with h|h
  ·exact c5 q h
  rw[Qd.mp h];exact sR
 rintro σ H3 ⟨⟨x3,x4,x5,rfl⟩,k3,as,zss,ks,gK,cE,dy,kM,uO,cK,i7,iY,c1,c2,c6,c3,c4,c5⟩;rw[Qa,Qr Rf]at c1;refine⟨vG,k fo as zss H3 gK dy kM ⟨c5,c4,λy hy=>c2 y (c1 y (af.mem_iff.mpr hy))⟩ λc u ec _=>k3 c u (kk2 c u ec HA) (by simp[W0 iU,W0 gh])⟩
end
end K21
namespace L2
open PySem
def zf2(T:St→Prop)(q:V→Bool)(ha:YE xs)(hn:xs.length≤sizeLine)(h0:T τ)(hs:∀x∈xs,∀τ,T τ→∀(k1:V→St→Hp→Prop) (k0:St→Hp→Prop),(q x=true→∀τ2,T τ2→k1 x τ2 H)→(q x=false→∀τ2,T τ2→k0 τ2 H)→g x τ H λ τ2 H2=>tc τ2 H2 λb H3=>if b=true then te τ2 H3 λy H4=>k1 y τ2 H4 else k0 τ2 H3)(hq:∀D,H D=none→Q Td (Lc D (xs.filter q))):rLC g tc te Q (KU a) τ H:=by
 refine⟨λi m ys τ H1=>Aj5 (H1=H) (T τ) (m=xs.length-i) (i≤xs.length) (ys=(ED i).filter q),⟨_,rfl,h0,rfl,SW,rfl⟩,?_⟩;rintro i m ys τ H1 ⟨rfl,ht,rfl,hi,rfl⟩;by_cases ad:i<xs.length
 ·have gO:((ED i).filter q).length≤i:=X4 (by rw[Zo];lia);refine .inr ⟨⟨xs,xs[i],ha,xN⟩,HB,?_⟩;rintro x H' ⟨rfl,hx⟩;have dX:=hx xs ha;rw[Qb ad]at dX;have jV:xs[i]=x:=Qo dX;have aZ:xs.take Rm=xs.take i++[x]:=by rw[Qh ad,jV]
  refine hs x (jV▸Qq ad) τ ht (λy τ2 H4=>∃m',m'<xs.length-i∧Aj5 (H4=H') wB (m'=xs.length-Rm) (i+1≤xs.length) ((ED i).filter q++[y]=(ED Rm).filter q))
   (λ τ2 H4=>∃m',m'<xs.length-i∧Aj5 (H4=H') wB (m'=xs.length-Rm) (i+1≤xs.length) ((ED i).filter q=(ED Rm).filter q)) (λtR τ2 h2=>?_) λtR τ2 h2=>?_
  ·exact⟨_,Ra,rfl,h2,rfl,ad,by rw[aZ,Yp,Zp tR,Wk]⟩
  exact⟨_,Ra,rfl,h2,rfl,ad,by rw[aZ,Yp,Zq (by rw[tR];decide),Wk,Zt]⟩
 have e:i=xs.length:=by exact zar3 ‹_› ‹_›
 subst e;refine .inl ⟨⟨xs,ha,Rf⟩,λD hD=>?_⟩;rw[Qr Rf];exact hq D hD
end L2
namespace K21
open PySem L2 Wb
def sum_filter{α:Type}{p:α→Bool}{f:α→Int}:∀l:List α,(l.map λx=>if p x=true then f x else 0).sum=((l.filter p).map f).sum:=by
 intro l;induction l with
 |nil=>rfl
 |cons a t ih=>
  rw[Qn,Zn,ih];by_cases h:p a=true
  ·rw[if_pos h,Zp h,Qn,Zn]
  rw[if_neg h,Zq h];lia
def sum_parts{α:Type}{f:α→List Str}:∀l:List α,(l.map λx=>(2:Int)+(if f x=[] then 2 else 0)-((f x).length:Int)).sum=2*(l.length:Int)+2*((l.filter λx=>(f x).isEmpty).length:Int)-(((l.map λx=>(f x).length).sum:Nat):Int):=by
 intro l;induction l with
 |nil=>rfl
 |cons a t ih=>
  rw[Qn,Zn,ih,Qn,Zn,Qy];by_cases h:f a=[]
  ·rw[Zp (by rw[h];rfl),Qy,if_pos h];lia
  rw[Zq (by rw[List.isEmpty_iff];exact h),if_neg h];lia
def sum_twos{α:Type}{p:α→Bool}:∀l:List α,(l.map λx=>if p x=true then(2:Int) else 0).sum=2*((l.filter p).length:Int):=by
 intro l;induction l with
 |nil=>rfl
 |cons a t ih=>
  rw[Qn,Zn,ih];by_cases h:p a=true
  ·rw[if_pos h,Zp h,Qy];lia
  rw[if_neg h,Zq h];lia
def iso_eq{es:List Ent}(nd:(es.map (·.1)).Nodup):zf4 es=(es.map (·.1)).filter λx=>(ZJ x).isEmpty:=by unfold zf4;rw[Kd];congr 1;exact Xi λe he=>by show e.2.1.isEmpty=(ZJ e.1).isEmpty;rw[Vd he]
def piece_count{es:List Ent}{cs cs':List (S1 (Str×Str))}{a9:Nx}(C:Cert (es.map (·.1)) RZ cs a9){zs hd hc:Ng}(hz:IsPiece (es.map (·.1)) a9 zs)(hh:hd.Perm (zf4 es++hc))(lh:cs'.Perm cs)(hp:Paired (λh c=>∃ s∈c,s.1=h) hc cs') :
  2*zs.length+2*(hd.filter λh=>decide (h∈zs)).length=(zs.map λx=>(ZJ x).length).sum+4:=by
 obtain⟨cU,s,hs,cV⟩:=hz;have heu:=C.eu s hs;have p1:((es.map (·.1)).filter λx=>decide (a9 x=a9 s)).Perm zs:=(Ju (Wc Jg C.nd) cU).mpr λy=>by rw[Zf,decide_eq_true_iff,cV]
 have e1:wt (es.map (·.1)) RZ a9 (a9 s)=2*(zs.length:Int)+2*((zs.filter λx=>(ZJ x).isEmpty).length:Int)-(((zs.map λx=>(ZJ x).length).sum:Nat):Int):=by unfold wt;have:=sum_filter (p:=λx=>decide (a9 x=a9 s)) (f:=λx=>(2:Int)+(if ZJ x=[] then 2 else 0)-((ZJ x).length:Int)) (es.map (·.1));simp only[decide_eq_true_eq]at this;rw[this,zi9 (p1.map _),sum_parts]
 have e2:WS (a9 s)=2*((cs.filter λc=>c.any λu=>decide (a9 u.1=a9 s)).length:Int):=sum_twos _;have e3:(hd.filter λh=>decide (h∈zs)).length=((zf4 es).filter λh=>decide (h∈zs)).length+(hc.filter λh=>decide (h∈zs)).length:=by rw[(hh.filter _).length_eq,Yp,Za]
 have e4:((zf4 es).filter λh=>decide (h∈zs)).length=(zs.filter λx=>(ZJ x).isEmpty).length:=by
  refine List.Perm.length_eq ((Ju ?_ (Wc Jg cU)).mpr λy=>?_)
  ·rw[iso_eq C.nd];exact Wc Jg (Wc Jg C.nd)
  rw[iso_eq C.nd,Zf,Zf,Zf,decide_eq_true_iff];exact⟨λ⟨⟨_,a⟩,b⟩=>⟨b,a⟩,λ⟨a,b⟩=>⟨⟨((cV y).mp a).1,b⟩,a⟩⟩
 have e5:(hc.filter λh=>decide (h∈zs)).length=(cs'.filter λc=>c.any λu=>decide (a9 u.1=a9 s)).length:=by
  have aw:∀c∈cs',c∈cs:=λc h=>lh.mem_iff.mp h;clear lh e3 e4 hh;induction hp with
  |nil=>rfl
  |cons h t ih=>
   rename_i h0 c0 _ _;have iht:=ih λc hc=>aw c (QR hc);obtain⟨u,hu,rfl⟩:=h;have ig:=aw c0 Qc;have hun:u.1∈es.map (·.1):=C.inn' (C.inc ig hu);by_cases hz:u.1∈zs
   ·have hl:=((cV _).mp hz).2;have f9:(c0.any λu=>decide (a9 u.1=a9 s))=true:=Yi.mpr ⟨u,hu,RE hl⟩;rw[Zp Iy,Zp (p:=λc:List (Str×Str)=>c.any λu=>decide (a9 u.1=a9 s)) f9,Qy,Qy,iht]
   rw[Zq Iy,Zq,iht];intro q;obtain⟨v,hv,e⟩:=Yi.mp q;exact hz ((cV _).mpr ⟨hun,(C.one_lab ig hv hu).trans (Tn e)⟩)
 have e6:=(lh.filter λc=>c.any λu=>decide (a9 u.1=a9 s)).length_eq;lia
def ix_listK(hK:X.K=K):IxR X (rIxL K):=hK▸za6
def zc0(hK:X.K=K):YQ (compareOp .In) (rIn K false):=hK▸op_in_seq
def zfp(hK:X.K=K):YJ (.builtin "len") (λxs H Q=>Ex2 λp ys=>Aj3 (xs=[TB]) (YH p ys∨KD p ys) (Q EM H)):=hK▸zaw
abbrev sFlat:Stmt:=top 45
inductive IspFlat(vs:List V)(H:Hp)(Q:VK):Prop
 |mk(d:Nb)(es:List Ent)(cs:List (List (Str×Str)))(a9:Nx)(h0:vs=[.ref d])(h1:TAt H d es)(h2:es.length≤60)(h3:(∀e∈es,e.2.1.length≤100))(h4:Cert (es.map (·.1)) (row (rsOf es)) cs a9)(h5:∀H',Keep [] H H'→Q .non H')
def spFlat:Sp:=λvs H Q _=>IspFlat vs H Q
def ndFB:(["face", "piece"]:List Str).Nodup:=by decide+kernel
def inPc(H:Hp)(zs:Ng):V→Bool
 |.ref a=>match H a with
  |some (.lst (.str h::_))=>decide (h∈zs)
  |_=>false
 |_=>false
def inPc_ref(e:zdt H a h):inPc H zs Sg=decide (h∈zs):=by obtain⟨t,e⟩:=e;show(match H a with|some (.lst (.str h::_))=>decide (h∈zs)|_=>false)=_;rw[e];rfl
def filt_len(r:yC (zdt H) as hd):((as.map V.ref).filter (inPc H zs)).length=(hd.filter λh=>decide (h∈zs)).length:=by
 induction r with
 |nil=>rfl
 |cons h t ih=>
  rename_i a b _ _;rw[Qn];have e:=inPc_ref (zs:=zs) h;by_cases hz:b∈zs
  ·rw[Zp (by rw[e];simpa using hz),Zp Iy,Qy,Qy,ih]
  rw[Zq (by rw[e];simpa using hz),Zq Iy,ih]
def sum_cast(ns:List Nat):(ns.map λn:Nat=>(n:Int)).sum=((ns.sum:Nat):Int):=by
 induction ns with
 |nil=>rfl
 |cons a t ih=>rw[Qn,Zn,Zn,ih];lia
section
variable{P:Nk}{w:Nl}{K:Na}{mg:Nd}{base:Nn}
def zga:zam ["rounds", "found", "piece", "many_places", "many_ties", "many_faces"] ["rounds"] (zah sFlat):=fsk
def ok_flat(F:QD "refuse_not_flat" "refuse_not_flat" sFlat f fd)(FF:QD "faces_of" "faces_of" sFaces ff fdf)(bF:WE fdf ["rounds"] [])(mF:mg "faces_of" = some (HK ff))(GF:ZB 2 ff fdf ["rounds"] spFaces)(FP:QD "pieces_of" "pieces_of" zi1 fp fdp)(bP:WE fdp ["rounds"] [])(mP:mg "pieces_of" = some (HK fp))(GP:ZB 2 fp fdp ["rounds"] spPieces)(ae:mg "len" = none)(tD:mg "sum" = none):ZB 3 f fd ["rounds"] spFlat:=by
 refine F.okL zga HM;obtain⟨d,es,cs,a9,rfl,T,aS,aW,C,k⟩:=h;have hu:=zb7 hr;have ar  :=sizeLine_eq;refine⟨_,zad (NQ zga.nd (Dr bF .nil zcv Ta))
  (zaf (ZX (EU (Dq bP .nil zcv Ta)) (zi8 (i:=2) zga.nd rfl S8)
   (zad (Xz zga.nd (PN SR))
   (zad (XA zga.nd (za7 op_fdiv (zak (call_sum rfl) Rg tD PyProof.Rows.boot_sum (zaa (zdu (M:=["place", "rounds"]) (ix:=[none,yX]) (mkB zga) rfl (EU Ss) (Eh YX ndF) (λC a5 ex s H=>zb1)
      (λC a5 ex s H=>zak (zfp (K:=K) rfl) Rg (RY ae) Yd (Sa Th))) zae)) zai))
   (zad (NS zga.nd (UQ Rg ae Yd (zaa (zdu (M:=["face", "piece"]) (ix:=[none,HW 2]) (mkB zga) rfl wM (λC a5 ex s H=>YX ndFB)
      (λC a5 ex s H=>zcp (zap (zc0 (K:=K) rfl) (zaz (ix_listK (K:=K) rfl) RQ zai HX) Rz rfl)) Es) zae)))
   (zaf (Sb (XB (YT Cn OV) (AW Ib) Pu))))))))  ,?_⟩
 refine⟨vG,d,es,cs,a9,rfl,T,aS,aW,C,λfo fas hd hc cs' H1 gL hfal hhd hhp lh fE k1=>?_⟩;have T1:TAt H1 d es:=NR HA RA;refine⟨vG,d,es,cs,a9,rfl,T1,aS,C,λl as zss H2 av lY kM _ k2=>?_⟩;have T2:TAt H2 d es:=T1.keep k2 HA RA;have kZ:=k2 _ _ gL HA;have uo:Paired (zdt H2) fas hd:=zdh (D:=d) (g:=d) k2 hhd (λ_ _ _ _=>by simp);refine⟨l,rfl,⟨_,A0⟩,za2 (xs:=as.map V.ref) (λi σ H'=>Aj2 wD (Ex4 λx2 x3 x4 x5=>σ=[Lb,HC fo,x2,x3,x4,x5])) ⟨Keep.refl,_,_,_,_,rfl⟩ (λi σ H' _ hh=>SqL.of (yt av)) ?_ ?_⟩
 ·rintro i y σ H3 hx ⟨k3,x2,x3,x4,x5,rfl⟩;have hi:i<as.length:=by have:=(TJ hx).1;rwa[Qa]at this
  have iE:y=.ref as[i]:=by rw[Qk,Qb hi]at hx;exact(Qo hx).symm
  subst iE;obtain⟨am,fF⟩:=zat lY hi;have qU:=kM _ Aq;have li:=piece_count C qU hhp lh fE;generalize zss[i]=zs at fF qU li;have iZ:H3 as[i]=some Iv:=k3 _ _ fF HA;have jU:∀z∈zs,∃e∈es,e.1=z:=λz hz=>by obtain⟨_,s,_,hm⟩:=qU;exact Qe.mp ((hm z).mp hz).1
  have bW:zs.length≤100:=by
   have:=zcn qU.1 (m:=es.map (·.1)) λz hz=>by obtain⟨e,he,rfl⟩:=jU z hz;exact Qe.mpr ⟨e,he,rfl⟩
   rw[Qa]at this;lia
  refine⟨vG,as[i],vG,Sr iZ,?_⟩;have T3:TAt H3 d es:=T2.keep k3 HA RA;refine⟨vG,as[i],rfl,⟨_,HL iZ⟩,lc_at (xs:=zs.map V.str) (λ τ=>∃x0,τ=[x0,Lb]) ((zs.map λx=>((ZJ x).length:Int)).map V.int) (by rw[Qa,Qa,Qa]) (HL iZ) SY ⟨none,rfl⟩ ?_ (λD hD=>?_)⟩
  ·rintro j hj eT τ ⟨x0,rfl⟩ kk hk;rw[Qa]at hj;rw[Zl];obtain⟨en,bE,dJ⟩:=jU _ (Qq hj);have dg:DGet H3 d (.str zs[j]) IT:=by have:=DGet.k (k:=Sum.inr en.1) T3.dc;rw[zcb T3.nd bE,dJ]at this;exact this
   refine⟨vG,vG,d,vG,dg,en.2.2,vG,OQ (T3.ro en bE),?_⟩;have e:((zs.map λx=>((ZJ x).length:Int)).map V.int)[j]=V.int ((en.2.1.map V.str).length:Int):=by rw[Zl,Zl,←dJ,zay T3.nd bE,Qa]
   rw[e]at hk;exact hk _ ⟨_,rfl⟩
  have k4:Keep [] H3 (Q4 D (.lst ((zs.map λx=>((ZJ x).length:Int)).map V.int))):=Keep.new hD;have mz:(Q4 D (.lst ((zs.map λx=>((ZJ x).length:Int)).map V.int))) D=some (.lst ((zs.map λx=>((ZJ x).length:Int)).map V.int)):=zab;generalize Q4 D (.lst ((zs.map λx=>((ZJ x).length:Int)).map V.int))=H4 at k4 mz;refine⟨D,vG,HL mz,SY,λn hn=>?_,?_⟩
  ·obtain⟨z,hz,rfl⟩:=Qe.mp hn;obtain⟨en,bE,dJ⟩:=jU z hz;have h1:=aW en bE;rw[←dJ,zay T3.nd bE];lia
  have nX:(zs.map λx=>((ZJ x).length:Int)).sum=(((zs.map λx=>(ZJ x).length).sum:Nat):Int):=by rw[←sum_cast,Zg];rfl
  rw[nX];refine⟨_,vG,rfl,⟨HH,HH⟩,?_⟩;have gJ:=k4 _ _ (Pg kZ) HA;have uQ:=k4 _ _ iZ HA;have oQ:Paired (zdt H4) fas hd:=zdh (D:=d) (g:=d) (LC k4) uo (λ_ _ _ _=>by simp);refine⟨vG,fo,rfl,⟨_,HL gJ⟩,zf2 (xs:=fas.map V.ref) (λ τ=>∃x0,τ=[x0,HW (.ref as[i])]) (inPc H4 zs) (HL gJ) SY ⟨none,rfl⟩ ?_ (λD2 dj=>?_)⟩
  ·rintro x hx τ ⟨x0,rfl⟩ kk1 kk0 iR oH;obtain⟨a,ha,rfl⟩:=Qe.mp hx;obtain⟨j,hj,rfl⟩:=Zu ha;obtain⟨ml,f8⟩:=zat oQ hj;have aw:=inPc_ref (zs:=zs) f8;obtain⟨t,et⟩:=f8;refine⟨vG,fas[j],_,_,vG,rfl,HL et,za0 (j:=0) rfl,vG,as[i],vG,Sr uQ,rfl,zbz zs,vG,?_⟩;cases hb:decide (hd[j]∈zs) with
   |true=>exact zbj (show inV _ _=true by rw[zdb];exact hb) ⟨_,rfl,iR (aw.trans hb) _ ⟨_,rfl⟩⟩
   |false=>exact zau (show inV _ _=false by rw[zdb];exact hb) (oH (aw.trans hb) _ ⟨_,rfl⟩)
  have k5:Keep [] H4 (zu D2 ((fas.map V.ref).filter (inPc H4 zs))):=Keep.new dj;refine⟨D2,vG,Sr zab,?_⟩;rw[filt_len oQ];refine⟨vG,vG,_,vG,rfl,vG,_,vG,rfl,rfl,vG,zau ?_ ?_⟩
  ·rw[Bool.not_eq_false',decide_eq_true_iff];refine congrArg V.int ?_;rw[Qa];lia
  exact⟨(LC k4).trans k5,_,_,_,vG⟩
 rintro σ H3 ⟨k3,x2,x3,x4,x5,rfl⟩;exact k H3 ((TX k2).trans k3)
abbrev sInit:Stmt:=Di 0
abbrev Turned:List Ent→List Ent→Prop:=Paired λt e=>t.1=e.1∧∃k,t.2.1=e.2.1.drop k++e.2.1.take k
inductive IspInit(C:Nb)(vs:List V)(H:Hp)(Q:VK):Prop
 |mk(x dx l:Nb)(as:No)(es:List Ent)(cs:List (List (Str×Str)))(a9:Nx)(h0:vs=[.ref x,.ref l])(h1:H x=some (.ins C dx []))(h2:RwAt H l as es)(h3:es.length≤40)(h4:(∀e∈es,zep e.1))(h5:Cert (es.map (·.1)) (row (rsOf es)) cs a9)(h6:∀(d:Addr) (ts ax:List Ent) (H':Hp),WAt H' C x dx d ts→ax.Perm es→Turned ts ax→Keep [x] H H'→Q .non H')
def spInit(C:Nb):Sp:=λvs H Q _=>IspInit C vs H Q
def zct(h:NV es):ts.map (·.1)=es.map (·.1):=by
 induction h with
 |nil=>rfl
 |cons h t ih=>rw[Qn,Qn,h.1,ih]
def zh0(h:NV es)(ht:t∈ts):∃e∈es,t.1=e.1∧∃k,t.2.1=e.2.1.drop k++e.2.1.take k:=by
 induction h with
 |nil=>cases ht
 |cons h _ ih=>
  rcases Qi.mp ht with z|z
  ·subst z;exact⟨_,Qc,h⟩
  obtain⟨e,he,r⟩:=ih z;exact⟨e,QR he,r⟩
def zft(h:NV ax)(hp:ax.Perm es)(nd:(es.map (·.1)).Nodup):∀x,∃k,NE x=(ZJ x).drop k++(ZJ x).take k:=λx=>by
 have dS:(ts.map (·.1)).Nodup:=by rw[zct h];exact(hp.map _).nodup_iff.mpr nd
 by_cases hx:x∈ts.map (·.1)
 ·obtain⟨t,ht,rfl⟩:=Qe.mp hx;obtain⟨e,he,e1,k,e2⟩:=zh0 h ht;refine⟨k,?_⟩;rw[zay dS ht,e1,Vd (hp.mem_iff.mp he),e2]
 refine⟨0,?_⟩;have hx2:x∉es.map (·.1):=λz=>hx (by rw[zct h];exact(hp.map _).mem_iff.mpr z);have n1:x∉(LQ ts).map (·.1):=by unfold rsOf;rw[List.map_map];exact hx
 have n2:x∉(LQ es).map (·.1):=by unfold rsOf;rw[List.map_map];exact hx2
 rw[zg4 n1,zg4 n2];rfl
abbrev csInit:Scope:=scOf (eOf (sAt sInit 3))
def csInit_k:csInit.kind=.function:=by rfl
def csInit_c:∀y∈csInit.names,y.2≠.cell:=by decide+kernel
def csInit_n:∀y∈csInit.names,y.2=.local→csInit.names.lookup y.1=some .local:=by decide+kernel
def csInit_f:∀y∈csInit.names,y.2=.free→(zah sInit).names.lookup y.1=some .cell∨(zah sInit).names.lookup y.1=some .free:=by decide+kernel
def scInit:zam ["self", "rows", "rounds"] ["self", "rows"] (zah sInit):=fsk
def ok_init(F:QD "__init__" "Web.__init__" sInit f fd)(cW:KW C)(nW:Mp "rounds")(FN:QD "refuse_no_names" "refuse_no_names" zgo fn fdn)(bN:WE fdn ["rows"] [])(mN:mg "refuse_no_names" = some (HK fn))(GN:ZB 2 fn fdn ["rows"] spNoNames)(FT:QD "refuse_twice" "refuse_twice" zem ft fdt)(bT:WE fdt ["rows"] [])(mT:mg "refuse_twice" = some (HK ft))(GT:ZB 1 ft fdt ["rows"] spTwice)(FO:QD "refuse_one_way" "refuse_one_way" zi2 fo fdo)(bO:WE fdo ["rows"] [])(mO:mg "refuse_one_way" = some (HK fo))(GO:ZB 1 fo fdo ["rows"] spOneWay)(FL:QD "from_least" "from_least" sLeast fl fdl)(bL:WE fdl ["around"] [])(mL:mg "from_least" = some (HK fl))(GL:ZB 1 fl fdl ["around"] spLeast)(FF:QD "refuse_not_flat" "refuse_not_flat" sFlat ff fdf)(bF:WE fdf ["rounds"] [])(mF:mg "refuse_not_flat" = some (HK ff))(GF:ZB 3 ff fdf ["rounds"] spFlat)(aD:mg "sorted" = none):ZB 4 f fd ["self", "rows"] (spInit C):=by
 refine F.okL scInit HM;obtain⟨x,dx,l,as,es,cs,a9,rfl,hx,R,aS,hok,Ct,k⟩:=h;have hu:=zb7 hr;have aj:BY _:=hr.mono HH;have bh:VS _:=hr.mono HH;have ar  :=sizeLine_eq;refine⟨_,zad (zbn (zcq GN bh rfl mN FN.kp bN .nil zcv SQ))
  (zad (zbn (zcq GT aj rfl mT FT.kp bT .nil zcv SQ))
  (zad (zbn (zcq GO aj rfl mO FO.kp bO .nil zcv SQ))
  (zad (ps_dc (i:=2) (M:=["place", "around"]) (ix:=[none,none]) scInit.nd rfl rfl (noB (n:=2) csInit_k csInit_c csInit_n csInit_f rfl ndPA) rfl
    (zan (PR zgi SQ))
    (λC a5 ex s H=>zi7 (K:=K) (n:=2) rfl rfl AD)
    (λC a5 ex s H=>zb1) Es (λC a5 ex s H=>zcq GL (RY aj) rfl (RY mL) FL.kp bL .nil zcv SQ) rfl)
  (zad (zbn (Dr bF .nil zcv SR))
  (zaf (ps_fld RQ Ss rfl)))))),?_⟩
 have aE:(es.map (·.1)).Nodup:=Ct.nd;have aG:∀e∈es,ZJ e.1=e.2.1:=λe he=>zay aE he;have cY:∀e∈es,e.2.1.Nodup:=λe he=>aG e he▸Ct.rn e.1;have ga:∀e∈es,∀y∈e.2.1,y∈es.map (·.1):=λe he y hy=>Ct.inn' (x:=e.1) (by rw[aG e he];exact hy);have aW:∀e∈es,e.2.1.length≤40:=λe he=>by have:=zcn (cY e he) (ga e he);rw[Qa]at this;exact Zi ‹_› ‹_›
 refine⟨vG,l,as,es,rfl,R,λe he=>⟨Zi (aW e he) HH,hok e he,λy hy=>?_⟩,λH1 k1=>?_⟩
 ·obtain⟨e',bi,rfl⟩:=Qe.mp (ga e he y hy);exact hok e' bi
 have R1:=R.keep k1;refine⟨vG,l,as,es,rfl,R1,HB,aE,λe he=>⟨Zi (aW e he) HH,cY e he⟩,λH2 k2=>?_⟩;have R2:=R1.keep k2;refine⟨vG,l,as,es,rfl,R2,aE,λe he=>⟨?_,λy hy=>?_⟩,λH3 k3=>?_⟩
 ·rw[←aG e he];exact Ct.ir e.1
 ·obtain⟨e',bi,bf⟩:=Qe.mp (ga e he y hy);have nC:e'.1=y:=bf;refine⟨e',bi,nC,?_⟩;rw[←aG e' bi,nC];exact Ct.sy e.1 y (by rw[aG e he];exact hy)
 have R3:=R2.keep k3;have hW:Keep [] H H3:=(TX k2).trans k3;have aT:as.length=es.length:=Zr R3.ts;refine⟨vG,l,vG,SqL.of R3.ls,λv hv=>?_,λv hv u hu e=>?_,λl2 wsV av af aV=>?_⟩
 ·obtain⟨a,ha,rfl⟩:=Qe.mp hv;obtain⟨i,hi,rfl⟩:=Zu ha;obtain⟨am,h⟩:=Hf hi;exact⟨_,_,vG,h⟩
 ·obtain⟨a,ha,rfl⟩:=Qe.mp hv;obtain⟨b,hb,rfl⟩:=Qe.mp hu;obtain⟨i,hi,rfl⟩:=Zu ha;obtain⟨j,hj,rfl⟩:=Zu hb;obtain⟨am,h1⟩:=Hf hi;obtain⟨ml,h2⟩:=Hf hj;rw[zfa h1,zfa h2]at e;have e':es[i].1=es[j].1:=by have q:es[i].1.cps.toList=es[j].1.cps.toList:=e;generalize es[i].1=a1 at q ⊢;generalize es[j].1=a2 at q ⊢;cases a1;cases a2;congr 1;exact Array.toList_inj.mp q
  have e2:(es.map (·.1))[i]'(y8 am)=(es.map (·.1))[j]'(y8 ml):=by rw[Zl,Zl];exact e'
  have:=(Wf aE).mp e2;subst this;rfl
 obtain⟨dP,rfl,cr⟩:=refs_perm af;obtain⟨ax,gp,tf⟩:=zex cr R3.ts;have k4:Keep [] H3 (Q4 l2 Cp):=Keep.new av;have df:(Q4 l2 Cp) l2=some Cp:=zab;generalize Q4 l2 Cp=H4 at k4 df;have nO:Paired (λa (e:Ent)=>H4 a=some (.tup [Si,Tf])) dP ax:=Paired.imp' (λ_ _ h=>k4 _ _ h HA) tf;have gc:∀e∈ax,H4 e.2.2=some HQ:=λe he=>k4 _ _ (R3.ro e (xC he)) HA;have ou:(ax.map (·.1)).Nodup:=(gp.map _).nodup_iff.mpr aE;have pN:dP.length=ax.length:=Zr nO;have hel2:ax.length=es.length:=gp.length_eq;refine⟨l2,rfl,⟨_,HL df⟩,λi m ys τ H'=>Aj5 (m=ax.length-i) (i≤ax.length) (Ex2 λx0 x1=>τ=[x0,x1]) (RH H4) (Ex1 λ(ts:List Ent)=>Aj3 (ys=(eWV ts)) (∀e∈ts,H' e.2.2=some (.tup CQ)) (NV (ax.take i))),
  ⟨ax.length,rfl,SW,⟨none,none,rfl⟩,Keep.refl,[],rfl,λe he=>(by cases he),.nil⟩,?_⟩
 rintro i m ys τ H5 ⟨rfl,hi,⟨x0,x1,rfl⟩,k5,ts,rfl,fZ,ko⟩;by_cases ad:i<ax.length
 ·have lS:=zct ko;have htl:ts.length≤i:=by have:=congrArg List.length lS;rw[Qa,Qa,Zo]at this;lia
  refine .inr ⟨⟨_,.ref dP[i],xD,by rw[Qk,Qb (by exact zar6 ‹_› ‹_›)];rfl⟩,SY,?_⟩;rintro v H6 ⟨rfl,hv⟩;have aK:=hv _ xD;rw[Qk,Qb (by exact zar6 ‹_› ‹_›)]at aK;obtain rfl:V.ref dP[i]=v:=Qo aK;obtain⟨am,fF⟩:=zat nO (by exact zar6 ‹_› ‹_›:i<dP.length);have aU:ax[i]∈ax:=Qq ad;have gf:=k5 _ _ (gc _ aU) HA;have oq:ax[i].1∉ts.map (·.1):=by
   rw[lS];have h1:(ax.map (·.1)).take Rm=(ax.map (·.1)).take i++[ax[i].1]:=by rw[Qh (y8 ad),Zl]
   have h2:((ax.map (·.1)).take Rm).Nodup:=V5 ou;rw[h1,Zb,←Je]at h2;exact λz=>h2.2.2 _ z _ Tk rfl
  refine⟨dP[i],vG,Rx (IN fF),rfl,_,vG,_,vG,rfl,vG,vG,ax[i].2.2,ax[i].2.1,rfl,gf,Zi (aW _ (xC aU)) HH,λt j H7 hj qH htfr k7=>⟨Sum.inr ax[i].1,rfl,ax.length-Rm,Ra,rfl,ad,⟨_,vG⟩,CD k7,ts++[(ax[i].1,ax[i].2.1.drop j++ax[i].2.1.take j,t)],put_new (r:=ax[i].2.1.drop j++ax[i].2.1.take j) oq,λe he=>?_,?_⟩⟩
  ·rcases Qm.mp he with z|z
   ·exact k7 _ _ (fZ e z) HA
   rw[Qd.mp z];exact qH
  rw[Qh ad];exact za1 ko (.cons ⟨rfl,j,rfl⟩ .nil)
 have bw:i=ax.length:=by exact zar3 ‹_› ‹_›
 subst bw;rw[Qr Rf]at ko;refine .inl ⟨⟨_,xD,by rw[Qa,pN];exact Qf _⟩,λd hd=>?_⟩;have k6:Keep [] H5 (QZ d wN):=Keep.new hd;have pz:(QZ d wN) d=some wN:=zab;generalize QZ d wN=H6 at k6 pz;have lS:=zct ko;have T6:TAt H6 d ts:=⟨pz,λe he=>k6 _ _ (fZ e he) HA,HP lS ou⟩;have htl:ts.length=es.length:=by have:=congrArg List.length lS;rw[Qa,Qa,gp.length_eq]at this;exact this
 have C6:Cert (ts.map (·.1)) (Ih ts) cs a9:=cert_turn Ct (by rw[lS];exact gp.map _) (zft ko gp aE);refine⟨vG,d,ts,cs,a9,rfl,T6,HB,λe he=>?_,C6,λH7 k7=>?_⟩
 ·obtain⟨e',bi,_,kk,e2⟩:=zh0 ko he;rw[e2,(zi4 _ kk).length_eq];exact Zi (aW e' (xC bi)) HH
 have k07:Keep [] H H7:=(((hW.trans k4).trans k5).trans k6).trans k7;have sV:=k07 _ _ hx HA;have T7:TAt H7 d ts:=T6.keep k7 HA RA;have nxd:d≠x:=za8 T7.dc sV HJ;refine⟨vG,vG,x,C,dx,[],rfl,sV,cW,nW,HH,k d ts ax _ ⟨zab,T7.keep (xs:=[x]) SD (HE nxd) λe he=>by simpa using za8 (T7.ro e he) sV HJ⟩ gp ko ((k07.sub HA).trans SD)⟩
end
end K21
namespace L2
open PySem PySem.Spec PyProof.Rows
inductive Cal(P:Nk)(w:Nl)(K:Na)(mg:Nd)(base:Nn)(x:Str)(ps:Ng)(k:Nat)(sp:Sp):Prop
 |mk{f:Nb} {fd:Nu} {st:Stmt} (F:Fun K x x st f fd)(b:Binds K fd ps [])(m:mg x=some (.ref f))(G:FnOk P w K mg base CX0 k f fd ps sp)
def pcl(T:Cal X.prog X.w X.K X.mg X.base x ps k sp)(hr:Y4 X.A)(ha:K4 (e::es) t)(hg:Vm x:=by exact rfl)(eZ:RP=false:=by decide)(he:starEach (e::es) X.env=(false,Eb)::starEach es X.env:=by rfl)(aH:(L6 SH).any (·.1)=false:=by rfl) :
  PE X (.Call A6 (e::es) [] pos) (tCall sp [] E0 t):=by
 obtain⟨F,b,m,G⟩:=T;exact zcq G hr hg m F.kp b .nil zcv ha eZ he aH
section
variable{X:Cx}
def pair_eq{q r:Str×Str}:((Sv 2).all (λj=>if j=0 then q.1==r.1 else q.2==r.2)&&true)=decide (q=r):=by rw[show List.range 2=[0,1] from rfl,Wd];simp[Prod.ext_iff]
def pair_at{A:Np}{s:Ni}{l b:Nb}{q r:Str×Str}{t1 t2 t3 t4:Tok}(h:A.units<cLine)(p:s.heap.IsTuple l #[.str q.1 t1,.str q.2 t2])(p2:s.heap.IsTuple b #[.str r.1 t3,.str r.2 t4]):SeqAt.RcAt A s SO EK (decide (q=r)):=by
 rw[←pair_eq];refine SeqAt.RcAt.tuples (e:=λj=>if j=0 then q.1==r.1 else q.2==r.2) p p2 h λj j1 j2=>?_;have sO:j<2:=by simpa using j1
 match j,sO with
 |0,_=>exact Ux q.1 t1 r.1 t3
 |1,_=>exact Ux q.2 t2 r.2 t4
def op_ne_pairsS(hu:X.A.units<cLine):WP (λx y H Q=>Ex4 λ(a b:Nb) (q r:Str×Str)=>Aj5 (x=.ref a) (y=.ref b) (H a=some (.tup [L5,.str q.2])) (H b=some (.tup [xL,xM])) (Iu (!decide (q=r)))):=by
 intro a5 s σ H x y v u Q I rx ry h;obtain⟨a,b,q,r,rfl,rfl,ha,hb,k⟩:=h;cases rx;cases ry;obtain⟨_,a7,r1,p⟩:=JW ha;obtain⟨_,aQ,r2,p2⟩:=KB _ hb;obtain⟨u1,u2,rfl,⟨t1,rfl⟩,⟨t2,rfl⟩⟩:=vals2 r1;obtain⟨w1,w2,rfl,⟨t3,rfl⟩,⟨t4,rfl⟩⟩:=vals2 r2;refine SeqAt.RcNeAt.tuples (e:=λj=>if j=0 then q.1==r.1 else q.2==r.2) p p2 hu (λj j1 j2=>?_) _ _ _ _ ⟨.bl (!decide (q=r)),H,I,?_,k⟩
 ·have sO:j < 2:=by simpa using j1
  match j,sO with
  |0,_=>exact Ux q.1 t1 r.1 t3
  |1,_=>exact Ux q.2 t2 r.2 t4
 show Value.bool _=Value.bool _;congr 1;rw[←pair_eq];rfl
end
end L2
namespace K21
open PySem L2 Wb
abbrev sCell:Stmt:=top 49
abbrev sPot:Stmt:=top 50
abbrev sTake:Stmt:=top 51
abbrev sBehind:Stmt:=top 53
abbrev sFace:Stmt:=top 54
inductive zio(vs:List V)(H:Hp)(Q:VK):Prop
 |mk(a:Nb)(zs:Ng)(x:Str)(h0:vs=[.ref a,.str x])(h1:H a=some (.lst (zs.map V.str)))(h2:x∈zs)(h3:zs.length≤900)(h4:Q (.str (nxt zs x)) H)
def spBehindS:Sp:=λvs H Q _=>zio vs H Q
structure RF(H:Hp)(d:Nb)(es:List Ent):Prop where
 dc:FI Ry
 nd:(es.map (·.1)).Nodup
 ro:∀e∈es,H e.2.2=some HQ
def RF.get(R:RF H d es)(he:e∈es):Bp d Si Pi:=.inl ⟨_,SK,R.dc,rfl,(zcb R.nd he).symm⟩
def RF.keep(R:RF H d es)(k:RH H):RF H' d es:=
 ⟨R.dc.imp (λe=>k _ _ e HA) λ⟨o,e⟩=>⟨o,O4 e⟩,R.nd,λe he=>k _ _ (FM he) HA⟩
def RF.inn{d:Nb}(R:RF H d es)(h:a∈es.map (·.1)):∃e∈es,e.1=a∧Bp d (EB a) Pi:=by obtain⟨e,he,ea⟩:=Qe.mp h;have ea':e.1=a:=ea;subst ea';exact⟨e,he,rfl,R.get he⟩
structure Rnd(r:Nq)(s:Str×Str)(L:Nt):Prop where
 cy:∃t,L=s::t∧VT s t s
 nd:L.Nodup
 al:∀u∈L,u.1∈r u.2
def rnd_of{ns:Ng}{r:Nq}{cs:List (S1 (Str×Str))}{a9:Nx}(C:QN a9){s:Str×Str}(hs:s.1∈r s.2):∃L,Rnd r s L:=by
 obtain⟨c,cP,iL⟩:=Zv.mp ((Oz s).mpr hs);obtain⟨A1,B1,fh⟩:=Yq iL;have mh:=zdc (fh▸Bz cP);have cw:(s::(B1++A1)).Perm c:=by rw[fh];refine Jz.mpr λa=>?_;simp only[Kn,Kw];lia
 refine⟨s::(B1++A1),⟨vG,mh⟩,?_,λu hu=>C.inc cP (O3 hu)⟩;rw[cw.nodup_iff];have:=(zb8 cP).nodup_iff.mp C.cf;rw[Zb]at this;exact this.1
inductive IspStepsS(vs:List V)(H:Hp)(Q:VK):Prop
 |mk (d:Nb) (es:List Ent) (cs:List (List (Str×Str))) (a9:Nx) (s:Str×Str) (h0:vs=[.ref d,.str s.1,.str s.2]) (h1:RF H d es) (h2:s.1∈row (rsOf es) s.2) (h3:Cert (es.map (·.1)) (row (rsOf es)) cs a9) (h4:es.length≤40)
  (h6:∀(t:Nb) (ps:No) (L:Nt) (H':Hp),H t=none→H' t=some (HR (ps.map V.ref))→zbx H' ps L→KR s L→L.length≤1600→(∀a∈ps,H a=none)→Keep [] H H'→Q Ll H'):IspStepsS vs H Q
def ziw:Sp:=λvs H Q _=>IspStepsS vs H Q
def steps_len{es:List Ent}{r:Nq}{cs:List (S1 (Str×Str))}{a9:Nx}(C:Cert (es.map (·.1)) r cs a9)(h:es.length≤40){L:Nt}(nd:L.Nodup)(al:∀u∈L,u.1∈r u.2):L.length≤1600:=by
 have iK:∀u∈L,u∈(es.map (·.1)).flatMap λx=>(es.map (·.1)).map λy=>(x,y):=λu hu=>by have h1:=al u hu;refine Xu.mpr ⟨u.1,C1 h1,TW ⟨u.2,OA h1,rfl⟩⟩
 have:=nodup_len nd iK;rw[List.length_flatMap]at this;simp only[Qa,List.map_const',List.sum_replicate_nat]at this;have h2:es.length*es.length≤40*40:=Nat.mul_le_mul h h;lia
section
variable{P:Nk}{w:Nl}{K:Na}{mg:Nd}{base:Nn}
def scBehind:zam ["_law_around", "_law_place"] ["_law_around", "_law_place"] (zah sBehind):=fsk
def ok_behindS(F:QD "_law_behind" "_law_behind" sBehind f fd)(ae:mg "len" = none):ZB 1 f fd ["_law_around", "_law_place"] spBehindS:=by
 refine F.okL scBehind HM;obtain⟨a,zs,x,rfl,ha,hx,hz,k⟩:=h;have hu:=zb7 hr;refine⟨_,zaf (zas (Q8 RQ (KL (AW (VP RQ SQ))
  (UQ Rg ae Yd Ta)) HX)),?_⟩
 obtain⟨i1,i2⟩:=zjn hx;have dw:0<zs.length:=Ym hx;have hm:(zs.idxOf x+1)%zs.length<zs.length:=NB dw;have g:(zs.map V.str)[(zs.idxOf x+1)%zs.length]?=some (EB (XH x)):=by rw[Qk,Qb hm];unfold nxt;simp[List.getD,hm]
 have e1:((zs.idxOf x:Nat):Int)+1=((zs.idxOf x+1:Nat):Int):=by lia
 have g2:atI Sj ((((zs.idxOf x:Nat):Int)+1)%((zs.map V.str).length:Int))=some (EB (XH x)):=by rw[e1,Qa,←Int.natCast_emod];exact za0 g
 refine⟨vG,vG,.inl ⟨rfl,_,zZ⟩,vG,a,_,_,vG,rfl,ha,rfl,zbz zs,i1,i2,_,vG,rfl,vG,a,vG,Sr ha,_,vG,rfl,?_,a,_,_,vG,rfl,zZ,g2,k⟩;rw[Qa];exact zar9 ‹_›
def scFace:zam [qR, "_law_p", "_law_q", "_law_found", "_law_here"] [qR, "_law_p", "_law_q"] (zah sFace):=fsk
def ok_face(F:QD "_law_face" "_law_face" sFace f fd)(GB:ZI "_law_behind" ["_law_around", "_law_place"] 1 spBehindS) :
  FnOk P w K mg base CX0 2 f fd [qR, "_law_p", "_law_q"] ziw:=by
 refine F.okL scFace HM;obtain⟨d,es,cs,a9,sp,rfl,R,ay,C,aS,k⟩:=h;have hu:=zb7 hr;refine⟨_,zad (Xz scFace.nd (zbs (Sa (zbq (ZS SR)))))
  (zad (XA scFace.nd (zbq (zU (pcl GB hr (zaa (QT Ia) vy)))))
  (zad (FX (zap (op_ne_pairsS (Uk xl hu)) Sy (Q8 Sn zai (λ_ _=>rfl)) rfl)
   (zad (EQ Sn TQ)
   (zaf (XA scFace.nd (PV (CA Sy) (zaa (pcl GB hr (zaa (QT (CA Sy)) (Sa (CA Ib)))) zae))))))
  (zaf (zas Sn)))),?_⟩
 obtain⟨L,⟨lt,eL,mh⟩,nd,al⟩:=rnd_of C ay;have hLb:=steps_len C aS nd al;have cw:0<L.length:=by rw[eL];simp
 have iT:∀k (hk:k<L.length),BC L[k]=L.getD (k+1) sp:=λk hk=>by have:=lk_get mh k (by rw[←eL];exact hk);rw[←eL,Ze,Qb hk]at this;exact this
 have rn:∀e∈es,e.2.1.length≤900:=λe he=>by
  have h1:e.2.1.Nodup:=by have:=C.rn e.1;rw[JJ he]at this;exact this
  have:∀y∈e.2.1,y∈es.map (·.1):=λy hy=>C.inn' (x:=e.1) (by rw[JJ he];exact hy);have:=zcn h1 this;rw[Qa]at this;lia
 have at':∀{H':Hp},RF H' d es→∀q:Str×Str,q.1∈ZJ q.2→∃e∈es,DGet H' d (.str q.2) Pi∧H' e.2.2=some HQ∧q.1∈e.2.1∧BC q=(q.2,Hg q.1):=λ{H'} R' q hq=>by obtain⟨e,he,ee,g⟩:=R'.inn (OA hq);have hr:=JJ he;rw[ee]at hr;exact⟨e,he,g,R'.ro e he,by rw[←hr];exact hq,by show(q.2,nxt (ZJ q.2) q.1)=_;rw[hr]⟩
 have i0:∀x y:V,atI [x,y] ((0:Nat):Int)=some x:=λx y=>za0 rfl;have i1:∀x y:V,atI [x,y] ((1:Nat):Int)=some y:=λx y=>za0 rfl;have ar  :=sizeLine_eq;refine⟨vG,vG,Tg,λt0 tt=>⟨OU,λl hl=>?_⟩⟩;have k1:Keep [] H (upd (ZR t0 (.tup [IA,IB])) l (.lst [wO])):=(HV tt).trans zt;have ntl:t0≠l:=zac (o:=_) zab hl;have eB:(upd (ZR t0 (.tup [IA,IB])) l (.lst [wO])) t0=some (.tup [IA,IB]):=by rw[zag ntl];exact zab
 have aI:(upd (ZR t0 (.tup [IA,IB])) l (.lst [wO])) l=some (.lst [wO]):=zab;have fl:H l=none:=zav (xs:=[]) (HV tt) hl HA;generalize upd (ZR t0 (.tup [IA,IB])) l (.lst [wO])=H1 at k1 eB aI;have R1:=R.keep k1;obtain⟨e,he,g1,g2,g3,g5⟩:=at' R1 sp ay;refine⟨vG,vG,vG,d,vG,g1,vG,_,e.2.1,sp.1,rfl,g2,g3,rn e he,Tg,λt ht=>?_⟩;have h0:L[0]'(cw)=sp:=by
  have:L[0]?=some sp:=by rw[eL];rfl
  exact(Qu.mp this).2
 have e5:[V.str sp.2,V.str (Hg sp.1)]=[V.str (Iz 1).1,V.str (Iz 1).2]:=by rw[←iT 0 cw,h0,g5]
 rw[e5];have nlt:l≠t:=zac aI ht;have oZ:∀{a:Nb},H1 a=none→H a=none:=λ{a} h=>FY h HA;refine⟨λm σ H2=>Ex3 λ(n:Nat) (t:Nb) (as:No)=>Aj9 (m=L.length-n) (n<L.length) (σ=[Lb,HW IA,HW IB,CW,AL]) (Keep [l] H1 H2) (H2 l=some (HR ((t0::as).map V.ref))) (zbx H2 (t0::as) (yF (n+1))) (H2 t=some (.tup [.str (Iz (n+1)).1,.str (Iz (n+1)).2])) (as.length=n) (Aj2 (∀a∈t0::as,H a=none) (H t=none)),
  ⟨_,0,t,[],rfl,cw,rfl,Lw,HZ nlt aI,?_,zab,rfl,λa ha=>by rw[Qd.mp ha];exact tt,oZ ht⟩,?_⟩
 ·rw[show L.take (0+1)=[sp] by rw[eL];rfl];exact .cons (HZ (yp eB ht) eB) .nil
 rintro m σ H2 ⟨n,t,as,rfl,hn,rfl,k2,av,pa,cp,aT,i9,hft⟩;have tq:=k2 _ _ eB (HE ntl);refine⟨vG,vG,l,_,_,vG,rfl,A0,(show atI ((t0::as).map V.ref) ((0:Nat):Int)=some wO from za0 rfl),t,t0,Iz (n+1),sp,rfl,rfl,cp,tq,vG,?_⟩;by_cases bu:n+1=L.length
 ·have hL:L.getD (n+1) sp=sp:=by rw[Ze,Wy HB];rfl
  refine zau (by rw[decide_eq_true hL];rfl) ?_;rw[Qr HB]at pa;exact⟨vG,k l (t0::as) L H2 fl av pa ⟨⟨lt,eL,mh⟩,nd,al⟩ hLb i9 λc o ec _=>k2 c o (w8 ec) (by simpa using W0 fl)⟩
 have bB:n+1 < L.length:=by lia
 have gQ:L.getD (n+1) sp=L[n+1]:=by rw[Ze,Qb bB];rfl
 rw[gQ]at cp ⊢;have au:L[n+1]≠sp:=λz=>by rw[←h0]at z;have:=(Wf (h₀:=bB) (h₁:=cw) nd).mp z;lia
 refine zbj (by rw[decide_eq_false au];rfl) ?_;have sA:t≠l:=za8 cp av HJ;refine⟨_,λ σ' H' z=>z,vG,.inl ⟨rfl,_,A0⟩,vG,l,_,vG,rfl,av,by rw[Qa,Qy];lia,?_⟩;have k3:Keep [l] H1 (wP l ((t0::as).map V.ref++[LZ t])):=k2.trans L4;have nQ:(wP l ((t0::as).map V.ref++[LZ t])) t=some (.tup [.str L[n+1].1,.str L[n+1].2]):=by rw[zag sA];exact cp
 have eR:(wP l ((t0::as).map V.ref++[LZ t])) l=some (HR ((t0::(as++[t])).map V.ref)):=by rw[zab,←Uc,Qp];rfl
 have pa3:zbx (wP l ((t0::as).map V.ref++[LZ t])) (t0::(as++[t])) (yF (n+1+1)):=by rw[Qh bB,←Uc];refine za1 (zbx.keep pa λb x y eb=>?_) (SA nQ);rw[zag (za8 eb av HJ)];exact eb
 generalize QI l (HR ((t0::as).map V.ref++[LZ t]))=H3 at k3 nQ eR pa3;have R3:RF H3 d es:=⟨R1.dc.imp (λz=>k3 _ _ z (by simpa using za8 z aI (by intro q;cases q))) λ⟨o,z⟩=>⟨o,k3 _ _ z (by simpa using za8 z aI (by intro q;cases q))⟩,R1.nd,λe he=>k3 _ _ (R1.ro e he) (by simpa using zac (FM he) fl)⟩;obtain⟨e,he,g1,g2,g3,g5⟩:=at' R3 L[n+1] (al _ (Qq bB));refine⟨vG,t,_,_,vG,rfl,Rx nQ,LD,vG,vG,t,_,_,vG,rfl,Rx nQ,LD,d,vG,g1,vG,t,_,_,vG,rfl,Rx nQ,C9,_,e.2.1,L[n+1].1,rfl,g2,g3,rn e he,Tg,λt' qI=>?_⟩;have e6:[V.str L[n+1].2,V.str (Hg L[n+1].1)]=[V.str (Iz (n+1+1)).1,V.str (Iz (n+1+1)).2]:=by rw[←iT (n+1) bB,g5]
 rw[e6];have nl':l≠t':=zac eR qI;have ft':H t'=none:=oZ (zav k3 qI (by simpa using Zm nl'));refine⟨L.length-(n+1),HB,n+1,t',as++[t],rfl,bB,rfl,LC (HV qI),HZ nl' eR,zbx.keep pa3 λb x y eb=>by rw[zag (yp eb qI)];exact eb,zab,by rw[Za,aT];rfl,λa ha=>?_,ft'⟩;rw[←Uc]at ha;rcases Qm.mp ha with z|z
 ·exact i9 a z
 rw[Qd.mp z];exact hft
inductive IspCell(K:Na)(vs:List V)(H:Hp)(Q:VK):Prop
 |mk(a:Nb)(ns:List Int)(j:Nat)(h0:vs=[.ref a,.int j])(h1:SqL K H a (ns.map V.int))(h3:∀c:Int,Q (.int c) H)
def spCell(K:Na):Sp:=λvs H Q _=>IspCell K vs H Q
inductive IspPot(vs:List V)(H:Hp)(Q:VK):Prop
 |mk(c:Int)(h0:vs=[.int c])(h3:∀(l:Nb) (b m:Int) (H':Hp),H l=none→Pot H' l b m→Keep [] H H'→Q (.ref l) H')
def spPot:Sp:=λvs H Q _=>IspPot vs H Q
def scCell:zam [qS, "_law_k"] [qS, "_law_k"] (zah sCell):=fsk
def ok_cell(F:QD "_law_cell" "_law_cell" sCell f fd)(ae:mg "len" = none):ZB 1 f fd [qS, "_law_k"] (spCell K):=by
 refine F.okL scCell HM;obtain⟨a,ns,j,rfl,hS,k⟩:=h;refine⟨_,zad (vp (NP Rz (PN Ta) Sw) (zaf (zas (Ez RQ Rz)))) (zaf (zas zai)),vG,vG,a,vG,Rq hS,_,vG,rfl,vG,ite2 (λad=>?_) (λ_=>k _)⟩;have uh:(j:Int)<((ns.map V.int).length:Int):=of_decide_eq_true ad;have ml:j<ns.length:=by rw[Qa]at uh;lia
 have g:(ns.map V.int)[j]?=some (.int ns[j]):=by rw[Qk,Qb ml];rfl
 exact⟨vG,vG,a,_,_,vG,rfl,hS,za0 g,k _⟩
def scPot:zam ["_law_cell_here"] ["_law_cell_here"] (zah sPot):=fsk
def ok_pot(F:QD "_law_pot" "_law_pot" sPot f fd)(ud:mg "max" = none)(uR:mg "abs" = none):ZB 1 f fd ["_law_cell_here"] spPot:=by
 refine F.okL scPot HM;obtain⟨c,rfl,k⟩:=h;refine⟨_,zaf (zas (zbs (zaa (zak (call_max2 rfl) Rg ud PyProof.Rows.boot_max (WL (Sa (Bg RQ yH))))
    (zaa (AW (KL (zak call_abs Rg uR PyProof.Rows.boot_abs Ta) zai)) zae)))),?_⟩
 refine⟨vG,_,vG,rfl,⟨HH,HH,HH⟩,_,vG,rfl,_,vG,vG,vG,_,vG,rfl,(by show(0:Int)<2147483563;decide),_,vG,rfl,Tg,λl hl=>?_⟩;have h1:0≤(if c<0 then -c else c)%2147483563:=BR HH;have h2:(if c<0 then -c else c)%2147483563<2147483563:=Xb _ HH;refine k l _ _ _ hl ⟨zab,?_,HB,HB⟩ zt;split<;>lia
def scTake:zam [qP,qM, "_law_digit"] [qP,qM] (zah sTake):=fsk
def ok_take(F:QD "_law_take" "_law_take" sTake f fd)(dm:mg "divmod" = none):ZB 1 f fd [qP,qM] zg0:=by
 refine F.okL scTake HM;obtain⟨p,b,m,n,rfl,⟨hp,hb,hm,bZ⟩,hn,cc,k⟩:=h;have i0:atI [TH b,TH m] ((0:Nat):Int)=some xE:=za0 rfl;have i1:atI [TH b,TH m] ((1:Nat):Int)=some (Rv m):=za0 rfl;refine⟨_,zad (zbg (Hh PU zai Sw)
   (zad (zdf (zak zhr Rg dm PyProof.Rows.boot_divmod (zaa (Q8 RQ zai (λ_ _=>rfl)) SQ)) (Ei (Gu set_list) (Te (ML scTake.nd))))
    (zaf Ad)) zao)
   (zad (zdf (KL (YT (Vz PU zai) zai) zai) (Gu set_list))
   (zaf (zas (KL (za7 op_fdiv (KL (Vz PU PU) zai) zai) Rz)))),?_⟩
 refine⟨vG,p,_,_,vG,rfl,HL hp,i0,_,vG,rfl,vG,ite2 (λdw=>?_) (λhneg=>?_)⟩
 ·have mw:0 < b:=of_decide_eq_true dw;refine⟨vG,p,_,_,vG,rfl,HL hp,i0,vG,b,n,rfl,⟨hn,cc⟩,λt ht=>?_⟩;have npt:p≠t:=zac hp ht;refine⟨t,vG,Rx zab,rfl,_,vG,vG,p,_,0,0,rfl,rfl,(HZ npt hp),rfl,_,vG,rfl,vG,k (b%n) (b/n) m _ (BR HB) (Xb _ hn) ⟨zab,Int.ediv_nonneg hb HB,hm,bZ⟩ λc o e hc=>?_⟩;rw[zag hc,zag (Fc ht)];exact e
 have i1':∀ x:Int,atI [TH b,TH x] ((1:Nat):Int)=some (Rv x):=λx=>za0 rfl;have r0:0≤(m*39373+7919)%2147483629:=BR HH;have r1:(m*39373+7919)%2147483629<2147483629:=Xb _ HH;refine⟨vG,p,_,_,vG,rfl,HL hp,i1,_,vG,rfl,Rq ⟨HB,HB⟩,_,vG,rfl,_,vG,rfl,(by show(0:Int)<2147483629;decide),vG,p,_,1,1,rfl,rfl,hp,rfl,vG,p,_,_,vG,rfl,Ls,i1' _,vG,p,_,_,vG,rfl,Ls,i1' _,_,vG,rfl,Rq ⟨HB,HB⟩,_,vG,rfl,(by show(0:Int)<2147483563;decide),_,vG,rfl,⟨HH,HH⟩,vG,_,vG,rfl,hn,k _ b ((m*39373+7919)%2147483629) _ (BR HB) (Xb _ hn) ⟨zab,hb,r0,HB⟩ λc o e hc=>?_⟩;rw[zag hc];exact e
end
end K21
namespace L2
open PySem PySem.Spec PyProof.Rows
def zjj(P:St→Hp→Prop)(h:∀D':Ends,(∀σ H,P σ H→D'.nx σ H)→t D' σ H)(hD:∀σ H,P σ H→u D σ H):tSeq t u D σ H:=h {D with nx:=u D} hD
end L2
namespace K21
open PySem L2 Wb
abbrev sPut:Stmt:=top 55
inductive IspPut(vs:List V)(H:Hp)(Q:VK):Prop
 |mk (d:Nb) (es:List Ent) (e1 e2:Ent) (c1 c2:Option Str) (h0:vs=[.ref d,.str e1.1,zbv c1,.str e2.1,zbv c2]) (h1:RAt H d es) (h2:e1∈es) (h2':e2∈es) (au:e1.1≠e2.1) (h3:(∀x,c1=some x→x∈e1.2.1)) (h3':(∀x,c2=some x→x∈e2.2.1)) (h4:∀e∈es,e.2.1.length≤900) (h5:es.length≤900)
  (h6:∀(a1 a2:Nb) (H':Hp),RAt H' d (UU a2)→Keep [d] H H'→Q .non H'):IspPut vs H Q
def spPut:Sp:=λvs H Q _=>IspPut vs H Q
def PutI(d:Nb)(es:List Ent)(e1 e2:Ent)(c1 c2:Option Str)(H:Hp)(a1 a2:Nb):Nat→Prop
 |0=>Vx es
 |1=>Vx (zV c1)
 |_=>Vx (UU a2)
def mem_setE(h:e∈es)(hx:e.1≠x):e∈U2 x r a:=by unfold setE;exact Qe.mpr ⟨e,h,by rw[if_neg hx]⟩
section
variable{P:Nk}{w:Nl}{K:Na}{mg:Nd}{base:Nn}
def scPut:zam [qR, "_law_one", "_law_corner_of",qO, "_law_after", "_law_place", "_law_corner", "_law_new", "_law_row", "_law_at"] [qR, "_law_one", "_law_corner_of",qO, "_law_after"] (zah sPut):=fsk
def ok_put(F:QD "_law_put" "_law_put" sPut f fd):ZB 1 f fd [qR, "_law_one", "_law_corner_of",qO, "_law_after"] spPut:=by
 refine F.okL scPut HM;obtain⟨d,es,e1,e2,c1,c2,rfl,R,bu,eY,au,bG,lm,hl,aS,k⟩:=h;have hu:=zb7 hr;have ar:=sizeLine_eq;refine⟨_,zaf (ZX (pi_tup (PV (zbq (ZS (ZU Tw))) (Sa (zbq (QC (QV vy)))))) (Ei (BA scPut.nd) (zaj (X5 scPut.nd) (Te (Gv scPut.nd))))
  (zad (zax 8 scPut.nd (QT SE))
  (zad (zax 9 scPut.nd zai)
  (zad (EC (zg8 LI) (zax 9 scPut.nd (AW (VP CB CC))))
  (zaf (BB RQ SE (Mt (Mt (BQ CB zdm (zck OW)) (zbs Ae)) (BQ CB (zck OW) zdm)) rfl)))))),?_⟩
 refine⟨vG,vG,vG,zw,λt1 eB=>?_⟩;have k1:Keep [] H (ZR t1 (.tup [Tv,zbv c1,Le])):=Keep.new eB;have g1:(ZR t1 (.tup [Tv,zbv c1,Le])) t1=some (.tup [Tv,zbv c1,Le]):=zab;generalize ZR t1 (.tup [Tv,zbv c1,Le])=H1 at k1 g1;refine⟨vG,vG,vG,zw,λt2 cp=>⟨Tg,λq hq=>?_⟩⟩;have k2:Keep [] H1 (QA t2 (.tup [Le,zbv c2,Tv])):=Keep.new cp;have g2:(QA t2 (.tup [Le,zbv c2,Tv])) t2=some (.tup [Le,zbv c2,Tv]):=zab;generalize QA t2 (.tup [Le,zbv c2,Tv])=H2 at k2 g2 hq;have k3:Keep [] H2 (QI q (.tup [HK t1,HK t2])):=Keep.new hq;have qT:(QI q (.tup [HK t1,HK t2])) q=some (.tup [HK t1,HK t2]):=zab;generalize QI q (.tup [HK t1,HK t2])=H3 at k3 qT;have fV:Keep [] H H3:=(TX k2).trans k3;have g13:=(LY k3) _ _ g1 HA;have g23:=k3 _ _ g2 HA;have R3:RAt H3 d es:=R.keep fV HA λ_ _=>by simp
 have ndq:q≠d:=za8 qT R3.dc HJ;have nd1:t1≠d:=za8 g13 R3.dc HJ;have dS:t2≠d:=za8 g23 R3.dc HJ;refine⟨q,rfl,⟨_,Rx qT⟩,for_tup (xs:=[HK t1,HK t2]) (λi σ H'=>Aj2 (Ex5 λx5 x6 x7 x8 x9=>σ=[Lb,HW Tv,Ea c1,HW Le,Ea c2,x5,x6,x7,x8,x9]) (Aj2 (Keep [d] H3 H') (Ex2 λa1 a2=>VU i)))
  ⟨⟨_,_,_,_,_,rfl⟩,Keep.refl,0,0,R3⟩ (λi σ H' _ hh=>SqT.of (hh.2.1 _ _ qT (HE ndq))) ?_ ?_⟩
 ·rintro i v σ H4 hv ⟨⟨x5,x6,x7,x8,x9,rfl⟩,k4,a1,a2,hR⟩;obtain⟨t,aB,e,c,n,rfl,ht,R4,he,hc,bM,hesl,fin⟩:∃(t:Nb) (aB:List Ent) (e:Ent) (c:Option Str) (n:Str),v=.ref t∧H4 t=some (.tup [Si,zbv c,EB n])∧RAt H4 d aB∧e∈aB∧(∀x,c=some x→x∈e.2.1)∧e.2.1.length≤900∧aB.length≤900 ∧
    ∀(a:Nb) (H':Hp),RAt H' d (setE aB e.1 (V6 n) a)→Ex2 λa1 a2=>VU Rm:=by
   match i,hv,hR with
   |0,hv,hR=>exact⟨t1,es,e1,c1,e2.1,(Qo hv).symm,k4 _ _ g13 (HE nd1),hR,bu,bG,hl e1 bu,aS,λa H' r=>⟨a,0,r⟩⟩
   |1,hv,hR=>exact⟨t2,_,e2,c2,e1.1,(Qo hv).symm,k4 _ _ g23 (HE dS),hR,mem_setE eY (Zm au),lm,hl e2 eY,by unfold setE;rw[List.length_map];exact aS,λa H' r=>⟨a1,a,r⟩⟩
   |n+2,hv,hR=>cases hv
  clear hv hR;have aG:=R4.ro e he;refine⟨t,vG,Rx ht,rfl,_,vG,_,vG,_,vG,rfl,vG,vG,d,vG,(zcb R4.nd he▸DGet.k (k:=Sum.inr e.1) R4.dc),?_⟩;show tSeq (tAsg (tC (TH 0)) (ze0 9)) _ _ _ _;refine zjj (λ σ' H'=>Aj2 (σ'=[Lb,HW Tv,Ea c1,HW Le,Ea c2,EW,Ea c,S4 n,Pi,SL 0]) (H4=H')) (λD' ci=>ci _ _ ⟨rfl,rfl⟩) ?_;rintro σ' H' ⟨rfl,rfl⟩;dsimp only;refine zjj (λ σ' H'=>Aj2 (Ex1 λj:Nat=>Aj3 (σ'=[Lb,HW Tv,Ea c1,HW Le,Ea c2,EW,Ea c,S4 n,Pi,SL j]) (j≤e.2.1.length) (V6 n=e.2.1.take j++n::e.2.1.drop j)) (H4=H')) (λD' ci=>?_) ?_
  ·cases c with
   |none=>exact⟨vG,vG,iteF (ci _ _ ⟨⟨0,rfl,SW,rfl⟩,rfl⟩)⟩
   |some x=>
    have hx:=hc x rfl;obtain⟨i1,i2⟩:=zjn hx;refine⟨vG,vG,iteT ⟨vG,.inl ⟨rfl,_,HL aG⟩,vG,e.2.2,_,_,vG,rfl,aG,rfl,PH,i1,i2,_,vG,rfl,ci _ _ ⟨⟨e.2.1.idxOf x+1,?_,idx_lt hx,rfl⟩,rfl⟩⟩⟩;have e1:((e.2.1.idxOf x+1:Nat):Int)=(e.2.1.idxOf x:Int)+1:=by lia
    rw[e1];rfl
  rintro σ' H' ⟨⟨j,rfl,hj,ei⟩,rfl⟩;have aN:(e.2.1.map V.str).length=e.2.1.length:=Qa ..;refine⟨vG,vG,vG,e.2.2,vG,HL aG,λp1 h1=>⟨vG,OU,λp2 h2=>?_⟩⟩;have fS:p1≠p2:=zac (o:=_) zab h2;refine⟨p1,p2,_,vG,rfl,yx,zab,?_,λp3 h3=>?_⟩
  ·have:=XU none (some (j:Int));rw[aN]at this;show _+1≤sizeLine;lia
  generalize gY:upd (zu p1 (Y7 none (some (j:Int)))) p2 (.lst [EB n])=H5 at h3 ⊢;have k5:Keep [] H4 H5:=by rw[←gY];exact(HV h1).trans Pw
  have jm:=k5 _ _ aG HA;have n3:e.2.2≠p3:=zac jm h3;refine⟨vG,vG,vG,e.2.2,vG,HL (by rw[zag n3];exact jm),λp4 h4=>?_⟩;have n34:p3≠p4:=zac (o:=_) zab h4;refine⟨p3,p4,_,vG,rfl,(HZ n34 zab),zab,?_,λp5 h5=>?_⟩
  ·have q1:=XU none (some (j:Int));have q2:=XU (some (j:Int)) none;rw[aN]at q1 q2;rw[Za];show _+1+_≤sizeLine;lia
  generalize hH4:upd (QZ p3 (HR (Y7 none (some (j:Int))++[EB n]))) p4 (HR (Y7 (some (j:Int)) none))=H6 at h5 ⊢;have k6:Keep [] H4 H6:=by rw[←hH4];exact(CD Px).trans Pz
  have pz:=k6 _ _ R4.dc HA;have nd5:d≠p5:=zac pz h5;refine⟨vG,vG,d,vG,DPut.k (k:=Sum.inr e.1) (HZ nd5 pz) SY,?_⟩;have ce:e.1∈aB.map (·.1):=Qe.mpr ⟨e,he,rfl⟩;have el:Y7 none (some (j:Int))++[V.str n]++Y7 (some (j:Int)) none=(V6 n).map V.str:=by rw[cut_to Aa,zjv Aa,ei,Qp,Qn,Je,Xj,Qw];rfl
  refine⟨⟨_,_,_,_,vG⟩,λx o ex nx=>?_,fin p5 _ ⟨?_,λe' bi=>?_,by rw[zce];exact R4.nd⟩⟩
  ·have nxd:x≠d:=λz=>nx (by rw[z];exact Qd.mpr rfl);have e4:=k4 x o ex nx;rw[zag nxd,zag (yp (k6 _ _ e4 HA) h5)];exact k6 _ _ e4 HA
  ·rw[zab,put_setE (r:=V6 n) ce]
  unfold setE at bi;obtain⟨e0,h0,rfl⟩:=Qe.mp bi;by_cases z:e0.1=e.1
  ·rw[Sx z];rw[zag (Zm nd5),zab,el]
  rw[So z];have r0:=R4.ro e0 h0;have nd0:e0.2.2≠d:=za8 r0 R4.dc HJ;rw[zag nd0,zag (yp (k6 _ _ r0 HA) h5)];exact k6 _ _ r0 HA
 rintro σ H4 ⟨⟨x5,x6,x7,x8,x9,rfl⟩,k4,a1,a2,hR⟩;exact k a1 a2 H4 hR λc o ec nc=>k4 c o (fV c o ec HA) nc
end
end K21
namespace Wb
section
variable{α:Type}[DecidableEq α]
theorem itr_front(rs:Rs α)(s:α×α):∀n,Bc s (n+1)=Bc (stp rs s) n
 |0=>rfl
 |n+1=>congrArg (stp rs) (itr_front rs s n)
theorem lk_itr:∀{t:List (α×α)} {s:α×α},Lk (st yA) s t e→run rs s (t.length+1)=s::t
 |[],s,k=>rfl
 |y::t,s,k=>by have h1:=lk_itr k.2;have hs:stp rs s=y:=k.1;unfold run at h1 ⊢;rw[Qy,List.range_succ_eq_map,Qn,Zg,←h1];refine congrArg (s::·) (Yj λn _=>?_);show Bc s (n+1)=_;rw[itr_front,hs]
end
end Wb
namespace K21
open PySem L2 Wb
abbrev sCross:Stmt:=top 57
structure DrE(H:Hp)(d:Nb)(es:List Ent):Prop where
 ra:Vx es
 gd:Good Ox
 few:es.length≤16
def zbw(es:List Ent):(LQ es).map (·.1)=es.map (·.1):=by unfold rsOf;rw[List.map_map];rfl
def DrE.k0(r:Ds es)(k:RH H):YZ es:=⟨r.ra.keep k HA λ_ _=>by simp,r.gd,r.few⟩
def DrE.pot(r:Ds es)(h:NN m)(k:Keep [p] H H'):YZ es:=
 ⟨r.ra.keep k (by simpa using pot_nd h r.ra.dc) λe he=>by simpa using zg6 h (r.ra.ro e he),r.gd,r.few⟩
def DrE.cert(r:Ds es):∃cs a9,Cert (es.map (·.1)) RZ cs a9:=by obtain⟨cs,a9,C⟩:=r.gd;rw[zbw]at C;exact⟨cs,a9,C⟩
def DrE.row(r:Ds es):∀e∈es,e.2.1.length≤16:=λe he=>by have:=zfk.rows r.gd (e.1,e.2.1) (TW ⟨e,he,rfl⟩);rw[show(LQ es).length=es.length from Qa ..]at this;exact Zi this r.few
def DrE.rf(r:Ds es):RF H d es:=⟨.inl r.ra.dc,r.ra.nd,r.ra.ro⟩
inductive IspCross(vs:List V)(H:Hp)(Q:VK):Prop
 |mk(p d:Nb)(b m:Int)(es:List Ent)(h0:vs=[.ref d,.ref p])(h1:Pot H p b m)(h2:DrE H d es)(h3:∀(b' m':Int) (ai:List Ent) (H':Hp),Pot H' p b' m'→DrE H' d ai→ai.map (·.1)=es.map (·.1)→Keep [d,p] H H'→Q .non H')
def zg1:Sp:=λvs H Q _=>IspCross vs H Q
def rnd_itr(R:Rnd yA s L)(hu:u∈L)(hv:v∈L):∃n,Bc u n=v:=by
 obtain⟨t,rfl,k⟩:=R.cy;obtain⟨A,B,e⟩:=Yq hu;have c:Cyc (st yA) (A++u::B):=⟨s,t,e.symm,k⟩;have kl:=zdc c;have aK:v∈u::(B++A):=by
  rw[e]at hv;rcases Qm.mp hv with z|z
  ·exact QR (WI z)
  rcases Qi.mp z with y|y
  ·rw[y];exact Qc
  exact QR (YG y)
 rw[←lk_itr kl]at aK;obtain⟨n,_,e2⟩:=Qe.mp aK;exact⟨n,e2⟩
def good_tie(G:Good Ox)(R:KR s L)(hu:u∈L)(hv:v∈L)(nd:(es.map (·.1)).Nodup)(h1:e1∈es)(h2:e2∈es)(q1:e1.1=u.2)(q2:e2.1=v.2)(au:v.2≠u.2)(oh:v.2∉e1.2.1) :
  Good (LQ (Y1 a2)):=by
 obtain⟨n,hn⟩:=rnd_itr R hu hv;rw[zda,zda];have aq:u.1∈e1.2.1:=by have:=R.al u hu;rw[←q1,Vd h1]at this;exact this
 have hs:u=(u.1,e1.1):=Wx rfl q1.symm;have key:=zfk.tie Ox u.1 (e1.1,e1.2.1) n G (TW ⟨e1,h1,rfl⟩) aq (by rw[←hs,hn,q1];exact au) (by rw[←hs,hn];exact oh);rw[←hs,hn,←q2,Vd h2]at key;exact key
def ndCr:(["_law_place",qR]:List Str).Nodup:=by decide+kernel
def some_ok(R:RAt H0 d es)(aS:es.length≤16)(nfz:∀ o' u',X.H₀ d≠some Tl)(fin:∀(D:Nb) (G:Ng) (H':Hp),H' D=some CF→(∀y,y∈G→∃e∈es,e.1=y∧e.2.1≠[])→G.length≤16→Keep [] H0 H'→D'.nx ((some C0::σ).set 2 (HC D)) H') :
  sThaw X (tAsg (tLC [none,yX] (iDict (tVar 0)) (ze0 0) (tTest (tOp (Hb K) (tDGet (tVar 1) (tVar 0)) (tLst tNil))) (tVar 0)) (ze0 2)) D' (some C0::σ) H0:=by
 have ar:=sizeLine_eq;refine⟨_,rfl,d,_,rfl,R.dc,λo=>⟨λi m ys τ H1=>Aj6 (m=es.length-i) (i≤es.length) (ys=((II i).filter λe=>!e.2.1.isEmpty).map (λe=>V.str e.1)) (Ex1 λx=>τ=[x,Lb]) (H1 d=some Py) (Keep [d] H0 H1),
  ⟨es.length,HA,SW,rfl,⟨none,rfl⟩,zab,L4⟩,?_⟩⟩
 rintro i m1 ys τ H1 ⟨rfl,hi,rfl,⟨x0,rfl⟩,hz,k1⟩;by_cases ad:i<es.length
 ·refine .inr ⟨⟨hz,by rw[Qa];exact ad⟩,?_,?_⟩
  ·have h1:(((II i).filter λe=>!e.2.1.isEmpty).map (λe=>V.str e.1)).length≤es.length:=by rw[Qa];exact X4 (Rc Zo)
   lia
  rintro x H' ⟨rfl,pr,e1,rfl⟩;have g1:pr=((Sum.inr es[i].1:Key),V.ref es[i].2.2):=by rw[Qk,Qb ad]at e1;exact(Qo e1).symm
  subst g1;have aU:es[i]∈es:=Qq ad;have du:=R.ro _ aU;have nri:es[i].2.2≠d:=za8 du R.dc HJ;have bJ:=k1 _ _ du (HE nri);refine⟨vG,vG,d,.ref es[i].2.2,rfl,Rq ⟨_,Sum.inr es[i].1,SJ ⟨o,hz⟩,rfl,(zcb R.nd aU).symm⟩,Cm,λq hq=>?_⟩;have nq:es[i].2.2≠q:=zac bJ hq;have nqd:d≠q:=VQ hq;refine⟨es[i].2.2,q,vG,rfl,HL (by rw[zag nq];exact bJ),Ls,vG,?_⟩;have cM:Keep [d] H0 (U6 q RM):=k1.trans Iw;have cz:(U6 q RM) d=some Py:=by rw[zag nqd];exact hz
  have aZ:es.take Rm=es.take i++[es[i]]:=Qh ad;have rh:(es[i].2.1.map V.str).isEmpty=es[i].2.1.isEmpty:=by cases es[i].2.1<;>rfl
  rw[if_pos rfl,rh];by_cases hb:es[i].2.1.isEmpty=true
  ·rw[hb];refine iteF ⟨_,?_,rfl,ad,?_,⟨_,rfl⟩,cz,cM⟩
   ·exact zar1 ‹_›
   rw[aZ,Yp,Zq (by rw[hb];decide),Wk,Zt]
  have cu:es[i].2.1.isEmpty=false:=by simpa using hb
  rw[cu];refine iteT ⟨_,rfl,_,?_,rfl,ad,?_,⟨_,rfl⟩,cz,cM⟩
  ·exact zar1 ‹_›
  rw[aZ,Yp,Zp (by rw[cu];decide),Wk,Qp];rfl
 have bw:i=es.length:=by exact zar3 ‹_› ‹_›
 subst bw;refine .inl ⟨⟨hz,AK⟩,λD hD=>?_⟩;have ndD:d≠D:=VQ hD;rw[Qr Rf];refine⟨d,o,_,yD,nfz,?_⟩;have hDm:((es.filter λe=>!e.2.1.isEmpty).map λe=>V.str e.1)=((es.filter λe=>!e.2.1.isEmpty).map (·.1)).map V.str:=by rw[Zg];rfl
 rw[hDm];have hG:∀y,y∈(es.filter λe=>!e.2.1.isEmpty).map (·.1)→∃e∈es,e.1=y∧e.2.1≠[]:=λy hy=>by obtain⟨e,he,ee⟩:=Qe.mp hy;rw[Zf]at he;exact⟨e,he.1,ee,by simpa using he.2⟩
 have my:((es.filter λe=>!e.2.1.isEmpty).map (·.1)).length≤16:=by rw[Qa];exact X4 aS
 generalize(es.filter λe=>!e.2.1.isEmpty).map (·.1)=G at hG my;have k2:Keep [] H0 (JA Ry):=λc u ec _=>by
  by_cases az:c=d
  ·subst az;rw[zab,←R.dc];exact ec
  have qd:=k1 c u ec wJ;rw[zag az,zag (yp qd hD)];exact qd
 have dj:(JA Ry) D=some CF:=by rw[zag yE];exact zab
 generalize JA Ry=H2 at k2 dj;exact fin D G H2 dj hG my k2
section
variable{P:Nk}{w:Nl}{K:Na}{mg:Nd}{base:Nn}
def zet:zam [qR,qP, "_law_some", "_law_p", "_law_face_here", "_law_first", "_law_second"] [qR,qP] (zah sCross):=fsk
def ok_cross(F:QD "_law_crossed" "_law_crossed" sCross f fd)(GT:ZI "_law_take" [qP,qM] 1 zg0)(GF:ZI "_law_face" [qR, "_law_p", "_law_q"] 2 ziw)(GI:ZI "_law_put" [qR, "_law_one", "_law_corner_of",qO, "_law_after"] 1 spPut)(ae:mg "len" = none):ZB 3 f fd [qR,qP] zg1:=by
 refine F.okL zet (λcdv A outer s0 H0 vs Q E hr h=>?_);obtain⟨p,d,b,m,es,rfl,hp,D0,kq⟩:=h;have R:=D0.ra;have aS:=D0.few;have hu:=zb7 hr;have e9:=Xh hu;have aj:BY _:=hr.mono HH;have ar:=sizeLine_eq;have i0:∀x y:V,atI [x,y] ((0:Nat):Int)=some x:=λx y=>za0 rfl;have i1:∀x y:V,atI [x,y] ((1:Nat):Int)=some y:=λx y=>za0 rfl;refine⟨_,zad (zi6 (ps_lc (i:=2) (M:=["_law_place",qR]) (ix:=[none,yX]) zet.nd rfl rfl (mkB zet) rfl OB (λC a5 ex s H=>YX ndCr)
    (λC a5 ex s H=>zcp (zap (zh6 (K:=K) rfl e9) Th Tq Sw)) Es rfl))
  (zaf (zbg (VA Ss Tq Sw)
   (zad (Xz zet.nd (Ej Ss SR))
   (zad (XA zet.nd (Ek GF hr (QC (zaa LJ zae))))
   (zad (NS zet.nd (Ej Sy TQ))
   (zad (NT zet.nd (Ej Sy TQ))
   (zaf (zbg (PW.pt (zh4 (XB (QO SE zai (λ_ _=>rfl)) (Z6 (λ_ _=>rfl)) Sw) (zfz (KK (Z6 (λ_ _=>rfl)) (QT (QO SE zai (λ_ _=>rfl))) rfl))))
    (zaf (zbn (Hi (yI SE Cb (Sa Cb))))) zao))))))
   zao)),?_⟩
 have nfz:∀o' u',H0 d≠some Tl:=λo' u' z=>by rw[R.dc]at z;cases z
 refine zjj (λ σ' H2=>Ex2 λ(D:Nb) (G:Ng)=>Aj5 (σ'=[Lb,zK,HC D,none,none,none,none]) (H2 D=some CF) (∀y,y∈G→∃e∈es,e.1=y∧e.2.1≠[]) (G.length≤16) (Keep [] H0 H2)) (λD' ci=>some_ok R aS nfz λD G H' a b c k=>ci _ _ ⟨D,G,rfl,a,b,c,k⟩) ?_;rintro σ' H2 ⟨D,G,rfl,dj,hG,my,k2⟩;dsimp only;have D2:=D0.k0 k2;have cr:=hp.keep k2 HA;have none':∀(b1 m1:Int) (H1:Hp),Pot H1 p b1 m1→DrE H1 d es→Keep [p] H0 H1→Q .non H1:=λb1 m1 H1 fB D1 k1=>kq b1 m1 es H1 fB D1 rfl (k1.sub HA);refine⟨vG,Cm,λq hq=>?_⟩;have nDq:D≠q:=zac dj hq;refine⟨D,q,vG,rfl,HL (by rw[zag nDq];exact dj),Ls,vG,?_⟩;have k3:Keep [] H2 (QI q RM):=Keep.new hq;have cx:=(zag (o:=.lst []) nDq).trans dj;generalize QI q RM=H3 at k3 cx;have D3:=D2.k0 k3;have cG:=cr.keep k3 HA;have fV:=k2.trans k3;rw[if_pos rfl];cases G with
 |nil=>exact Z2 OC
 |cons g0 gt=>
  refine WX ?_;generalize uU:g0::gt=G at cx hG my;have hGp:0<G.length:=by rw[←uU];simp
  have aN:(G.map V.str).length=G.length:=Qa ..;refine⟨vG,vG,vG,D,vG,Sr cx,p,b,m,vG,cG,IO,IO,λj4 b4 m4 H4 lB pY bK jO=>?_⟩;obtain⟨j4,rfl⟩:=Zx lB;rw[aN]at pY;have oN:j4<G.length:=by lia
  have k4:=zbu jO;have mz:=k4 _ _ cx (by simpa using zg6 cG cx);have D4:=D3.pot cG k4;have fU:Keep [p] H0 H4:=(fV.sub HA).trans k4;refine⟨D,_,_,vG,rfl,HL mz,za0 (by rw[Qk,Qb oN];rfl),?_⟩;obtain⟨e0,cN,v9,kT⟩:=hG G[j4] (Qq oN);rw[←v9];have g4:DQ IU:=zcb D4.ra.nd cN▸DGet.k (k:=Sum.inr e0.1) D4.ra.dc;have gc:=D4.ra.ro e0 cN;have tL:=D4.row e0 cN;have kC:0<e0.2.1.length:=Jf.mpr kT;have cJ:(e0.2.1.map V.str).length=e0.2.1.length:=Qa ..;refine⟨vG,vG,vG,vG,d,vG,g4,vG,vG,vG,d,vG,g4,e0.2.2,vG,Sr gc,p,b4,m4,vG,bK,Rc cJ,Rc cJ,λj5 b5 m5 H5 pX pW aY jb=>?_⟩;obtain⟨j5,rfl⟩:=Zx pX;rw[cJ]at pW;have oM:j5<e0.2.1.length:=by lia
  have k5:=zbu jb;have D5:=D4.pot bK k5;have gb:=D5.ra.ro e0 cN;have hV:=fU.trans k5;refine⟨e0.2.2,_,_,vG,rfl,HL gb,za0 (by rw[Qk,Qb oM];rfl),?_⟩;obtain⟨cs,a9,C⟩:=D5.cert;have o6:e0.2.1[j5]∈ZJ e0.1:=by rw[JJ cN];exact Qq oM
  refine⟨d,es,cs,a9,(e0.1,e0.2.1[j5]),rfl,D5.rf,UK o6,C,HB,λl6 ps L H6 fl6 eQ mK RL jD _ k6=>?_⟩;have aH:=Zr mK;have cw:0<L.length:=by obtain⟨t,e,_⟩:=RL.cy;rw[e];simp
  have bo:=aY.keep k6 HA;have D6:=D5.k0 k6;have jc:=hV.trans Ie;have eO:(ps.map V.ref).length=ps.length:=Qa ..;have nlp:l6≠p:=za8 eQ bo.1 (by intro z;injection z with z;rcases ps with _|⟨_,_⟩<;>cases z);refine⟨vG,vG,vG,l6,vG,Sr eQ,p,b5,m5,vG,bo,Rc eO,Rc eO,λj7 b7 m7 H7 rH rG bn mU=>?_⟩;obtain⟨j7,rfl⟩:=Zx rH;rw[eO]at rG;have hj7:j7<ps.length:=by lia
  have k7:=zbu mU;have D7:=Hj k7;have fT:=jc.trans k7;have bD:=k7 _ _ eQ OD;have qt:zbx H7 ps L:=zbx.keep mK λc x y ec=>k7 _ _ ec (by simpa using za8 ec bo.1 HJ);refine⟨l6,_,_,vG,rfl,HL bD,za0 (by rw[Qk,Qb hj7];rfl),vG,vG,vG,l6,vG,Sr bD,p,b7,m7,vG,bn,Rc eO,Rc eO,λj8 b8 m8 H8 uY h81 bY iy=>?_⟩;obtain⟨j8,rfl⟩:=Zx uY;rw[eO]at h81;have r6:j8<ps.length:=by lia
  have k8:=zbu iy;have D8:=D7.pot bn k8;have iz:=fT.trans k8;have mj:=k8 _ _ bD OD;have pa8:zbx H8 ps L:=zbx.keep qt λc x y ec=>k8 _ _ ec (by simpa using za8 ec bn.1 HJ);refine⟨l6,_,_,vG,rfl,HL mj,za0 (by rw[Qk,Qb r6];rfl),?_⟩;obtain⟨h7,jh⟩:=zat pa8 hj7;obtain⟨h8,fX⟩:=zat pa8 r6;have mu:L[j7]∈L:=Qq h7;have mv:L[j8]∈L:=Qq h8;generalize L[j7]=u at jh mu;generalize L[j8]=v at fX mv;obtain⟨e1,bu,q1⟩:=Qe.mp (OA (RL.al u mu));obtain⟨e2,eY,q2⟩:=Qe.mp (OA (RL.al v mv));have dk:e1.1=u.2:=q1;have fQ:e2.1=v.2:=q2;refine⟨vG,ps[j7],_,_,vG,rfl,Rx jh,LD,vG,ps[j8],_,_,vG,rfl,z3,LD,rfl,vG,?_⟩;by_cases c1:u.2=v.2
  ·exact zau (by show(!decide (V.str u.2=V.str v.2))=false;rw[c1,decide_eq_true rfl];rfl) As
  refine zbj (by show(!decide (V.str u.2=V.str v.2))=true;rw[decide_eq_false (λz=>c1 (by injection z))];rfl) ?_;have g8:DGet H8 d (.str u.2) IV:=dk▸(Dt bu▸DGet.k (k:=Sum.inr e1.1) D8.ra.dc);refine⟨vG,ps[j8],_,_,vG,rfl,z3,LD,vG,vG,ps[j7],_,_,vG,rfl,Rx jh,LD,d,vG,g8,e1.2.2,vG,wY,rfl,PH,vG,?_⟩;rw[zdb];by_cases c2:v.2∈e1.2.1
  ·exact zau (by rw[decide_eq_true c2];rfl) As
  refine zbj (by rw[decide_eq_false c2];rfl) ?_;have qy:u.1∈e1.2.1:=by have:=RL.al u mu;rw[←dk,JJ bu]at this;exact this
  have qx:v.1∈e2.2.1:=by have:=RL.al v mv;rw[←fQ,JJ eY]at this;exact this
  refine⟨vG,vG,ps[j7],_,_,vG,rfl,Rx jh,LD,vG,ps[j7],_,_,vG,rfl,Rx jh,C9,vG,ps[j8],_,_,vG,rfl,z3,LD,vG,ps[j8],_,_,vG,rfl,z3,C9,d,es,e1,e2,some u.1,some v.1,by rw[dk,fQ];rfl,D8.ra,bu,eY,λz=>c1 (by rw[←dk,z,fQ]),λy z=>by rw[←Qo z];exact qy,λy z=>by rw[←Qo z];exact qx,λe he=>VW HH,HB,λa1 a2 H9 R9 k9=>kq b8 m8 _ H9 (bY.keep k9 (by simpa using Zm (pot_nd bY D8.ra.dc))) ⟨R9,good_tie D8.gd RL mu mv C.nd bu eY dk fQ (Zm c1) c2,by unfold setE;rw[List.length_map,List.length_map];exact aS⟩ (by rw[zce,zce]) ((iz.sub HA).trans Ii)⟩
abbrev sFilled:Stmt:=top 58
def rnd_tie{es:List Ent}{e1 e2:Ent}{u v:Str×Str}{a1 a2:Nb}{X rest:Nt}(nd:(es.map (·.1)).Nodup)(cY:∀ e∈es,e.2.1.Nodup)(R:KR u (u::(X++v::rest)))(h1:e1∈es)(h2:e2∈es)(q1:e1.1=u.2)(q2:e2.1=v.2)(au:v.2≠u.2)(oh:v.2∉e1.2.1)(qJ:u.2∉e2.2.1) :
  Rnd (Ih (Y1 a2)) u (u::([(u.2,v.2)]++rest)):=by
 have r1:ZJ e1.1=e1.2.1:=Vd h1;have r2:ZJ e2.1=e2.2.1:=Vd h2;have hu:u.1∈e1.2.1:=by have:=R.al u Qc;rw[←q1,r1]at this;exact this
 have hvL:v∈u::(X++v::rest):=QR ER;have hv:v.1∈e2.2.1:=by have:=R.al v hvL;rw[←q2,r2]at this;exact this
 have fS:e1.1≠e2.1:=λz=>au (by rw[←q1,z,q2]);have iR:e1.1∈(LQ es).map (·.1):=by rw[zbw];exact Qe.mpr ⟨e1,h1,rfl⟩
 have cM:e2.1∈(LQ es).map (·.1):=by rw[zbw];exact Qe.mpr ⟨e2,h2,rfl⟩
 rw[zda,zda];have g1:QH u.2=JR e2.1:=by rw[←q1,zbb fS,zbh iR]
 have g2:QH v.2=JS e1.1:=by rw[←q2,zbh (HP zb3 cM)]
 have g0:∀y,y≠u.2→y≠v.2→QH y=ZJ y:=λy a b=>by rw[zbb (q2▸b),zbb (q1▸a)]
 generalize row (za9 (za9 Ox e1.1 (JR e2.1)) e2.1 (JS e1.1))=r' at g1 g2 g0;have nd1:=cY e1 h1;have dS:=cY e2 h2;have nu:u∉X++v::rest:=(Qt.mp R.nd).1;have qw:=(Zb.mp (Qt.mp R.nd).2).2.1;have nv:v∉rest:=(Qt.mp qw).1;have nur:u∉rest:=λz=>nu (WI (QR z));have aT:∀y∈rest,y.1∈ZJ y.2:=λy hy=>R.al y (QR (WI Cs));have lI:ZJ u.2=e1.2.1:=q1▸r1;have lH:ZJ v.2=e2.2.1:=q2▸r2;have u5:e2.1∉e1.2.1:=q2▸oh;have nV:e1.1∉e2.2.1:=q1▸qJ;have dI:∀y:Str×Str,y.1∈ZJ y.2→y≠(u.2,v.2):=λy hy z=>by rw[z]at hy;exact qJ (lH▸hy)
 obtain⟨t,et,kt⟩:=R.cy;have et':X++v::rest=t:=(List.cons.inj et).2;rw[←et']at kt;refine⟨⟨vG,?_,zgq (f:=st RZ) (s:=v) ?_ (λy hy=>?_) (zic.mp kt).2⟩,?_,λy hy=>?_⟩
 ·show (u.2,nxt (r' u.2) u.1)=(u.2,v.2);rw[g1,zfh hu nd1,q2]
 ·show (v.2,nxt (r' v.2) u.2)=(v.2,nxt (ZJ v.2) v.1);rw[g2,lH,←q1,zfg hv dS nV]
 ·show (y.2,nxt (r' y.2) y.1)=(y.2,nxt (ZJ y.2) y.1);have bf:=aT y hy;congr 1;by_cases a:y.2=u.2
  ·rw[a]at bf ⊢;rw[lI]at bf ⊢;rw[g1];exact zd5 hu nd1 u5 bf λb=>nur ((Wx b a:y=u)▸hy)
  by_cases c:y.2=v.2
  ·rw[c]at bf ⊢;rw[lH]at bf ⊢;rw[g2];exact zd5 hv dS nV bf λb=>nv ((Wx b c:y=v)▸hy)
  rw[g0 _ a c]
 ·refine Qt.mpr ⟨λz=>?_,Qt.mpr ⟨λz=>dI _ (aT _ z) rfl,(Qt.mp qw).2⟩⟩;rcases Qi.mp z with y|y
  ·exact dI u (R.al u Qc) y
  exact nur y
 have grow:∀ z:Str×Str,z.1∈ZJ z.2→z.1∈r' z.2:=λz hz=>by
  by_cases a:z.2=u.2
  ·rw[a]at hz ⊢;rw[g1,zd7 hu nd1];exact .inr (lI▸hz)
  by_cases c:z.2=v.2
  ·rw[c]at hz ⊢;rw[g2,zd7 hv dS];exact .inr (lH▸hz)
  rw[g0 _ a c];exact hz
 rcases Qi.mp hy with z|z
 ·rw[z];exact grow u (R.al u Qc)
 rcases Qi.mp z with y'|y'
 ·rw[y'];show u.2∈r' v.2;rw[g2,zd7 hv dS];exact .inl q1.symm
 exact grow y (aT y y')
inductive IspFilled(vs:List V)(H:Hp)(Q:VK):Prop
 |mk(d:Nb)(es:List Ent)(h0:vs=[.ref d])(h2:DrE H d es)(h3:∀(ai:List Ent) (H':Hp),DrE H' d ai→ai.map (·.1)=es.map (·.1)→Keep [d] H H'→Q .non H')
def spFilled:Sp:=λvs H Q _=>IspFilled vs H Q
def Grow(es ai:List Ent):Prop:=ai.map (·.1)=es.map (·.1)∧∀x y,y∈ZJ x→y∈row (LQ ai) x
def Grow.refl:Grow es es:=⟨rfl,λ_ _ h=>h⟩
def Grow.trans(h:Grow a b)(k:Grow b c):Grow a c:=⟨k.1.trans h.1,λx y z=>k.2 x y (h.2 x y z)⟩
def grow_tie(nd:(es.map (·.1)).Nodup)(cY:∀e∈es,e.2.1.Nodup)(h1:e1∈es)(h2:e2∈es)(fS:e1.1≠e2.1)(m1:c1∈e1.2.1)(m2:c2∈e2.2.1) :
  Grow es (setE (zV (HW c1)) e2.1 (ins e2.2.1 (HW c2) e1.1) a2):=by
 refine⟨by rw[zce,zce],λx y h=>?_⟩;rw[zda,zda];have iR:e1.1∈(LQ es).map (·.1):=by rw[zbw];exact Qe.mpr ⟨e1,h1,rfl⟩
 have cM:e2.1∈(LQ es).map (·.1):=by rw[zbw];exact Qe.mpr ⟨e2,h2,rfl⟩
 by_cases a:x=e2.1
 ·rw[a]at h ⊢;rw[Vd h2]at h;rw[zbh (HP zb3 cM),zd7 m2 (cY e2 h2)];exact .inr h
 rw[zbb a];by_cases b:x=e1.1
 ·rw[b]at h ⊢;rw[Vd h1]at h;rw[zbh iR,zd7 m1 (cY e1 h1)];exact .inr h
 rw[zbb b];exact h
def cut_from2(g:α→V)(xs:List α)(k:Nat):cutV (IC g) (some (k:Int)) none=(xs.drop k).map g:=by
 rw[Xj];unfold cutV;have e1:HT.sIx (IC g).length 0 (some (k:Int))=min k (IC g).length:=by rw[HT.sIx_nat]
 have e2:HT.sIx (IC g).length (IC g).length none=(IC g).length:=rfl;rw[e1,e2];by_cases h:k≤(IC g).length
 ·rw[Nat.min_eq_left h,Qr (RN Xv)]
 rw[Nat.min_eq_right HB,Ky,Kz,Um HB]
def zef:zam [qR, "_law_place",qO, "_law_face_here", "_law_first", "_law_second"] [qR] (zah sFilled):=fsk
def ok_filled(F:QD "_law_filled" "_law_filled" sFilled f fd)(GF:ZI "_law_face" [qR, "_law_p", "_law_q"] 2 ziw)(GI:ZI "_law_put" [qR, "_law_one", "_law_corner_of",qO, "_law_after"] 1 spPut)(ao:mg "list" = none):ZB 3 f fd [qR] spFilled:=by
 refine F.okL zef (λcdv A outer s0 H0 vs Q E hr h=>?_);obtain⟨d,es,rfl,D0,kq⟩:=h;have hu:=zb7 hr;have aj:BY _:=hr.mono HH;have ar:=sizeLine_eq;have i0:∀x y:V,atI [x,y] ((0:Nat):Int)=some x:=λx y=>za0 rfl;have i1:∀x y:V,atI [x,y] ((1:Nat):Int)=some y:=λx y=>za0 rfl;refine⟨_,zaf (ZX (EU (NC Rg ao Wl Ta)) (zal 1 zef.nd)
  (zaf (ZX (EU (vw (Sa (QT Rz)))) (ML zef.nd)
   (zad (Xz zef.nd (AX GF hr SR))
   (zad (XA zef.nd (Ez Sn zai))
   (zaf (ZX (EU (BQ Sn (zck zai) zdm)) (BA zef.nd)
    (zaf (zbg (PW.pt (zh4 (XB (QO Sy zai (λ_ _=>rfl)) (QO SE zai (λ_ _=>rfl)) Sw) (zfz (KK (QO SE zai (λ_ _=>rfl)) (QT (QO Sy zai (λ_ _=>rfl))) rfl))))
     (zaf (zbn (Hi (yI Sy (CA SE) (Sa (CA OV)))))) zao))))))))),?_⟩
 refine⟨vG,d,vG,.inl D0.ra.dc,λl1 aI=>?_⟩;rw[zfj];have nd1:l1≠d:=Zm (zac D0.ra.dc aI);have k1:Keep [] H0 (Du l1 R6):=Keep.new aI;have g1:(Du l1 R6) l1=some R6:=zab;generalize Du l1 R6=H1 at k1 g1;refine⟨l1,rfl,⟨_,HL g1⟩,zfl (zs:=es.map (·.1)) (λi σ H'=>Aj3 (Ex5 λx1 x2 x3 x4 x5=>σ=[Lb,x1,x2,x3,x4,x5]) (Keep [d] H1 H') (Ex1 λai:List Ent=>Fj (ai.map (·.1)=es.map (·.1))))
  ⟨⟨_,_,_,_,_,rfl⟩,Keep.refl,es,D0.k0 k1,rfl⟩ (λi σ H' _ hh=>SqL.of (C4 g1 (HE nd1))) ?_ ?_⟩
 ·rintro i hi σ H2 ⟨⟨x1,x2,x3,x4,x5,rfl⟩,k2,ax,D2,n2⟩;have aH:(es.map (·.1))[i]'(hi)∈ax.map (·.1):=by rw[n2];exact Qq hi
  generalize(es.map (·.1))[i]'(hi)=pl at aH;obtain⟨e,he,rfl,g2⟩:=D2.rf.inn aH;refine⟨vG,vG,d,vG,g2,e.2.2,vG,Sr (D2.ra.ro e he),λl3 eR=>?_⟩;have qw:l3≠d:=Zm (zac D2.ra.dc eR);have k3:Keep [] H2 (QI l3 HQ):=Keep.new eR;have g3:(QI l3 HQ) l3=some HQ:=zab;generalize QI l3 HQ=H3 at k3 g3;refine⟨l3,rfl,⟨_,Av⟩,zfl (zs:=e.2.1) (λj σ H'=>Aj3 (Ex4 λx2 x3 x4 x5=>σ=[Lb,EW,x2,x3,x4,x5]) (Keep [d] H3 H') (Ex1 λai:List Ent=>Fj (Grow ax ai)))
   ⟨⟨_,_,_,_,rfl⟩,Keep.refl,ax,D2.k0 k3,Grow.refl⟩ (λi σ H' _ hh=>SqL.of (C4 g3 (HE qw))) ?_ ?_⟩
  ·rintro j hj σ H4 ⟨⟨x2,x3,x4,x5,rfl⟩,k4,bQ,D4,rP⟩;have hot:e.2.1[j]∈row (LQ ax) e.1:=by rw[zay D2.ra.nd he];exact Qq hj
   generalize e.2.1[j]=ot at hot;obtain⟨cs,a9,C⟩:=D4.cert;have h4:=D4.few;refine⟨vG,vG,vG,d,bQ,cs,a9,(e.1,ot),rfl,D4.rf,UK (rP.2 _ _ hot),C,HB,λl6 ps L H6 fl6 eQ mK RL jD _ k6=>?_⟩;have D6:=D4.k0 k6;have aH:=Zr mK;have cw:0<L.length:=by obtain⟨t,z,_⟩:=RL.cy;rw[z];simp
   have fC:0<ps.length:=by lia
   have nl6:l6≠d:=za8 eQ D6.ra.dc HJ;refine⟨vG,l6,_,_,vG,rfl,HL eQ,za0 (by rw[Qk,Qb fC];rfl),vG,vG,l6,vG,HL eQ,λl7 bD=>?_⟩;have nl7:l7≠d:=Zm (zac D6.ra.dc bD);have k7:Keep [] H6 (OE l7 (UT (some (2:Int)) none)):=Keep.new bD;have g7:(OE l7 (UT (some (2:Int)) none)) l7=some (HR (UT (some (2:Int)) none)):=zab;generalize YY l7 (HR (UT (some (2:Int)) none))=H7 at k7 g7;have ec:UT (HW (2:Int)) none=(ps.drop 2).map V.ref:=cut_from2 V.ref ps 2;rw[ec]at g7;have D7:=D6.k0 k7;have qt:zbx H7 ps L:=zbx.keep mK λc x y ec=>k7 _ _ ec HA;obtain⟨t,eL,kt⟩:=RL.cy;have jh:H7 ps[0]=some (.tup [Si,EB ot]):=by obtain⟨h7,z⟩:=zat qt fC;rw[show L[0]=(e.1,ot) by simp[eL]]at z;exact z
   have nps:∀{c:Nb} {x y:V},H7 c=some (.tup [x,y])→c∉[d]:=λhc=>by simpa using za8 hc D7.ra.dc HJ
   refine⟨l7,rfl,⟨_,HL g7⟩,za2 (xs:=(ps.drop 2).map V.ref) (λn σ H'=>Aj3 (Ex1 λx5=>σ=[Lb,EW,S4 ot,HC l6,HW (.ref ps[0]),x5]) (Keep [d] H7 H') (Ex2 λ(ai:List Ent) (X:Nt)=>Aj3 (YZ ai) (Grow bQ ai) (Fs (e.1,ot) ((e.1,ot)::(X++L.drop (n+2))))))
    ⟨⟨_,rfl⟩,Keep.refl,bQ,t.take 1,D7,Grow.refl,?_⟩ (λi σ H' _ hh=>SqL.of (C4 g7 (HE nl7))) ?_ ?_⟩
   ·rw[eL,List.drop_succ_cons,Wm,←eL];exact RL
   ·rintro n x σ H8 hx ⟨⟨x5,rfl⟩,k8,fH,X,D8,rO,R8⟩;have cc:n<(ps.drop 2).length:=by have:=(TJ hx).1;rwa[Qa]at this
    have hn:n+2<ps.length:=by rw[Xv]at cc;lia
    rw[Qk,List.getElem?_drop,Nat.add_comm 2 n,Qb hn]at hx;cases hx;obtain⟨hL,kh⟩:=zat qt hn;have fX:=k8 _ _ kh (nps kh);have jg:=k8 _ _ jh (nps jh);have eD:L.drop (n+2)=L[n+2]::L.drop (n+1+2):=Yu hL;rw[eD]at R8;generalize L[n+2]=v at fX R8;obtain⟨cs8,lab8,C8⟩:=D8.cert;have mv:v∈(e.1,ot)::(X++v::L.drop (n+1+2)):=QR ER;obtain⟨e1,bu,q1⟩:=Qe.mp (C8.inn (R8.al _ Qc));obtain⟨e2,eY,q2⟩:=Qe.mp (C8.inn (R8.al v mv));have dk:e1.1=ot:=q1;have fQ:e2.1=v.2:=q2;have skip:Ex2 λ(ai:List Ent) (X:Nt)=>Aj3 (DrE H8 d ai) (Grow bQ ai) (Fs (e.1,ot) ((e.1,ot)::(X++L.drop (n+1+2)))):=⟨fH,X++[v],D8,rO,HP Qw R8⟩;refine⟨vG,ps[0],_,_,vG,rfl,Rx jg,LD,vG,ps[n+2],_,_,vG,rfl,z3,LD,rfl,vG,?_⟩;by_cases c1:ot=v.2
    ·exact zau (by show(!decide (V.str ot=V.str v.2))=false;rw[c1,decide_eq_true rfl];rfl) ⟨⟨_,rfl⟩,k8,skip⟩
    refine zbj (by show(!decide (V.str ot=V.str v.2))=true;rw[decide_eq_false (λz=>c1 (by injection z))];rfl) ?_;have g8:DGet H8 d (EB ot) IV:=dk▸(Dt bu▸DGet.k (k:=Sum.inr e1.1) D8.ra.dc);refine⟨vG,ps[n+2],_,_,vG,rfl,z3,LD,vG,vG,ps[0],_,_,vG,rfl,Rx jg,LD,d,vG,g8,e1.2.2,vG,wY,rfl,PH,vG,?_⟩;rw[zdb];by_cases c2:v.2∈e1.2.1
    ·exact zau (by rw[decide_eq_true c2];rfl) ⟨⟨_,rfl⟩,k8,skip⟩
    refine zbj (by rw[decide_eq_false c2];rfl) ?_;have qy:e.1∈e1.2.1:=by have:=R8.al _ Qc;rw[show(e.1,ot).2=e1.1 from dk.symm,VX bu]at this;exact this
    have qx:v.1∈e2.2.1:=by have:=R8.al v mv;rw[←fQ,VX eY]at this;exact this
    have fS:e1.1≠e2.1:=λz=>c1 (by rw[←dk,z,fQ]);have cY:∀e∈fH,e.2.1.Nodup:=λe he=>by have:=C8.rn e.1;rw[VX he]at this;exact this
    have qJ:ot∉e2.2.1:=λz=>c2 (by have:=C8.sy e2.1 ot (by rw[VX eY];exact z);rw[←dk,VX bu,fQ]at this;exact this);have h8:=D8.few;exact⟨vG,vG,ps[0],_,_,vG,rfl,Rx jg,LD,vG,ps[0],_,_,vG,rfl,Rx jg,C9,vG,ps[n+2],_,_,vG,rfl,z3,LD,vG,ps[n+2],_,_,vG,rfl,z3,C9,d,fH,e1,e2,some e.1,some v.1,by rw[dk,fQ];rfl,D8.ra,bu,eY,fS,λy z=>by rw[←Qo z];exact qy,λy z=>by rw[←Qo z];exact qx,λe he=>VW HH,HB,λa1 a2 H9 R9 k9=>⟨⟨vG⟩,k8.trans k9,_,[(ot,v.2)],⟨R9,good_tie (u:=(e.1,ot)) D8.gd R8 Qc mv C8.nd bu eY dk fQ (Zm c1) c2,by unfold setE;rw[List.length_map,List.length_map];exact h8⟩,rO.trans (grow_tie C8.nd cY bu eY fS qy qx),rnd_tie (u:=(e.1,ot)) C8.nd cY R8 bu eY dk fQ (Zm c1) c2 qJ⟩⟩
   rintro σ H8 ⟨⟨x5,rfl⟩,k8,fH,X,D8,rO,R8⟩;refine⟨⟨_,_,_,vG⟩,?_,fH,D8,rP.trans rO⟩;exact((CG Ie).trans O5).trans k8
  rintro σ H4 ⟨⟨x2,x3,x4,x5,rfl⟩,k4,bQ,D4,rP⟩;exact⟨⟨_,_,_,_,vG⟩,(LY (k3.sub HA)).trans k4,bQ,D4,rP.1.trans n2⟩
 rintro σ H2 ⟨⟨x1,x2,x3,x4,x5,rfl⟩,k2,ax,D2,n2⟩;exact kq ax H2 D2 n2 ((k1.sub HA).trans k2)
abbrev sGrown:Stmt:=top 56
def set_comm{rs:Rs Str}{x y:Str}{a b:Ng}(h:x≠y):za9 (MK x a) y b=za9 (MK y b) x a:=by
 unfold za9;rw[Zg,Zg];refine Yj λp _=>?_;show(if(if p.1=x then(p.1,a) else p).1=y then((if p.1=x then(p.1,a) else p).1,b) else(if p.1=x then(p.1,a) else p))=(if(if p.1=y then(p.1,b) else p).1=x then((if p.1=y then(p.1,b) else p).1,a) else(if p.1=y then(p.1,b) else p));by_cases p1:p.1=x
 ·by_cases p2:p.1=y
  ·exact absurd (p1.symm.trans p2) h
  simp[p1,p2,h,Zm h]
 by_cases p2:p.1=y
 ·simp[p1,p2,h,Zm h]
 simp[p1,p2]
inductive IspGrown(vs:List V)(H:Hp)(Q:VK):Prop
 |mk (p nl:Nb) (b m:Int) (ns:Ng) (h0:vs=[.ref p,.ref nl]) (h1:Pot H p b m) (h2:H nl=some (.lst (ns.map V.str))) (hn:ns.Nodup) (hl:ns.length≤16)
  (h3:∀(d:Nb) (b' m':Int) (ai:List Ent) (H':Hp),H d=none→Bx b' m'→YZ ai→ai.map (·.1)=ns→Keep [p] H H'→Q C0 H'):IspGrown vs H Q
def spGrown:Sp:=λvs H Q _=>IspGrown vs H Q
def zes:zam [qP, "_law_names_here",qR, "_law_name", "_law_some",qO, "_law_corner"] [qP, "_law_names_here"] (zah sGrown):=fsk
def ok_grown(F:QD "_law_grown" "_law_grown" sGrown f fd)(GT:ZI "_law_take" [qP,qM] 1 zg0)(GI:ZI "_law_put" [qR, "_law_one", "_law_corner_of",qO, "_law_after"] 1 spPut)(ae:mg "len" = none)(ao:mg "list" = none):ZB 2 f fd [qP, "_law_names_here"] spGrown:=by
 refine F.okL zes (λcdv A outer s0 H0 vs Q E hr h=>?_);obtain⟨p,nl,b,m,ns,rfl,hp,ma,hnn,hnn2,kq⟩:=h;have hu:=zb7 hr;have e9:=Xh hu;have aj:BY _:=hr.mono HH;have ar:=sizeLine_eq;refine⟨_,zad (NU zes.nd zei)
  (zad (ZX wM (NO zes.nd)
   (zad (XA zes.nd (NC Rg ao Wl SR))
   (zad (UV Sn Tq rfl)
   (zaf (zbg (xb (VA Sy Tq Sw) (zfz (Hh Eu zai Sw)))
    (zad (NS zes.nd (Ez Sy (WA (ZP (Sa (PN TQ))))))
    (zad (NT zes.nd zh5)
    (zad (zbg (VA (MQ Ss SE) Tq Sw)
     (zaf (NT zes.nd (Ez (MQ Ss SE) (WA (ZP (zaa (PN (Sa (MQ (pv 2) (pv 5)))) zae)))))) zao)
    (zaf (zbn (Hi (ZU (QC (Gw vF)))))))))
    zao)))))
  (zaf Ad)),?_⟩
 intro d hd;have k1:Keep [] H0 (Du d (.dK [])):=Keep.new hd;have g1:(Du d (.dK [])) d=some (.dK []):=zab;generalize Du d (.dK [])=H1 at k1 g1;have fB:=hp.keep k1 HA;have kS:=k1 _ _ ma HA;have npl:nl≠p:=zg6 fB kS;have ndl:nl≠d:=zac ma hd;have npd:p≠d:=zac hp.1 hd;have D1:DrE H1 d []:=⟨⟨g1,λe he=>(by cases he),Zk⟩,zfk.nil,SW⟩;have u7:(ns.map V.str).length=ns.length:=Qa ..;refine⟨_,rfl,nl,rfl,⟨_,HL kS⟩,zfl (zs:=ns) (λi σ H'=>Aj3 (Ex4 λx3 x4 x5 x6=>σ=[zK,HC nl,Lb,x3,x4,x5,x6]) (Keep [p,d] H1 H') (Ex3 λ(ai:List Ent) (b' m':Int)=>YA (ai.map (·.1)=ns.take i)))
  ⟨⟨_,_,_,_,rfl⟩,Keep.refl,[],b,m,D1,fB,rfl⟩ (λi σ H' _ hh=>SqL.of (C4 kS (by simp;exact⟨npl,ndl⟩))) ?_ ?_⟩
 ·rintro i hi σ H2 ⟨⟨x3,x4,x5,x6,rfl⟩,k2,es,b2,m2,D2,cr,n2⟩;have hx:ns[i]∉es.map (·.1):=by rw[n2];intro z;obtain⟨j,hj,ej⟩:=List.mem_take_iff_getElem.mp z;have:=(Wf (h₀:=by lia) (h₁:=hi) hnn).mp ej;lia
  have aZ:ns.take Rm=ns.take i++[ns[i]]:=Qh hi;have bM:es.length<16:=by have:=congrArg List.length n2;rw[Qa,Zo]at this;lia
  generalize ns[i]=x at hx aZ;refine⟨vG,d,vG,.inl D2.ra.dc,λl hl=>?_⟩;rw[zfj];refine⟨Cm,λa ha=>?_⟩;have nla:l≠a:=zac (o:=_) zab ha;have eR:(upd AY a RM) l=some R6:=by rw[zag nla];exact zab
  have ha3:(upd AY a RM) a=some (HR (([]:List Str).map V.str)):=zab;have k3:Keep [] H2 (upd AY a RM):=(HV hl).trans (HV ha);generalize upd AY a RM=H3 at eR ha3 k3;have D3:=D2.k0 k3;have cG:=cr.keep k3 HA;refine⟨vG,vG,d,vG,DPut.k (k:=Sum.inr x) D3.ra.dc SY,?_⟩;have R4:=rat_new D3.ra hx ha3;have k4:Keep [d] H3 (Q4 d CV):=Keep.wr Qc;have nld:l≠d:=za8 eR D3.ra.dc HJ;generalize Q4 d CV=H4 at R4 k4;have df:=k4 _ _ eR (HE nld);have bK:=cG.keep k4 (HE npd);have cD:rsOf (es++[(x,[],a)])=rsOf es++[(x,[])]:=by unfold rsOf;rw[List.map_append];rfl
  have hxr:x∉(LQ es).map (·.1):=by rw[zbw];exact hx
  have D4:DrE H4 d (es++[(x,[],a)]):=⟨R4,by rw[cD];exact zfk.new _ _ D3.gd hxr,by rw[Za];show _+1≤16;lia⟩;have fU:Keep [p,d] H1 H4:=(LY (k3.sub HA)).trans (k4.sub HA);have nm:(es++[(x,([]:List Str),a)]).map (·.1)=ns.take Rm:=by rw[aZ,←n2,Qp];rfl
  refine⟨vG,Cm,λq hq=>?_⟩;have nlq:l≠q:=zac df hq;refine⟨l,q,vG,rfl,HL (by rw[zag nlq];exact df),Ls,vG,?_⟩;have k5:Keep [] H4 (QQ q RM):=Keep.new hq;have de:=(zag (o:=.lst []) nlq).trans df;generalize QQ q RM=H5 at k5 de;have D5:=D4.k0 k5;have aY:=bK.keep k5 HA;have hV:=fU.trans O6;rw[if_pos rfl];by_cases me:es=[]
  ·refine zau (by rw[me];rfl) ⟨⟨_,_,_,_,rfl⟩,hV,_,b2,m2,D5,aY,nm⟩
  refine zbj (by cases es with|nil=>exact absurd rfl me|cons _ _=>rfl) ⟨vG,p,b2,m2,8,rfl,aY,HH,HH,λd6 b6 m6 H6 h60 h61 bo sG=>?_⟩;have k6:=zbu sG;have D6:=D5.pot aY k6;have eQ:=k6 _ _ de (by simpa using zg6 aY de);have jc:=hV.trans Ie;refine⟨_,vG,rfl,vG,ite2 (λ_=>?_) (λ_=>⟨⟨_,_,_,_,rfl⟩,jc,_,b6,m6,D6,bo,nm⟩)⟩;have dw:0<es.length:=Jf.mpr me;have aN:((es.map (·.1)).map V.str).length=es.length:=by rw[Qa,Qa]
  refine⟨vG,vG,vG,l,vG,Sr eQ,p,b6,m6,vG,bo,IO,IO,λj7 b7 m7 H7 rH rG bn mU=>?_⟩;obtain⟨j,rfl⟩:=Zx rH;have hj:j<es.length:=by rw[aN]at rG;lia
  have k7:=zbu mU;have bD:=k7 _ _ eQ (by simpa using zg6 bo eQ);have D7:=Hj k7;have fT:=jc.trans O5;refine⟨l,_,_,vG,rfl,HL bD,za0 (by rw[Qk,Qk,Qb hj];rfl),?_⟩;have jA:es[j]∈es:=Qq hj;generalize es[j]=e at jA;have l9:e∈es++[(x,([]:List Str),a)]:=YG jA;have hx4:(x,([]:List Str),a)∈es++[(x,([]:List Str),a)]:=WI Qc;have nex:e.1≠x:=λq=>hx (q▸Qe.mpr ⟨e,jA,rfl⟩);have g7:=DGet.k (k:=Sum.inr e.1) D7.ra.dc;rw[zcb D7.ra.nd l9]at g7;have hr7:=D7.ra.ro e l9;have aW:=D7.row e l9;have tK:(e.2.1.map V.str).length=e.2.1.length:=Qa ..;show tSeq (tAsg (tC V.non) (ze0 6)) _ _ _ _;refine zjj (λ σ' H'=>Aj2 (σ'=[zK,HC nl,Lb,S4 x,CW,EW,some .non]) (H7=H')) (λD' ci=>ci _ _ ⟨rfl,rfl⟩) ?_;rintro σ' H' ⟨rfl,rfl⟩;dsimp only;refine zjj (λ σ' H'=>Ex3 λ(c:Option Str) (b8 m8:Int)=>Aj6 (σ'=[zK,HC nl,Lb,S4 x,CW,EW,Ea c]) (∀y,c=some y→y∈e.2.1) (c=none→e.2.1=[]) (YZ (es++[(x,[],a)])) (Bx b8 m8) (Keep [p,d] H1 H')) (λD' ci=>?_) ?_
  ·refine⟨_,rfl,_,rfl,d,_,rfl,g7,Cm,λq hq=>?_⟩;have nq:e.2.2≠q:=zac hr7 hq;refine⟨e.2.2,q,vG,rfl,HL (by rw[zag nq];exact hr7),Ls,vG,?_⟩;have k8:Keep [] H7 (UL q RM):=Keep.new hq;have D8:=D7.k0 k8;have bY:=bn.keep k8 HA;have iz:=fT.trans (k8.sub HA);generalize UL q RM=H8 at D8 bY iz;rw[if_pos rfl];by_cases h0:e.2.1=[]
   ·exact zau (by rw[h0];rfl) (ci _ _ ⟨none,b7,m7,rfl,λy z=>(by cases z),λ_=>h0,D8,bY,iz⟩)
   refine zbj (by revert h0;cases e.2.1 with|nil=>exact λh0=>absurd rfl h0|cons _ _=>exact λ_=>rfl) ?_;have g8:=DGet.k (k:=Sum.inr e.1) D8.ra.dc;rw[Dt l9]at g8;have hr8:=D8.ra.ro e l9;have kC:0<e.2.1.length:=Jf.mpr h0;refine⟨vG,vG,d,vG,g8,vG,vG,vG,d,vG,g8,e.2.2,vG,Sr hr8,p,b7,m7,vG,bY,Rc tK,Rc tK,λj9 b9 m9 H9 uX h91 oe qz=>?_⟩;obtain⟨j9,rfl⟩:=Zx uX;have um:j9<e.2.1.length:=by rw[tK]at h91;lia
   have k9:=zbu qz;have D9:=D8.pot bY k9;refine⟨e.2.2,_,_,vG,rfl,HL (D9.ra.ro e l9),za0 (by rw[Qk,Qb um];rfl),ci _ _ ⟨some e.2.1[j9],b9,m9,rfl,λy z=>by rw[←Qo z];exact Qq um,λz=>(by cases z),D9,oe,iz.trans Ii⟩⟩
  rintro σ' H8 ⟨c,b8,m8,rfl,hc,ig,D8,bY,iz⟩;refine⟨vG,vG,vG,vG,d,_,(x,[],a),e,none,c,rfl,D8.ra,hx4,l9,Zm nex,λy z=>(by cases z),hc,λe he=>VW HH,by have:=D8.few;lia,λa1 a2 H9 R9 k9=>⟨⟨_,_,_,vG⟩,iz.trans Ii,_,b8,m8,⟨R9,?_,by unfold setE;rw[List.length_map,List.length_map];exact D8.few⟩,bY.keep k9 (HE npd),by rw[zce,zce];exact nm⟩⟩;rw[zda,zda,cD,set_comm (Zm nex)];exact zfk.leaf Ox x (e.1,e.2.1) c D3.gd hxr (TW ⟨e,jA,rfl⟩) hc ig
 rintro σ H2 ⟨⟨x3,x4,x5,x6,rfl⟩,k2,es,b2,m2,D2,cr,n2⟩;rw[Qr (RN u7)]at n2;exact⟨vG,kq d b2 m2 es H2 hd cr D2 n2 λc o ec nc=>k2 c o CH (by simp;exact⟨HE nc,W0 hd⟩)⟩
end
end K21
namespace Wb
section
variable{α:Type}[DecidableEq α]
def zhn{A B:List α}{n:α}(h:n∉A):(A++n::B).erase n=A++B:=by rw[List.erase_append_right _ h,List.erase_cons_head]
def nxt_erase{zs:List α}(nd:zs.Nodup){n w:α}(hn:n∈zs)(hw:w∈zs)(dY:w≠n):nxt (zs.erase n) w=if XH w=n then XH n else XH w:=by
 obtain⟨A,B,rfl,hA,hB⟩:=zb6 hw nd;have k1:=zbd (B:=B) hA;rw[Zb,Qt]at nd;obtain⟨nA,⟨_,nB⟩,nAB⟩:=nd;rcases Qm.mp hn with h|h
 ·obtain⟨A1,A2,rfl,h1,h2⟩:=zb6 h nA;have e0:(A1++n::A2)++w::B=A1++n::(A2++w::B):=by rw[Qw];rfl
  have hw':w∉A1++A2:=λz=>hA (by
   rcases Qm.mp z with q|q
   ·exact YG q
   exact WI (QR q))
  have k2:=zbd (B:=B) hw';have e1:((A1++n::A2)++w::B).erase n=(A1++A2)++w::B:=by rw[e0,zhn h1,Qw]
  have k3:=zbd (B:=A2++w::B) h1;rw[←e0]at k3;rw[e1];cases B with
  |cons b t=>have q1:=Qo k1;have q2:=Qo k2;rw[if_neg (λz=>nAB n h n (QR (by rw[q1.trans z];exact Qc)) rfl)];exact q2.symm.trans q1
  |nil=>
   cases A1 with
   |cons a t=>have q1:=Qo k1;have q2:=Qo k2;rw[if_neg (λz=>h1 (by rw[q1.trans z];exact Qc))];exact q2.symm.trans q1
   |nil=>have q1:=Qo k1;rw[if_pos q1.symm];refine Qo (k2.symm.trans (Eq.trans ?_ k3));cases A2<;>rfl
 have h':n∈B:=by
  rcases Qi.mp h with z|z
  ·exact absurd z.symm dY
  exact z
 obtain⟨B1,B2,rfl,h1,h2⟩:=zb6 h' nB;have u9:n∉A:=λz=>nAB n z n h rfl;have hm:n∉A++w::B1:=by simp only[Qm,Qi,not_or];exact⟨u9,λz=>dY z.symm,h1⟩
 have e0:A++w::(B1++n::B2)=(A++w::B1)++n::B2:=by rw[Qw];rfl
 have e1:(A++w::(B1++n::B2)).erase n=A++w::(B1++B2):=by rw[e0,zhn hm,Qw];rfl
 have k2:=zbd (B:=B1++B2) hA;have k3:=zbd (B:=B2) hm;rw[←e0]at k3;rw[e1];cases B1 with
 |cons b t=>have q1:=Qo k1;have q2:=Qo k2;rw[if_neg (λz=>h1 (by rw[q1.trans z];exact Qc))];exact q2.symm.trans q1
 |nil=>
  have q1:=Qo k1;rw[if_pos q1.symm];refine Qo (k2.symm.trans (Eq.trans ?_ k3));cases B2 with
  |cons b t=>rfl
  |nil=>cases A<;>rfl
def nxt_self{zs:List α}(nd:zs.Nodup)(hw:w∈zs)(h:XH w=w):zs=[w]:=by
 obtain⟨A,B,rfl,hA,hB⟩:=zb6 hw nd;have k:=zbd (B:=B) hA;rw[h]at k;cases B with
 |cons b t=>exact absurd (by rw[←Qo k];exact Qc) hB
 |nil=>
  cases A with
  |nil=>rfl
  |cons a t=>exact absurd (by rw[←Qo k];exact Qc) hA
structure Web(ns:List α)(r:α→List α)(cs:List (List (α×α))):Prop where
 nd:ns.Nodup
 ro:∀x,x∉ns→r x=[]
 rn:∀x,(r x).Nodup
 ir:∀x,x∉r x
 sy:∀x y,y∈r x→x∈r y
 cf:cs.flatten.Nodup
 cm:∀s,s∈cs.flatten↔s.1∈r s.2
 cy:∀c∈cs,Cyc (st r) c
def vl(r:α→List α)(x:α):Int:=2+(if r x=[] then 2 else 0)-((r x).length:Int)
def tot(ns:List α)(r:α→List α)(cs:wX (α×α)):Int:=(ns.map (vl r)).sum+2*(cs.length:Int)
structure Flat(ns:List α)(r:α→List α)(cs:List (List (α×α))):Prop extends Web ns r cs where
 fl:∀T:List α,(∀t∈T,t∈ns)→T.Pairwise (λx y=>¬WR y)→4*(T.length:Int)≤XI r cs
def Conn.symm{r:α→List α}(sy:∀x y,y∈r x→x∈r y)(h:WR y):Conn r y x:=by
 induction h with
 |refl=>exact .refl
 |step a hz ih=>exact Conn.trans (.step .refl (sy _ _ hz)) ih
end
section
variable{α:Type}[DecidableEq α] {ns:List α}{r r':α→List α}{cs:List (List (α×α))}
def Web.inn(C:JK cs)(h:y∈r x):x∈ns:=Jy λz=>by rw[Dk z]at h;cases h
structure Less(r r':α→List α)(v u:α):Prop where
 tie:u∈r v
 one:r' v=(r v).erase u
 two:r' u=(r u).erase v
 els:∀x,x≠v→x≠u→r' x=r x
section del
variable{v u:α}(C:Web ns r cs)(L:Less r r' v u)
include C L
theorem del_ne:v≠u:=λe=>C.ir u (by have:=L.tie;rwa[e]at this)
theorem zcl(s:α×α):s.1∈r' s.2↔s.1∈r s.2∧s≠(v,u)∧s≠(u,v):=by
 obtain⟨a,b⟩:=s;have fw:=MR L;by_cases hb:b=v
 ·subst hb;show a∈r' b↔a∈r b∧_;rw[L.one,(C.rn b).mem_erase_iff];constructor
  ·rintro⟨h1,h2⟩;exact⟨h2,λe=>fw SI,λe=>h1 S3⟩
  rintro⟨h1,h2,h3⟩;exact⟨λe=>h3 (by rw[e]),h1⟩
 by_cases bv:b=u
 ·subst bv;show a∈r' b↔a∈r b∧_;rw[L.two,(C.rn b).mem_erase_iff];constructor
  ·rintro⟨h1,h2⟩;exact⟨h2,λe=>h1 S3,λe=>hb SI⟩
  rintro⟨h1,h2,h3⟩;exact⟨λe=>h2 (by rw[e]),h1⟩
 show a∈r' b↔a∈r b∧_;rw[L.els b hb bv];exact⟨λh=>⟨h,λe=>bv SI,λe=>hb SI⟩,λh=>h.1⟩
theorem del_st{s:α×α}(hs:s.1∈r' s.2):st r' s=if B9 s=(v,u) then B9 (u,v) else if B9 s=(u,v) then B9 (v,u) else B9 s:=by
 have hm:=(JL s).mp hs;obtain⟨a,b⟩:=s;have fw:=MR L;obtain⟨ha,bB,cc⟩:=hm;by_cases hb:b=v
 ·subst hb;have uM:a≠u:=λe=>cc (by rw[e]);have k:=FZ L.tie ha uM;show(b,F' a)=if(b,Y0 a)=(b,u) then(b,Y0 u) else if(b,Y0 a)=(u,b) then _ else(b,Y0 a)
  rw[L.one,k];by_cases h:Y0 a=u
  ·rw[if_pos h,if_pos (by rw[h])]
  rw[if_neg h,if_neg (λe=>h SI),if_neg (λe=>fw S3)]
 by_cases bv:b=u
 ·subst bv;have uM:a≠v:=λe=>bB (by rw[e]);have k:=FZ IW ha uM;show(b,F' a)=if(b,Y0 a)=(v,b) then _ else if(b,Y0 a)=(b,v) then(b,Y0 v) else(b,Y0 a)
  rw[L.two,k,if_neg (λe=>hb S3)];by_cases h:Y0 a=v
  ·rw[if_pos h,if_pos (by rw[h])]
  rw[if_neg h,if_neg (λe=>h SI)]
 show (b,F' a)=if (b,Y0 a)=(v,u) then _ else if (b,Y0 a)=(u,v) then _ else (b,Y0 a)
 rw[if_neg (λe=>hb S3),if_neg (λe=>bv S3),L.els b hb bv]
theorem del_web(hp:cs.flatten.Perm ((v,u)::(u,v)::cs'.flatten))(hc:∀c∈cs',UJ c):Web ns r' cs':=by
 have fw:=MR L;have nd:=hp.nodup_iff.mp C.cf;rw[Qt,Qt,Qi,not_or]at nd;refine⟨C.nd,λx hx=>?_,λx=>?_,λx h=>?_,λx y h=>?_,nd.2.2,λs=>?_,hc⟩
 ·have hv:x≠v:=λe=>hx (by rw[e];exact C.inn L.tie);have hu:x≠u:=λe=>hx (by rw[e];exact C.inn IW);rw[L.els x hv hu,Dk hx]
 ·by_cases h1:x=v
  ·rw[h1,L.one];exact(C.rn v).erase _
  by_cases h2:x=u
  ·rw[h2,L.two];exact(C.rn u).erase _
  rw[L.els x h1 h2];exact C.rn x
 ·exact C.ir x ((JL (x,x)).mp h).1
 ·obtain⟨h1,h2,h3⟩:=(JL (y,x)).mp h;exact(JL (x,y)).mpr ⟨C.sy x y h1,λe=>h3 (by cases e;rfl),λe=>h2 (by cases e;rfl)⟩
 rw[zcl C L,← C.cm,hp.mem_iff,Qi,Qi];constructor
 ·intro h;exact⟨zo,λe=>nd.1.2 (e▸h),λe=>nd.2.1 (e▸h)⟩
 rintro⟨h|h|h,h2,h3⟩
 ·exact absurd h h2
 ·exact absurd h h3
 exact h
theorem del_tot:XI r' cs'=XI r cs+2+(if r' v=[] then 2 else 0)+(if r' u=[] then 2 else 0)+2*((cs'.length:Int)-(cs.length:Int)):=by
 have fw:=MR L;have hv:=C.inn L.tie;have hu:=C.inn IW;have e1:=zfu (g:=vl r) (g':=λx=>if x=v then KZ v else Dv x) C.nd hv λx _ h=>if_neg h;have e2:=zfu (g:=λx=>if x=v then KZ v else Dv x) (g':=vl r') C.nd hu λx _ h=>by
  show KZ x=if x=v then KZ v else Dv x
  by_cases hx:x=v
  ·rw[if_pos hx,hx]
  rw[if_neg hx];unfold vl;rw[L.els x hx h]
 have a1:(if v=v then KZ v else Dv v)=KZ v:=if_pos rfl;have a2:(if u=v then KZ v else Dv u)=Dv u:=if_neg λe=>fw e.symm;have l1:=Yk L.tie;have l2:=Yk IW;have p1:=Ym L.tie;have p2:=Ym IW;have n1:r v≠[]:=λe=>by have:=L.tie;rw[e]at this;cases this
 have n2:r u≠[]:=λe=>by have:=UK L.tie;rw[e]at this;cases this
 have b1:KZ v=Dv v+1+(if r' v=[] then 2 else 0):=by unfold vl;rw[if_neg n1];rw[←L.one]at l1;rw[l1];lia
 have b2:KZ u=Dv u+1+(if r' u=[] then 2 else 0):=by unfold vl;rw[if_neg n2];rw[←L.two]at l2;rw[l2];lia
 unfold tot;rw[e2,e1];show(_+((if v=v then KZ v else Dv v)-Dv v))+(KZ u-(if u=v then KZ v else Dv u))+_=_;rw[a1,a2,b1,b2];lia
theorem del_conn(h:WR y):Y6 x y∨(Y6 x v∧Y6 u y)∨(Y6 x u∧Y6 v y):=by
 induction h with
 |refl=>exact .inl .refl
 | @step y z a hz ih=>
  by_cases h1:(z,y)=(v,u)
  ·cases h1;rcases ih with h|⟨h,_⟩|⟨h,_⟩
   ·exact .inr (SJ ⟨h,.refl⟩)
   ·exact .inl h
   exact .inr (SJ ⟨h,.refl⟩)
  by_cases h2:(z,y)=(u,v)
  ·cases h2;rcases ih with h|⟨h,_⟩|⟨h,_⟩
   ·exact .inr (Rq ⟨h,.refl⟩)
   ·exact .inr (Rq ⟨h,.refl⟩)
   exact .inl h
  have dq:z∈r' y:=(JL (z,y)).mpr ⟨hz,h1,h2⟩;rcases ih with h|⟨h,k⟩|⟨h,k⟩
  ·exact .inl (.step h dq)
  ·exact .inr (Rq ⟨h,.step k dq⟩)
  exact .inr (SJ ⟨h,.step k dq⟩)
end del
end
section
variable{α:Type}[DecidableEq α]{ns:List α}{r r':α→List α}{cs:List (List (α×α))}
def Web.iso(C:JK cs)(h:p∈r q):(r q).erase p=[]↔B9 (p,q)=(q,p):=by
 constructor
 ·intro e;have l:=Yk h;rw[e]at l;have p1:=Ym h;obtain⟨a,ha⟩:=List.length_eq_one_iff.mp (show(r q).length=1 by simp at l;lia);rw[ha]at h;have:p=a:=Qd.mp h;show(q,nxt (r q) p)=_;rw[ha,this,zjd]
 intro e;have:=nxt_self (C.rn q) h SI;rw[this,List.erase_cons_head]
section del
variable{v u:α}(C:Web ns r cs)(L:Less r r' v u)
include C L
theorem lk_del:∀{t:List (α×α)} {s:α×α},VT s t x→(∀y,y=s∨y∈t→y.1∈r' y.2)→Lk (st r') s t (if x=(v,u) then B9 (u,v) else if x=(u,v) then B9 (v,u) else x):=by
 intro t;induction t with
 |nil=>intro s k h;rw[←show B9 s=x from k];exact Ga yy
 |cons a t ih=>intro s k h;refine⟨?_,ih k.2 λy hy=>h y wF⟩;have ha:=((JL a).mp (h a (SJ Qc))).2;rw[Ga yy,k.1,if_neg ha.1,if_neg ha.2]
theorem rest_cyc(hc:c∈cs)(h1:(v,u)∉c)(h2:(u,v)∉c):UJ c:=by refine zfm (λy hy=>?_) vC;have hn:=zju vC hy;have bf:y.1∈r' y.2:=(JL y).mpr ⟨(Oz y).mp (yz ⟨c,hc,hy⟩),λe=>h1 (e▸hy),λe=>h2 (e▸hy)⟩;rw[Ga bf,if_neg (show B9 y≠(v,u) from λe=>h1 (by rw[←e];exact hn)),if_neg (show B9 y≠(u,v) from λe=>h2 (by rw[←e];exact hn))]
theorem lk_conn(sy:∀x y,y∈r' x→x∈r' y):∀{t:List (α×α)} {s:α×α},VT s t x→(∀y,y=s∨y∈t→y.1∈r' y.2)→Y6 s.1 x.1:=by
 intro t;induction t with
 |nil=>intro s k h;rw[←show B9 s=x from k];exact .step .refl (sy _ _ yy)
 |cons a t ih=>intro s k h;refine Conn.trans (.step .refl (sy _ _ yy)) ?_;have:=ih k.2 λy hy=>h y wF;rwa[show a.1=s.2 by rw[←k.1];rfl]at this
end del
def filter_one{T:List α}{R:α→α→Prop}{P:α→Bool}(h:T.Pairwise λx y=>¬ R x y)(hR:∀ x y,P x=false→P y=false→R x y):T.length≤(T.filter P).length+1:=by
 induction T with
 |nil=>exact Zc _
 | cons a t ih=>
  rw[Kh]at h;by_cases ha:P a=true
  ·rw[Zp ha];have:=ih h.2;rw[Qy,Qy];lia
  rw[Zq ha];have:t.filter P=t:=List.filter_eq_self.mpr λy hy=>by
   cases e:P y with
   |true=>rfl
   |false=>exact absurd (hR a y (HE ha) e) (h.1 y hy)
  rw[this];exact Qf _
def web_less(C:JK cs)(L:X6 u):∃ cs',Web ns r' cs'∧(XI r' cs'=XI r cs∧Y6 u v∨XI r' cs'=XI r cs+4):=by
 have fw:=MR L;have uc:v∈r u:=UK L.tie;have au:((u,v):α×α)≠(v,u):=λe=>fw SI;obtain⟨c,hc,hec⟩:=Zv.mp ((Oz (v,u)).mpr uc);obtain⟨P,Q,ecq⟩:=Yq hec;have k0:VT (v,u) (Q++P) (v,u):=zdc (ecq▸Bz hc);have pc:c.Perm ((v,u)::(Q++P)):=by rw[ecq];exact Xs.trans ((Wn).cons _)
 by_cases hb:(u,v)∈c
 ·have cu:(u,v)∈Q++P:=by
   rcases Qi.mp (pc.mem_iff.mp hb) with z|z
   ·exact absurd z au
   exact z
  obtain⟨A,B,eAB⟩:=Yq cu;rw[eAB]at k0 pc;obtain⟨kA,kB⟩:=zic.mp k0;have qr:c.Perm ((v,u)::(u,v)::(A++B)):=pc.trans (Xs.cons _);let N:List (S1 (α×α)):=(if A=[] then[] else[A])++(if B=[] then[] else[B]);have hN:N.flatten=A++B:=by
   show((if A=[] then[] else[A])++(if B=[] then[] else[B])).flatten=_;rw[Wv];congr 1
   ·by_cases h:A=[]
    ·rw[if_pos h,h];rfl
    rw[if_neg h];simp
   by_cases h:B=[]
   ·rw[if_pos h,h];rfl
   rw[if_neg h];simp
  have hp:cs.flatten.Perm ((v,u)::(u,v)::(N++cs.erase c).flatten):=by rw[Wv,hN];exact (zb8 hc).trans ((qr.append_right _).trans (List.Perm.refl _))
  have nd:=hp.nodup_iff.mp C.cf;have aw:∀y,y∈(N++cs.erase c).flatten→y.1∈r' y.2:=λy hy=>by rw[Qt,Qt,Qi,not_or]at nd;exact(JL y).mpr ⟨(Oz y).mp AE,λe=>nd.1.2 (e▸hy),λe=>nd.2.1 (e▸hy)⟩
  have eU:∀y∈A,y.1∈r' y.2:=λy hy=>aw y (by rw[Wv,hN];exact YG (YG hy));have gF:∀y∈B,y.1∈r' y.2:=λy hy=>aw y (by rw[Wv,hN];exact YG (WI hy));have cA:∀a t,A=a::t→UJ A:=λa t e=>by subst e;have k:=MS kA.2 λy hy=>eU y Tx;rw[if_neg au,if_pos rfl,kA.1]at k;exact⟨a,t,rfl,k⟩
  have cB:∀a t,B=a::t→UJ B:=λa t e=>by subst e;have k:=MS kB.2 λy hy=>gF y Tx;rw[if_pos rfl,kB.1]at k;exact⟨a,t,rfl,k⟩
  have pC:∀d∈N++cs.erase c,UJ d:=λd hd=>by
   rcases Qm.mp hd with z|z
   ·rcases Qm.mp z with y|y
    ·cases A with
     |nil=>rw[if_pos rfl]at y;cases y
     |cons a t=>rw[if_neg yJ]at y;rw[Qd.mp y];exact cA a t rfl
    cases B with
    |nil=>rw[if_pos rfl]at y;cases y
    |cons a t=>rw[if_neg yJ]at y;rw[Qd.mp y];exact cB a t rfl
   rw[Qt,Qt,Qi,not_or]at nd;have hf:∀y∈d,y∈(N++cs.erase c).flatten:=λy hy=>Zv.mpr ⟨d,hd,hy⟩;exact rest_cyc C L (Uv z) (λy=>nd.1.2 yK) (λy=>nd.2.1 yK)
  have W:=del_web C L hp pC;have iA:r' u=[]↔A=[]:=by
   rw[L.two,C.iso uc];constructor
   ·intro e;cases A with
    |nil=>rfl
    |cons a t=>have ha:a=(u,v):=kA.1.symm.trans e;have:=((JL a).mp (eU a Qc)).2.2;exact absurd ha this
   intro e;subst e;exact kA
  have iB:r' v=[]↔B=[]:=by
   rw[L.one,C.iso L.tie];constructor
   ·intro e;cases B with
    |nil=>rfl
    |cons a t=>have ha:a=(v,u):=kB.1.symm.trans e;have:=((JL a).mp (gF a Qc)).2.1;exact absurd ha this
   intro e;subst e;exact kB
  have ht:XI r' (N++cs.erase c)=XI r cs+4:=by
   rw[del_tot C L (cs':=N++cs.erase c)];have lc:=Yk hc;have lp:=Ym hc;have ln:N.length=(if A=[] then 0 else 1)+(if B=[] then 0 else 1):=by
    show((if A=[] then[] else[A])++(if B=[] then[] else[B])).length=_;rw[Za];congr 1
    ·by_cases h:A=[]
     ·rw[if_pos h,if_pos h];rfl
     rw[if_neg h,if_neg h];rfl
    by_cases h:B=[]
    ·rw[if_pos h,if_pos h];rfl
    rw[if_neg h,if_neg h];rfl
   rw[Za,ln,lc];by_cases hA:A=[]
   ·by_cases hB:B=[]
    ·rw[if_pos (iA.mpr hA),if_pos (iB.mpr hB),if_pos hA,if_pos hB];lia
    rw[if_pos (iA.mpr hA),if_neg (λz=>hB (iB.mp z)),if_pos hA,if_neg hB];lia
   by_cases hB:B=[]
   ·rw[if_neg (λz=>hA (iA.mp z)),if_pos (iB.mpr hB),if_neg hA,if_pos hB];lia
   rw[if_neg (λz=>hA (iA.mp z)),if_neg (λz=>hB (iB.mp z)),if_neg hA,if_neg hB];lia
  exact⟨N++cs.erase c,W,SJ ht⟩
 obtain⟨c2,lm,pj⟩:=Zv.mp ((Oz (u,v)).mpr L.tie);have cP:c2≠c:=λe=>hb (e▸pj);have ll:c2∈cs.erase c:=(Kr cP).mpr lm;obtain⟨P2,Q2,qc⟩:=Yq pj;have k2:VT (u,v) (Q2++P2) (u,v):=zdc (qc▸C.cy c2 lm);have qr:c2.Perm ((u,v)::(Q2++P2)):=by rw[qc];exact Xs.trans ((Wn).cons _)
 generalize hA:Q++P=A at k0 pc;generalize hB:Q2++P2=B at k2 qr;have hp:cs.flatten.Perm ((v,u)::(u,v)::((A++B)::(cs.erase c).erase c2).flatten):=by rw[Wi];refine(zb8 hc).trans ((pc.append_right _).trans ?_);rw[Uc];refine List.Perm.cons _ (((zb8 ll).append_left A).trans (((qr.append_right _).append_left A).trans ?_));rw[Uc];refine Xs.trans ?_;rw[Qw]
 have nd:=hp.nodup_iff.mp C.cf;have aw:∀y,y∈((A++B)::(cs.erase c).erase c2).flatten→y.1∈r' y.2:=λy hy=>by rw[Qt,Qt,Qi,not_or]at nd;exact(JL y).mpr ⟨(Oz y).mp AE,λe=>nd.1.2 (e▸hy),λe=>nd.2.1 (e▸hy)⟩
 have eU:∀y∈A,y.1∈r' y.2:=λy hy=>aw y (by rw[Wi];exact YG (YG hy));have gF:∀y∈B,y.1∈r' y.2:=λy hy=>aw y (by rw[Wi];exact YG (WI hy));have nA:∃a t,A=a::t:=by
  cases A with
  |nil=>have:=congrArg Prod.fst (show B9 (v,u)=(v,u) from k0);exact absurd this.symm fw
  |cons a t=>exact⟨a,t,rfl⟩
 have nB:∃a t,B=a::t:=by
  cases B with
  |nil=>have:=congrArg Prod.fst (show B9 (u,v)=(u,v) from k2);exact absurd this fw
  |cons a t=>exact⟨a,t,rfl⟩
 obtain⟨a,tA,rfl⟩:=nA;obtain⟨b,tB,rfl⟩:=nB;have pC:∀d∈((a::tA)++(b::tB))::(cs.erase c).erase c2,UJ d:=λd hd=>by
  rcases Qi.mp hd with z|z
  ·have k:=MS k0.2 λy hy=>eU y Tx;have k':=MS k2.2 λy hy=>gF y Tx;rw[if_pos rfl,k2.1]at k;rw[if_neg au,if_pos rfl,k0.1]at k';rw[z];exact⟨a,tA++b::tB,rfl,zic.mpr ⟨k,k'⟩⟩
  rw[Qt,Qt,Qi,not_or]at nd;have hf:∀y∈d,y∈(((a::tA)++(b::tB))::(cs.erase c).erase c2).flatten:=λy hy=>Zv.mpr ⟨d,hd,hy⟩;exact rest_cyc C L (Uv (Uv z)) (λy=>nd.1.2 yK) (λy=>nd.2.1 yK)
 have W:=del_web C L hp pC;have nu:r' u≠[]:=λe=>by rw[L.two,C.iso uc]at e;have ha:a=(u,v):=k0.1.symm.trans e;exact((JL a).mp (eU a Qc)).2.2 ha
 have nv:r' v≠[]:=λe=>by rw[L.one,C.iso L.tie]at e;have ha:b=(v,u):=k2.1.symm.trans e;exact((JL b).mp (gF b Qc)).2.1 ha
 have gR:Y6 u v:=by have:=lk_conn C L W.sy k0.2 λy hy=>eU y Tx;rwa[←k0.1]at this
 refine⟨_,W,Rq ⟨?_,gR⟩⟩;rw[del_tot C L,if_neg nu,if_neg nv];have lc:=Yk hc;have lc2:=Yk ll;have lp:=Ym hc;have lp2:=Ym ll;rw[Qy,lc2,lc];lia
def zij{v u:α}(C:JK cs)(L:X6 u)(sy:∀x y,y∈r' x→x∈r' y){T:List α}(lX:T.Pairwise λx y=>¬Y6 x y):∃T':List α,(∀t∈T',t∈T)∧T'.Pairwise (λx y=>¬WR y)∧T.length≤T'.length+1:=by
 let P:α→Bool:=λx=>@decide (¬Y6 x v) Sz;have hP:∀x,P x=false→Y6 x v:=λx e=>by have:=@of_decide_eq_false _ Sz e;exact Classical.not_not.mp this
 refine⟨T.filter P,λt ht=>(O1 ht).1,?_,filter_one (P:=P) lX λx y hx hy=>Conn.trans (hP x hx) (Dw (hP y hy))⟩;refine Xm ?_ (lX.filter P);intro x y hx hy fm hc;have px:¬Y6 x v:=@of_decide_eq_true _ Sz (O1 hx).2;have py:¬Y6 y v:=@of_decide_eq_true _ Sz (O1 hy).2;rcases del_conn C L hc with h|⟨h,_⟩|⟨_,h⟩
 ·exact fm h
 ·exact px h
 exact py (Dw h)
def back_less(C:JK cs)(L:X6 u)(sy:∀x y,y∈r' x→x∈r' y)(h:Y6 u v)(hc:WR y):Y6 x y:=by
 rcases del_conn C L hc with z|⟨z1,z2⟩|⟨z1,z2⟩
 ·exact z
 ·exact(z1.trans (Dw h)).trans z2
 exact(z1.trans h).trans z2
def flat_less{v u:α}(F:Gx r cs)(L:X6 u):∃cs',Gx r' cs':=by
 obtain⟨cs',W,⟨ht,gR⟩|ht⟩:=web_less F.toWeb L
 ·refine⟨cs',W,λT hT lX=>?_⟩;rw[ht];exact F.fl T hT (lX.imp λ{x y} h hc=>h (back_less F.toWeb L W.sy gR hc))
 refine⟨cs',W,λT hT lX=>?_⟩;obtain⟨T',h1,h2,h3⟩:=zij F.toWeb L W.sy lX;have:=F.fl T' (λt ht=>hT t (h1 t ht)) h2;rw[ht];lia
def conn_iso(hr:r x=[])(h:WR y):y=x:=by
 induction h with
 |refl=>rfl
 |step _ hz ih=>rw[ih,hr]at hz;cases hz
def sum_one{L:List α}(nd:L.Nodup){a:α}(h:a∈L)(k:Int):(L.map λl=>if a=l then k else 0).sum=k:=by have:=zfu (g:=λ_=>(0:Int)) (g':=λl=>if a=l then k else 0) nd h λx _ hx=>if_neg λe=>hx e.symm;rw[this,zed λ_ _=>rfl,if_pos rfl];lia
def zgy{β:Type}(f g:β→Int):∀l:List β,(l.map λx=>f x+g x).sum=(EF f).sum+(EF g).sum:=by
 intro l;induction l with
 |nil=>rfl
 |cons a t ih=>rw[Qn,Qn,Qn,Zn,Zn,Zn,ih];lia
def sum_exch{β:Type}{L:List α}(nd:L.Nodup)(f:β→α)(g:β→Int):∀{xs:List β},(∀x∈xs,f x∈L)→(L.map λl=>(xs.map λx=>if f x=l then g x else 0).sum).sum=(IC g).sum:=by
 intro xs;induction xs with
 |nil=>intro _;exact zed λ_ _=>rfl
 |cons a t ih=>intro h;rw[Qn,Zn,←ih λx hx=>h x Co,←sum_one nd (h a Qc) (g a),←zgy];refine zcr λl _=>?_;rw[Qn,Zn]
def labels(a9:α→α):∀ ns:List α,∃ L:List α,L.Nodup∧(∀ x∈ns,a9 x∈L)∧∀ l∈L,∃ x∈ns,a9 x=l:=by
 intro ns;induction ns with
 |nil=>exact⟨[],Zk,(by intro x h;cases h),(by intro x h;cases h)⟩
 | cons a t ih=>
  obtain⟨L,h1,h2,h3⟩:=ih;by_cases h:a9 a∈L
  ·refine⟨L,h1,λx hx=>?_,λl hl=>?_⟩
   ·rcases Qi.mp hx with z|z
    ·rw[z];exact h
    exact h2 x z
   obtain⟨x,hx,e⟩:=h3 l hl;exact⟨x,Co,e⟩
  refine⟨a9 a::L,C7 ⟨h,h1⟩,λx hx=>?_,λl hl=>?_⟩
  ·rcases Qi.mp hx with z|z
   ·rw[z];exact Qc
   exact QR (h2 x z)
  rcases Qi.mp hl with z|z
  ·exact⟨a,Qc,z.symm⟩
  obtain⟨x,hx,e⟩:=h3 l z;exact⟨x,Co,e⟩
def cert_flat{a9:α→α}(C:QN a9):Gx r cs:=by
 refine⟨⟨C.nd,C.ro,C.rn,C.ir,C.sy,C.cf,C.cm,C.cy⟩,λT hT hp=>?_⟩;obtain⟨L,h1,h2,h3⟩:=labels a9 ns;have e1:(L.map λl=>WZ l).sum=(ns.map (vl r)).sum:=DR h2;have e2:(L.map λl=>WS l).sum=2*(cs.length:Int):=by
  have key:∀D:List (S1 (α×α)),(∀c∈D,c∈cs)→(L.map λl=>Gy l).sum=2*(D.length:Int):=by
   intro D;induction D with
   |nil=>intro _;exact zed λ_ _=>rfl
   | cons c D ih=>
    intro h;have hc:=h c Qc;obtain⟨s,t,rfl,_⟩:=Bz hc;have ha:a9 s.1∈L:=h2 _ (C1 (Xy Qc));have hs:∀l∈L,ct ((s::t)::D) a9 l=(if a9 s.1=l then 2 else 0)+Gy l:=λl _=>by
     rw[zd8,zeb (λu hu=>C.one_lab hc Qc hu) yJ];congr 1;by_cases e:a9 s.1=l
     ·rw[if_pos e,if_pos (RE e)]
     rw[if_neg e,if_neg (λz=>e (Tn z))]
    rw[zcr hs,zgy,sum_one h1 ha,ih λd hd=>h d (QR hd),Qy];lia
  exact key cs λ_ h=>h
 have e3:(L.map λl=>WZ l+WS l).sum=4*(L.length:Int):=by
  have:∀M:List α,(∀l∈M,l∈L)→(M.map λl=>WZ l+WS l).sum=4*(M.length:Int):=by
   intro M;induction M with
   |nil=>intro _;rfl
   |cons a t ih=>intro h;obtain⟨x,hx,e⟩:=h3 a (h a Qc);rw[Qn,Zn,ih λl hl=>h l (QR hl),←e,C.eu x hx,Qy];lia
  exact this L λ_ h=>h
 rw[zgy,e1,e2]at e3;have nd:(T.map a9).Nodup:=Ja.mpr (Xm (λ{x y} hx hy h e=>h (C.co x (hT x hx) y (hT y hy) e)) hp);have:=nd.length_le_of_subset (l₂:=L) λl hl=>by obtain⟨x,hx,rfl⟩:=Qe.mp hl;exact h2 x (hT x hx)
 rw[Qa]at this;unfold tot;lia
end
section
variable{α:Type}[DecidableEq α]{ns:List α}{r r':α→List α}{cs:List (List (α×α))}{a9:α→α}
def cutR(r:α→List α)(v u:α):α→List α:=λx=>if x=v then(r v).erase u else if x=u then(r u).erase v else r x
def cut_less(C:JK cs){v u:α}(h:u∈r v):Less r (cutR r v u) v u:=
 have fw:v≠u:=λe=>C.ir u (by rw[e]at h;exact h)
 ⟨h,C2,(So (Zm fw)).trans C2,λx h1 h2=>(So h1).trans (So h2)⟩
def sum_lt{f g:α→Nat}:∀ {l:List α},(∀ x∈l,f x≤g x)→(∃ a∈l,f a < g a)→(EF f).sum < (EF g).sum:=by
 intro l;induction l with
 |nil=>rintro _ ⟨a,h,_⟩;cases h
 | cons b t ih=>
  rintro h ⟨a,ha,hl⟩;rw[Qn,Qn,Zn,Zn];have h1:=h b Qc;have h2:(t.map f).sum≤(t.map g).sum:=by
   clear ih hl ha;induction t with
   |nil=>exact Qf _
   |cons c t ih2=>rw[Qn,Qn,Zn,Zn];have:=h c HA;have:=ih2 (λx hx=>h x (by rcases Qi.mp hx with z|z<;>simp[z]));lia
  rcases Qi.mp ha with z|z
  ·subst z;lia
  have:=ih (λx hx=>h x Co) ⟨a,z,hl⟩;lia
def genus:∀ (n:Nat) {r:α→List α} {cs:List (S1 (α×α))},JK cs→(ns.map λx=>(r x).length).sum=n→∃ T:List α,(∀ t∈T,t∈ns)∧T.Pairwise (λx y=>¬ Conn r x y)∧XI r cs≤4*(T.length:Int):=by
 intro n;induction n using Nat.strongRecOn with
 | ind n ih=>
  intro r cs C hn;by_cases h:∃v u,u∈r v
  ·obtain⟨v,u,h⟩:=h;have L:=cut_less C h;obtain⟨cs',W,hh⟩:=web_less C L;have gu:∀x∈ns,(cutR r v u x).length≤(r x).length:=λx _=>by
    unfold cutR;by_cases e1:x=v
    ·rw[if_pos e1,e1];exact List.length_erase_le ..
    rw[So e1];by_cases e2:x=u
    ·rw[if_pos e2,e2];exact List.length_erase_le ..
    rw[if_neg e2];exact Qf _
   have ad:(ns.map λx=>(cutR r v u x).length).sum<n:=by rw[←hn];refine sum_lt gu ⟨v,OA h,?_⟩;rw[L.one,Yk h];have:=Ym h;lia
   obtain⟨T,h1,h2,h3⟩:=ih _ ad W rfl;rcases hh with⟨ht,gR⟩|ht
   ·exact⟨T,h1,h2.imp λ{x y} h hc=>h (back_less C L W.sy gR hc),by rw[←ht];exact h3⟩
   obtain⟨T',g1,g2,g3⟩:=zij C L W.sy h2;exact⟨T',λt ht=>h1 t (g1 t ht),g2,HB⟩
  have hr:∀ x,r x=[]:=λx=>by
   cases e:r x with
   |nil=>rfl
   |cons a t=>exact absurd ⟨x,a,HP e Qc⟩ h
  have lh:cs=[]:=by
   cases cs with
   |nil=>rfl
   |cons c t=>obtain⟨s,t',rfl,_⟩:=Bz Qc;have:=(Oz s).mp (by rw[Wi];exact YG Qc);rw[hr]at this;cases this
  refine⟨ns,λt h=>h,C.nd.imp λ{x y} h hc=>h (conn_iso (hr x) hc).symm,?_⟩;have:∀l:List α,(EF (vl r)).sum=4*(l.length:Int):=by
   intro l;induction l with
   |nil=>rfl
   |cons a t ih2=>rw[Qn,Zn,ih2,Qy];unfold vl;rw[if_pos (hr a),hr a,Uh];lia
  unfold tot;rw[lh,this,Uh];lia
def Web.inc(C:JK cs){c:List (α×α)}(hc:c∈cs){s:α×α}(hs:s∈c):s.1∈r s.2:=(Oz s).mp (yz ⟨c,hc,hs⟩)
def Web.one_lab(C:JK cs)(la:∀ x y,y∈r x→a9 y=a9 x){c:List (α×α)}(hc:c∈cs){s u:α×α}(hs:s∈c)(hu:u∈c):a9 u.1=a9 s.1:=by
 obtain⟨A,B,rfl⟩:=Yq hs;have k:=zdc (C.cy _ hc);have hl:∀y,y=s∨y∈B++A→a9 (B9 y).1=a9 y.1:=λy hy=>by
  have bf:y∈A++s::B:=by
   rcases hy with z|z
   ·rw[z];exact hs
   rcases Qm.mp z with q|q
   ·exact WI (QR q)
   exact YG q
  exact(la _ _ (Xy bf)).symm
 rcases Qm.mp hu with z|z
 ·exact lk_lab (lb:=λy:α×α=>a9 y.1) hl k u (WI z)
 rcases Qi.mp z with q|q
 ·rw[q]
 exact lk_lab (lb:=λy:α×α=>a9 y.1) hl k u (YG q)
def sum_filter(p:β→Bool)(f:β→Int):∀l:List β,((l.filter p).map f).sum=(l.map λx=>if p x=true then f x else 0).sum:=by
 intro l;induction l with
 |nil=>rfl
 |cons a t ih=>
  rw[Qn,Zn];by_cases h:p a=true
  ·rw[Zp h,if_pos h,Qn,Zn,ih]
  rw[Zq h,if_neg h,ih];lia
theorem zjr(p:List β→Bool):∀cs:List (List β),(cs.filter p).flatten.Sublist cs.flatten
 |[]=>List.Sublist.refl _
 |c::t=>by
  by_cases h:p c=true
  ·rw[Zp h,Wi,Wi];exact List.Sublist.append (List.Sublist.refl _) (zjr p t)
  rw[Zq h,Wi];exact(zjr p t).trans (List.sublist_append_right _ _)
def sum_two(p:β→Bool)(l:List β):(l.map λc=>if p c=true then(2:Int) else 0).sum=2*((l.filter p).length:Int):=by
 rw[←sum_filter p λ_=>2];induction l.filter p with
 |nil=>rfl
 |cons a t ih=>rw[Qn,Zn,ih,Qy];lia
def piece_le(C:JK cs)(la:∀ x y,y∈r x→a9 y=a9 x)(co:∀ x∈ns,∀ y∈ns,a9 x=a9 y→WR y)(t:α):WZ t+WS t≤4:=by
 let rt:α→List α:=λx=>if a9 x=t then r x else[]
 have r1:∀{x},a9 x=t→rt x=r x:=λh=>if_pos h;have r0:∀{x},¬a9 x=t→rt x=[]:=λh=>if_neg h;have rm:∀{x y},y∈rt x↔y∈r x∧a9 x=t:=λ{x y}=>by
  by_cases h:a9 x=t
  ·rw[r1 h];exact⟨λz=>⟨z,h⟩,λz=>z.1⟩
  rw[r0 h];exact⟨λz=>(by cases z),λz=>absurd z.2 h⟩
 have f9:∀{c},c∈cs→(c.any λs=>decide (a9 s.1=t))=true→∀s∈c,a9 s.2=t:=λ{c} hc h s hs=>by obtain⟨q,hq,e⟩:=Yi.mp h;rw[←la _ _ (Xy hs),C.one_lab la hc hq hs];exact of_decide_eq_true e
 have W:Web (ns.filter λx=>decide (a9 x=t)) rt (cs.filter λc=>c.any λs=>decide (a9 s.1=t)):=by
  refine⟨C.nd.filter _,λx hx=>?_,λx=>?_,λx h=>C.ir x (rm.mp h).1,λx y h=>?_,Wc (zjr _ cs) C.cf,λs=>?_,λc hc=>?_⟩
  ·by_cases h:a9 x=t
   ·rw[r1 h];exact C.ro x λz=>hx (Pj ⟨z,RE h⟩)
   exact r0 h
  ·by_cases h:a9 x=t
   ·rw[r1 h];exact C.rn x
   rw[r0 h];exact Zk
  ·obtain⟨h1,h2⟩:=rm.mp h;exact rm.mpr ⟨UK h1,(la _ _ h1).trans h2⟩
  ·rw[rm];constructor
   ·intro h;obtain⟨c,hc,hs⟩:=Zv.mp h;obtain⟨h1,h2⟩:=Zf.mp hc;exact⟨C.inc h1 hs,f9 h1 h2 s hs⟩
   rintro⟨h1,h2⟩;obtain⟨c,hc,hs⟩:=Zv.mp ((Oz s).mpr h1);exact Zv.mpr ⟨c,Pj ⟨hc,Yi.mpr ⟨s,hs,RE ((la _ _ h1).trans h2)⟩⟩,hs⟩
  obtain⟨h1,h2⟩:=Zf.mp hc;refine zfm (λy hy=>?_) (Bz h1);show(y.2,nxt (rt y.2) y.1)=(y.2,nxt (r y.2) y.1);rw[r1 (f9 h1 h2 y hy)]
 have e1:((ns.filter λx=>decide (a9 x=t)).map (vl rt)).sum=WZ t:=by
  rw[sum_filter];refine zcr λx _=>?_;by_cases h:a9 x=t
  ·rw[Sx (RE h),Sx h];unfold vl;rw[r1 h]
  rw[if_neg (HE h),if_neg h]
 have e2:=sum_two (λc:List (α×α)=>c.any λs=>decide (a9 s.1=t)) cs;obtain⟨T,h1,h2,h3⟩:=genus _ W rfl;unfold tot at h3;rw[e1,←e2]at h3;have hl:T.length≤1:=by
  match T,h1,h2 with
  |[],_,_=>exact Zc _
  |[_],_,_=>exact Qf _
  | a::b::T',h1,h2=>
   obtain⟨a1,a2⟩:=Zf.mp (h1 a Qc);obtain⟨b1,b2⟩:=Zf.mp (h1 b HA);have a2:=of_decide_eq_true a2;have b2:=of_decide_eq_true b2;have key:∀{y},Conn r a y→Conn rt a y∧a9 y=t:=λ{y} h=>by
    induction h with
    |refl=>exact⟨.refl,a2⟩
    |step _ hz ih=>exact⟨.step ih.1 (rm.mpr ⟨hz,ih.2⟩),(la _ _ hz).trans ih.2⟩
   exact absurd (key (co a a1 b b1 (a2.trans b2.symm))).1 ((Kh.mp h2).1 b Qc)
 have:WZ t+WS t≤4*(T.length:Int):=h3;lia
def tot_sum(C:JK cs)(la:∀ x y,y∈r x→a9 y=a9 x){L:List α}(h1:L.Nodup)(h2:∀ x∈ns,a9 x∈L):(L.map λl=>WZ l+WS l).sum=XI r cs:=by
 have e1:(L.map λl=>WZ l).sum=(ns.map (vl r)).sum:=DR h2;have e2:(L.map λl=>WS l).sum=2*(cs.length:Int):=by
  have key:∀D:List (S1 (α×α)),(∀c∈D,c∈cs)→(L.map λl=>Gy l).sum=2*(D.length:Int):=by
   intro D;induction D with
   |nil=>intro _;exact zed λ_ _=>rfl
   | cons c D ih=>
    intro h;have hc:=h c Qc;obtain⟨s,t,rfl,_⟩:=Bz hc;have ha:a9 s.1∈L:=h2 _ (OA (UK (Xy Qc)));have hs:∀l∈L,ct ((s::t)::D) a9 l=(if a9 s.1=l then 2 else 0)+Gy l:=λl _=>by
     rw[zd8,zeb (λu hu=>C.one_lab la hc Qc hu) yJ];congr 1;by_cases e:a9 s.1=l
     ·rw[if_pos e,if_pos (RE e)]
     rw[if_neg e,if_neg (λz=>e (Tn z))]
    rw[zcr hs,zgy,sum_one h1 ha,ih λd hd=>h d (QR hd),Qy];lia
  exact key cs λ_ h=>h
 rw[zgy,e1,e2];rfl
def all_four{g:α→Int}:∀ {L:List α},(∀ l∈L,g l≤4)→4*(L.length:Int)≤(L.map g).sum→∀ l∈L,g l=4:=by
 intro L;induction L with
 |nil=>intro _ _ l hl;cases hl
 | cons a t ih=>
  intro h hs l hl;rw[Qn,Zn,Qy]at hs;have ha:=h a Qc;have ht:(t.map g).sum≤4*(t.length:Int):=by
   clear ih hs hl ha;induction t with
   |nil=>exact Int.le_refl _
   |cons b t ih=>rw[Qn,Zn,Qy];have:=h b HA;have:=ih λx hx=>h x (by rcases Qi.mp hx with z|z<;>simp[z]);lia
  rcases Qi.mp hl with z|z
  ·rw[z];lia
  exact ih (λx hx=>h x Co) HB l z
def flat_cert(F:Gx r cs):∃a9,QN a9:=by
 have C:=F.toWeb;let f:α→Option α:=λx=>ns.find? λy=>@decide (WR y) Sz;have hf:∀{x},x∈ns→∃y,f x=some y∧y∈ns∧WR y:=λ{x} hx=>by
  cases e:f x with
  |none=>exact absurd (@decide_eq_true _ Sz (Conn.refl (r:=r) (x:=x))) (List.find?_eq_none.mp e x hx)
  |some y=>have h:=List.find?_some (p:=λy=>@decide (WR y) Sz) e;exact⟨y,rfl,List.mem_of_find?_eq_some e,@of_decide_eq_true _ Sz h⟩
 have hs:∀{x y},WR y→f x=f y:=λ{x y} h=>by show ns.find? _=ns.find? _;congr 1;funext z;congr 1;exact propext ⟨λq=>(h.symm C.sy).trans q,λq=>h.trans q⟩
 let a9:α→α:=λx=>(f x).getD x;have hl:∀{x},x∈ns→a9 x∈ns∧WR (a9 x):=λ{x} hx=>by obtain⟨y,e,h1,h2⟩:=hf hx;show(f x).getD x∈ns∧WR ((f x).getD x);rw[e];exact⟨h1,h2⟩
 have he:∀{x y},x∈ns→y∈ns→WR y→a9 x=a9 y:=λ{x y} hx hy h=>by obtain⟨z,e,_⟩:=hf hy;show(f x).getD x=(f y).getD y;rw[hs h,e];rfl
 have la:∀x y,y∈r x→a9 y=a9 x:=λx y h=>(he (OA h) (OA (UK h)) (.step .refl h)).symm;have co:∀x∈ns,∀y∈ns,a9 x=a9 y→WR y:=λx hx y hy e=>by have h1:=(hl hx).2;rw[e]at h1;exact h1.trans ((hl hy).2.symm C.sy)
 obtain⟨L,h1,h2,h3⟩:=labels a9 ns;have hL:∀l∈L,l∈ns∧a9 l=l:=λl hl'=>by obtain⟨x,hx,e⟩:=h3 l hl';obtain⟨a,b⟩:=hl hx;refine⟨e▸a,?_⟩;have:=he hx a b;rw[e]at this;exact this.symm
 have fl:=F.fl L (λl h=>(hL l h).1) (Xm (λ{x y} hx hy fm hc=>fm (by have:=he (hL x hx).1 (hL y hy).1 hc;rwa[(hL x hx).2,(hL y hy).2]at this)) h1);rw[←tot_sum C la h1 h2]at fl;have four:=all_four (λl _=>piece_le C la co l) fl;exact⟨a9,C.nd,C.ro,C.rn,C.ir,C.sy,C.cf,C.cm,C.cy,λx hx=>(hl hx).1,la,co,λx hx=>four _ (h2 x hx)⟩
def cert_less(C:QN a9)(L:X6 u):∃cs' ah,Cert ns r' cs' ah:=by obtain⟨cs',F⟩:=flat_less (cert_flat C) L;obtain⟨ah,C'⟩:=flat_cert F;exact⟨cs',ah,C'⟩
end
section
variable{α:Type}[DecidableEq α]
def good_less{rs r1:Rs α}{u v:α}(G:Good rs)(h:u∈Bw v)(hn:r1.map (·.1)=rs.map (·.1))(hv:row r1 v=(Bw v).erase u)(hu:row r1 u=(Bw u).erase v)(ho:∀y,y≠v→y≠u→row r1 y=Bw y):Good r1:=by obtain⟨cs,a9,C⟩:=G;obtain⟨cs',ah,C'⟩:=cert_less C (v:=v) (u:=u) (r':=row r1) ⟨h,hv,hu,ho⟩;exact⟨cs',ah,HP hn C'⟩
end
end Wb
namespace K21
open PySem L2 Wb
abbrev sUntied:Stmt:=top 60
def ndUb:(["_law_place",qO]:List Str).Nodup:=by decide+kernel
def ndUc:(["_law_place", "_law_one"]:List Str).Nodup:=by decide+kernel
def zif{l:Ng}{x:Str}(nd:l.Nodup):(l.map V.str).filter (λv=>!decide (v=V.str x))=(l.erase x).map V.str:=by
 rw[nd.erase_eq_filter,Kd];congr 1;refine Xi λa _=>?_;show(!decide (V.str a=V.str x))=(a != x);by_cases h:a=x
 ·rw[h,decide_eq_true rfl,bne_self_eq_false];rfl
 rw[decide_eq_false (λz=>h (by injection z))];exact(bne_iff_ne.mpr h).symm
section
variable{P:Nk}{w:Nl}{K:Na}{mg:Nd}{base:Nn}
def zdj:zam [qR,qP, "_law_some", "_law_one",qO] [qR,qP] (zah sUntied):=fsk
def ok_untied(F:QD "_law_untied" "_law_untied" sUntied f fd)(GT:ZI "_law_take" [qP,qM] 1 zg0)(ae:mg "len" = none):ZB 2 f fd [qR,qP] zg1:=by
 refine F.okL zdj (λcdv A outer s0 H0 vs Q E hr h=>?_);obtain⟨p,d,b,m,es,rfl,hp,D0,kq⟩:=h;have R:=D0.ra;have aS:=D0.few;have hu:=zb7 hr;have e9:=Xh hu;have aj:BY _:=hr.mono HH;have ar:=sizeLine_eq;refine⟨_,zad (zi6 (ps_lc (i:=2) (M:=["_law_place",qR]) (ix:=[none,yX]) zdj.nd rfl rfl (mkB zdj) rfl OB (λC a5 ex s H=>YX ndCr)
    (λC a5 ex s H=>zcp (zap (zh6 (K:=K) rfl e9) Th Tq Sw)) Es rfl))
  (zaf (zbg (VA Ss Tq Sw)
   (zad (zfd (i:=3) zdj.nd rfl S8 (Ej Ss SR))
   (zad (zfd (i:=4) zdj.nd rfl S8 LJ)
   (zad (BB RQ Sn (zdu (M:=["_law_place",qO]) (ix:=[none,HW 4]) (mkB zdj) rfl (EU (QT Sn)) (λC a5 ex s H=>YX ndUb)
     (λC a5 ex s H=>zcp (XB RQ Rz Sw)) Es) rfl)
   (zaf (BB RQ Sy (zdu (M:=["_law_place", "_law_one"]) (ix:=[none,HW 3]) (mkB zdj) rfl (EU (QT Sy)) (λC a5 ex s H=>YX ndUc)
     (λC a5 ex s H=>zcp (XB RQ Rz Sw)) Es) rfl)))))
   zao)),?_⟩
 have nfz:∀o' u',H0 d≠some Tl:=λo' u' z=>by rw[R.dc]at z;cases z
 refine zjj (λ σ' H2=>Ex2 λ(D:Nb) (G:Ng)=>Aj5 (σ'=[Lb,zK,HC D,none,none]) (H2 D=some CF) (∀y,y∈G→∃e∈es,e.1=y∧e.2.1≠[]) (G.length≤16) (Keep [] H0 H2)) (λD' ci=>some_ok R aS nfz λD G H' a b c k=>ci _ _ ⟨D,G,rfl,a,b,c,k⟩) ?_;rintro σ' H2 ⟨D,G,rfl,dj,hG,my,k2⟩;dsimp only;have D2:=D0.k0 k2;have cr:=hp.keep k2 HA;have none':∀(b1 m1:Int) (H1:Hp),Pot H1 p b1 m1→DrE H1 d es→Keep [p] H0 H1→Q .non H1:=λb1 m1 H1 fB D1 k1=>kq b1 m1 es H1 fB D1 rfl (k1.sub HA);refine⟨vG,Cm,λq hq=>?_⟩;have nDq:D≠q:=zac dj hq;refine⟨D,q,vG,rfl,HL (by rw[zag nDq];exact dj),Ls,vG,?_⟩;have k3:Keep [] H2 (QI q RM):=Keep.new hq;have cx:=(zag (o:=.lst []) nDq).trans dj;generalize QI q RM=H3 at k3 cx;have D3:=D2.k0 k3;have cG:=cr.keep k3 HA;have fV:=k2.trans k3;rw[if_pos rfl];cases G with
 |nil=>exact Z2 OC
 | cons g0 gt=>
  refine WX ?_;generalize uU:g0::gt=G at cx hG my;have hGp:0<G.length:=by rw[←uU];simp
  have aN:(G.map V.str).length=G.length:=Qa ..;refine⟨vG,vG,vG,D,vG,Sr cx,p,b,m,vG,cG,IO,IO,λj4 b4 m4 H4 lB pY bK jO=>?_⟩;obtain⟨j4,rfl⟩:=Zx lB;rw[aN]at pY;have oN:j4<G.length:=by lia
  have k4:=zbu jO;have mz:=k4 _ _ cx (by simpa using zg6 cG cx);have D4:=D3.pot cG k4;have fU:Keep [p] H0 H4:=(fV.sub HA).trans k4;refine⟨D,_,_,vG,rfl,HL mz,za0 (by rw[Qk,Qb oN];rfl),?_⟩;obtain⟨e0,cN,v9,kT⟩:=hG G[j4] (Qq oN);rw[←v9];have g4:DQ IU:=zcb D4.ra.nd cN▸DGet.k (k:=Sum.inr e0.1) D4.ra.dc;have gc:=D4.ra.ro e0 cN;have tL:=D4.row e0 cN;have kC:0<e0.2.1.length:=Jf.mpr kT;have cJ:(e0.2.1.map V.str).length=e0.2.1.length:=Qa ..;refine⟨vG,vG,d,vG,g4,vG,vG,vG,d,vG,g4,e0.2.2,vG,Sr gc,p,b4,m4,vG,bK,Rc cJ,Rc cJ,λj5 b5 m5 H5 pX pW aY jb=>?_⟩;obtain⟨j5,rfl⟩:=Zx pX;rw[cJ]at pW;have oM:j5<e0.2.1.length:=by lia
  have k5:=zbu jb;have D5:=D4.pot bK k5;have gb:=D5.ra.ro e0 cN;have hV:=fU.trans k5;refine⟨e0.2.2,_,_,vG,rfl,HL gb,za0 (by rw[Qk,Qb oM];rfl),?_⟩;obtain⟨cs,a9,C⟩:=D5.cert;have i6:e0.2.1[j5]∈e0.2.1:=Qq oM;have o6:e0.2.1[j5]∈ZJ e0.1:=by rw[JJ cN];exact i6
  generalize e0.2.1[j5]=ot at i6 o6;obtain⟨e1,bu,q1⟩:=Qe.mp (C1 o6);have dk:e1.1=ot:=q1;subst dk;have cY:∀e∈es,e.2.1.Nodup:=λe he=>by have:=C.rn e.1;rw[JJ he]at this;exact this
  have n01:e0.1≠e1.1:=λz=>by have:=C.ir e0.1;rw[JJ cN]at this;exact this (z▸i6)
  have ndp:p≠d:=Zm (pot_nd aY D5.ra.dc);have g5:DGet H5 d (.str e0.1) IU:=zcb D5.ra.nd cN▸DGet.k (k:=Sum.inr e0.1) D5.ra.dc;refine⟨vG,vG,d,vG,g5,e0.2.2,rfl,⟨_,HL gb⟩,zf2 (xs:=e0.2.1.map V.str) (λ τ=>∃x0,τ=[x0,HW Tv]) (λv=>!decide (v=V.str e1.1)) (HL gb) (Rc cJ) ⟨none,rfl⟩ ?_ (λl6 eQ=>?_)⟩
  ·rintro x hx τ ⟨x0,rfl⟩ kk1 kk0 iR oH;obtain⟨a,ha,rfl⟩:=Qe.mp hx;refine⟨vG,vG,rfl,vG,?_⟩;show if(!decide (V.str a=V.str e1.1))=true then _ else _
   cases hb:(!decide (V.str a=V.str e1.1)) with
   |true=>exact WX ⟨_,rfl,iR hb _ ⟨_,rfl⟩⟩
   |false=>exact Z2 (oH hb _ ⟨_,rfl⟩)
  rw[zif (cY e0 cN)];have k6:Keep [] H5 (QZ l6 (HR ((e0.2.1.erase e1.1).map V.str))):=Keep.new eQ;have g6:(QZ l6 (HR ((e0.2.1.erase e1.1).map V.str))) l6=some (HR ((e0.2.1.erase e1.1).map V.str)):=zab;generalize QZ l6 (HR ((e0.2.1.erase e1.1).map V.str))=H6 at k6 g6;have D6:=D5.k0 k6;have bo:=aY.keep k6 HA;refine⟨vG,vG,d,vG,DPut.k (k:=Sum.inr e0.1) D6.ra.dc SY,?_⟩;have R7:=rat_set D6.ra (TW ⟨e0,cN,rfl⟩) g6;have k7:Keep [d] H6 (YY d xF):=Keep.wr Qc;generalize YY d xF=H7 at R7 k7;have bn:=bo.keep k7 (HE ndp);have lf:e1∈U2 e0.1 IJ l6:=mem_setE bu (Zm n01);have g7:DGet H7 d Tv IV:=zcb R7.nd lf▸DGet.k (k:=Sum.inr e1.1) R7.dc;have nZ:=R7.ro e1 lf;have hrl1:=D6.row e1 bu;have ui:(e1.2.1.map V.str).length=e1.2.1.length:=Qa ..;refine⟨vG,vG,d,vG,g7,e1.2.2,rfl,⟨_,HL nZ⟩,zf2 (xs:=e1.2.1.map V.str) (λ τ=>∃x0,τ=[x0,HW (.str e0.1)]) (λv=>!decide (v=V.str e0.1)) (HL nZ) (Rc ui) ⟨none,rfl⟩ ?_ (λl8 mj=>?_)⟩
  ·rintro x hx τ ⟨x0,rfl⟩ kk1 kk0 iR oH;obtain⟨a,ha,rfl⟩:=Qe.mp hx;refine⟨vG,vG,rfl,vG,?_⟩;show if(!decide (V.str a=V.str e0.1))=true then _ else _
   cases hb:(!decide (V.str a=V.str e0.1)) with
   |true=>exact WX ⟨_,rfl,iR hb _ ⟨_,rfl⟩⟩
   |false=>exact Z2 (oH hb _ ⟨_,rfl⟩)
  rw[zif (cY e1 bu)];have k8:Keep [] H7 (UL l8 (HR ((e1.2.1.erase e0.1).map V.str))):=Keep.new mj;have g8:(UL l8 (HR ((e1.2.1.erase e0.1).map V.str))) l8=some (HR ((e1.2.1.erase e0.1).map V.str)):=zab;generalize UL l8 (HR ((e1.2.1.erase e0.1).map V.str))=H8 at k8 g8;have R8:RAt H8 d _:=R7.keep k8 HA λ_ _=>by simp
  have bY:=bn.keep k8 HA;refine⟨vG,vG,d,vG,DPut.k (k:=Sum.inr e1.1) R8.dc (by unfold setE;rw[List.length_map,List.length_map];lia),?_⟩;have R9:=rat_set R8 (TW ⟨e1,lf,rfl⟩) g8;have k9:Keep [d] H8 (Vc d (.dK (putK ((U2 e0.1 IJ l6).map λe=>RX) (Sum.inr e1.1) (HK l8)))):=Keep.wr Qc;generalize Vc d (.dK (putK ((U2 e0.1 IJ l6).map λe=>RX) (Sum.inr e1.1) (HK l8)))=H9 at R9 k9;refine kq b5 m5 _ H9 (bY.keep k9 (HE ndp)) ⟨R9,?_,by unfold setE;rw[List.length_map,List.length_map];exact aS⟩ (by rw[zce,zce]) (((((hV.sub HA).trans Ie).trans O5).trans (k8.sub HA)).trans Ii);rw[zda,zda];have h0n:e0.1∈(LQ es).map (·.1):=by rw[zbw];exact Qe.mpr ⟨e0,cN,rfl⟩
  have h1n:e1.1∈(LQ es).map (·.1):=by rw[zbw];exact Qe.mpr ⟨e1,bu,rfl⟩
  refine good_less D5.gd (v:=e0.1) (u:=e1.1) o6 (by rw[zb3,zb3]) ?_ ?_ λy h1 h2=>by rw[zbb h2,zbb h1]
  ·rw[zbb n01,zbh h0n,JJ cN]
  rw[zbh (HP zb3 h1n),JJ bu]
abbrev sNames:Stmt:=top 52
abbrev iV(n:Nat):V:=.int (n:Int)
abbrev qwe:Str:= "qwertyuiopasdfghjklzxcvbnm"
def qL(i:Nat):Nat:=qwe.cps.toList.getD i 0
def bitF:Nat→Nat→List Nat
 |0,_=>[]
 |f+1,n=>if n=0 then[] else Gb ((n-1)/2)++[(n-1)%2]
theorem bitF_zero:∀f,Gb 0=[]
 |0=>rfl
 |_+1=>rfl
def bit_nd:((Sv 42).map λi=>bitF i i).Nodup:=by decide+kernel
def bit_ok:∀i<42,(bitF i i).length≤8∧(1≤i→1≤(bitF i i).length)∧∀c∈bitF i i,c<2:=by decide+kernel
def stepS:List Nat:=[1,3,5,7,9,11]
def qL_ok:∀i<26,97≤qL i∧qL i≤122:=by decide+kernel
def qL_nd:((Sv 26).map qL).Nodup:=by decide+kernel
def qL_inj{a b:Nat}(ha:a<26)(hb:b<26)(h:qL a=qL b):a=b:=by refine(Wf (h₀:=by rw[Qa,Yh];exact ha) (h₁:=by rw[Qa,Yh];exact hb) qL_nd).mp ?_;rw[Zl,Zl,Ub,Ub];exact h
def qwe_len:qwe.length=26:=by decide+kernel
def str_len(z:Str):z.cps.toList.length=z.length:=by simp[Str.length]
def zjw(a b:Str):(a++b).cps.toList=a.cps.toList++b.cps.toList:=by show(a.cps++b.cps).toList=_;simp
def app_len(a b:Str):(a++b).length=a.length+b.length:=by rw[←str_len,←str_len,←str_len,zjw,Za]
def qL_at{x:Nat}(h:x<26):Ve (x:Int)=some (qL x):=by
 refine za0 ?_;have hl:qwe.cps.toList.length=26:=by rw[str_len];exact qwe_len
 unfold qL;rw[Ze,Qb HB];rfl
def step_inj{s b a c:Nat}(hs:s∈stepS)(ha:a<26)(hc:c<26)(h:(b+s*a)%26=(b+s*c)%26):a=c:=by simp[stepS]at hs;rcases hs with rfl|rfl|rfl|rfl|rfl|rfl<;>lia
def wrd(b s n:Nat):List Nat:=(bitF n n).map λd=>qL ((b+s*d)%26)
theorem zib:∀{l m:List Nat},(∀x∈l,∀y∈m,f x=f y→x=y)→l.map f=m.map f→l=m
 |[],[],_,_=>rfl
 |[],_::_,_,h=>by cases h
 |_::_,[],_,h=>by cases h
 |x::l,y::m,i,h=>by rw[Qn,Qn]at h;injection h with h1 h2;rw[i x Qc y Qc h1,zib (λa ha c hc=>i a (QR ha) c (QR hc)) h2]
def wrd_inj{b s m n:Nat}(hs:s∈stepS)(hm:m<42)(hn:n<42)(h:Dx m=Dx n):m=n:=by have e:bitF m m=bitF n n:=zib (λx hx y hy z=>by have h1:=(bit_ok m hm).2.2 x hx;have h2:=(bit_ok n hn).2.2 y hy;exact step_inj (b:=b) hs HB HB (qL_inj zA zA z)) h;refine(Wf (h₀:=by rw[Qa,Yh];exact hm) (h₁:=by rw[Qa,Yh];exact hn) bit_nd).mp ?_;rw[Zl,Zl,Ub,Ub];exact e
def wrd_ok{b s n:Nat}(hn:n<42)(h1:1≤n):1≤(Dx n).length∧(Dx n).length≤8∧∀c∈Dx n,97≤c∧c≤122:=by unfold wrd;rw[Qa];refine⟨(bit_ok n hn).2.1 h1,(bit_ok n hn).1,λc hc=>?_⟩;obtain⟨d,_,rfl⟩:=Qe.mp hc;exact qL_ok _ zA
theorem mul_cps(c:Nat):∀n:Nat,n≤8→(Txt.mul (⟨#[c]⟩:Str) (n:Int)).cps.toList=B8 c
 |0,_=>rfl
 |1,_=>rfl
 |2,_=>rfl
 |3,_=>rfl
 |4,_=>rfl
 |5,_=>rfl
 |6,_=>rfl
 |7,_=>rfl
 |8,_=>rfl
 |n+9,h=>by lia
inductive IspNames(vs:List V)(H:Hp)(Q:VK):Prop
 |mk(p:Nb)(b m:Int)(n:Nat)(h0:vs=[.ref p,iV n])(h1:Pot H p b m)(h2:n≤16)(h3:∀(l:Nb) (zs:Ng) (b' m':Int) (H':Hp),H' l=some (.lst (zs.map V.str))→zs.length=n→zs.Nodup→(∀z∈zs,zep z)→Pot H' p b' m'→H l=none→Keep [p] H H'→Q (.ref l) H')
def spNames:Sp:=λvs H Q _=>IspNames vs H Q
def zco:zam [qP,qM, "_law_letters", "_law_step", "_law_begin", "_law_found", "_law_k", "_law_word", "_law_number", "_law_digit", "_law_sign"] [qP,qM] (zah sNames):=fsk
def ok_names(F:QD "_law_names" "_law_names" sNames f fd)(GT:ZI "_law_take" [qP,qM] 1 zg0)(ba:mg "range" = none)(dm:mg "divmod" = none):ZB 2 f fd [qP,qM] spNames:=by
 refine F.okL zco HN;obtain⟨p,b,m,n,rfl,hp,hn,k⟩:=h;have ar:=sizeLine_eq;have aj:BY _:=hr.mono HH;refine⟨_,zad (NU zco.nd pe_str)
  (zad (Xz zco.nd (Q8 (zbs (WL (WL (WL (WL (WL Ty)))))) Eu HX))
  (zad (XA zco.nd Eu)
  (zad (NS zco.nd Tq)
  (zad (zbg (BP Eu zai Sw)
   (zad (ZX (BE SQ) (X5 zco.nd)
    (zad (zax 7 zco.nd pe_str)
    (zad (zax 8 zco.nd (AW (YT Sy LI)))
    (zad (FX (Hh CB zai Sw)
     (zad (zdf (zak zhr Rg dm PyProof.Rows.boot_divmod (zaa (Bg CB zai) Ty)) (Ei (Gz zco.nd) (Te (zal 9 zco.nd))))
     (zaf (zax 7 zco.nd (za7 zh9 (Gc Ss (KL (YT Sy (Vz Sn OW)) zai) HX) LK)))))
    (zaf (EQ SE Ae))))))
   (zaf Af)) zao)
  (zad (ZX (BE SQ) (X5 zco.nd)
   (zad (zax 10 zco.nd (Gc pe_str Eu HX))
   (zaf (zbn (WD SE (Sa (za7 zh9 (Gc Ia (KL (YT Ib (Vz Cn LI)) zai) HX) (za7 op_mul_str (pv 10) Eu))))))))
  (zaf Af)))))),?_⟩
 refine⟨(HG 6),λq hq=>?_⟩;have k1:Keep [] H (ZR q (.lst [Rv 1,Rv 3,Rv 5,Rv 7,Rv 9,Rv 11])):=Keep.new hq;have bX:(ZR q (.lst [Rv 1,Rv 3,Rv 5,Rv 7,Rv 9,Rv 11])) q=some (.lst [Rv 1,Rv 3,Rv 5,Rv 7,Rv 9,Rv 11]):=zab;have nqp:q≠p:=Zm (zac hp.1 hq);generalize ZR q (.lst [Rv 1,Rv 3,Rv 5,Rv 7,Rv 9,Rv 11])=H1 at k1 bX;have fB:=hp.keep k1 HA;refine⟨vG,p,b,m,6,rfl,fB,HH,HH,λd2 b2 m2 H2 h20 h21 cr kp2=>?_⟩;have cb:=kp2 _ _ bX nqp;have k2:Keep [p] H H2:=(k1.sub HA).trans (zbu kp2);obtain⟨st,f8,ay⟩:∃st:Nat,atI [TH 1,TH 3,TH 5,TH 7,TH 9,TH 11] d2=some (iV st)∧st∈stepS:=by
  obtain⟨jn,rfl⟩:=Zx h20;have hj:jn<6:=by lia
  have:∀j:Fin 6,∃bb∈stepS,[TH 1,TH 3,TH 5,TH 7,TH 9,TH 11][j.1]?=some (iV bb):=by decide
  obtain⟨bb,h1,h2⟩:=this ⟨jn,hj⟩;exact⟨bb,za0 h2,h1⟩
 have hst2:st≤11:=by
  have:∀x∈stepS,x≤11:=by decide
  exact this st ay
 refine⟨q,_,_,iV st,rfl,rfl,HL cb,f8,vG,p,b2,m2,26,rfl,cr,HH,HH,λd3 b3 m3 H3 h30 h31 cG sH=>?_⟩;obtain⟨bg,rfl⟩:=Zx h30;have hbg:bg<26:=by lia
 have k3:=k2.trans (zbu sH);refine⟨Cm,λl hl=>?_⟩;have nlp:l≠p:=Zm (zac cG.1 hl);have flH:H l=none:=zav k3 hl OD;have k4:Keep [p] H (Q4 l RM):=k3.trans zt;have bK:Pot (Q4 l RM) p b3 m3:=cG.keep (xs:=[]) zt HA;have df:(Q4 l RM) l=some (HR (([]:List Str).map V.str)):=zab;generalize Q4 l RM=H4 at k4 bK df;refine⟨vG,p,b3,m3,3,rfl,bK,HH,HH,λd5 b5 m5 H5 pX pW aY jb=>?_⟩;have k5:=k4.trans (zbu jb);have de:=jb _ _ df nlp;refine⟨rfl,vG,?_⟩;have oi:∀{zs:Ng} {i:Nat},zs.length=i→i<n→(zs.map V.str).length<sizeLine:=λh1 h2=>by rw[Qa];lia
 refine ite2 (λ_=>?_) (λ_=>?_)
 ·refine⟨_,rfl,(n:Int),rfl,HB,HB,?_⟩;rw[Yv];refine zc3 (lo:=0) (λi σ H'=>Aj4 (Ex5 λx6 x7 x8 x9 bU=>σ=[zK,EH n,S4 qwe,EH st,EH bg,CW,x6,x7,x8,x9,bU]) (Keep [p] H H') (Bx b5 m5) (Ex1 λzs:List Str=>Aj2 (H' l=some Iv) (zs.map (·.cps.toList)=(Sv i).map (λk=>Hk (bg+k+1)))))
   ⟨⟨_,_,_,_,_,rfl⟩,k5,aY,[],de,rfl⟩ ?_ ?_
  ·rintro i σ H7 hi ⟨⟨x6,x7,x8,x9,bU,rfl⟩,k7,bn,zs,bD,cT⟩;have bW:zs.length=i:=by have:=congrArg List.length cT;rwa[Qa,Qa,Yh]at this
   refine⟨vG,vG,_,vG,rfl,_,vG,rfl,?_⟩;have e8:(bg:Int)+(0+(i:Int))+1=((bg+i+1:Nat):Int):=by lia
   rw[e8];refine⟨λm σ H'=>Ex3 λ(c f:Nat) (z:Str)=>Aj7 (m=c) (Ex1 λx9=>σ=[zK,EH n,S4 qwe,EH st,EH bg,CW,SL (0+(i:Int)),S4 z,EH c,x9,bU]) (RH H7) (c≤f) ((Gb c).map (λd=>qL ((bg+st*d)%26))++z.cps.toList=Hk (bg+i+1)) (z.length+c≤bg+i+1) True,
    ⟨bg+i+1,bg+i+1,bg+i+1, "",rfl,⟨_,rfl⟩,Keep.refl,Rf,by show _++[]=_;rw[Zt];rfl,by show 0+_≤_;lia,trivial⟩,?_⟩
   rintro m σ H8 ⟨c,f,z,rfl,⟨x9,rfl⟩,k8,hcf,he,hzl2,_⟩;refine⟨vG,_,vG,rfl,vG,?_⟩;by_cases h0:m=0
   ·subst h0;refine zau (S6 HB) ?_;rw[bitF_zero]at he;refine⟨vG,.inl ⟨rfl,_,HL (k8 _ _ bD HA)⟩,vG,l,_,vG,rfl,k8 _ _ bD HA,oi bW hi,⟨_,_,_,_,vG⟩,λc u ec hc=>by rw[zag (W0 flH)];exact k8 _ _ (k7 c u ec hc) HA,(bn.keep k8 HA).keep (xs:=[l]) SD (by simpa using Zm nlp),zs++[z],by rw[zab,Qp];rfl,?_⟩;rw[Qp,cT,List.range_succ,Qp,Qn,Qn,←he];rfl
   refine zbj (RE HB) ?_;cases f with
   |zero=>lia
   |succ f=>
    have e1:(m:Int)-1=((m-1:Nat):Int):=by lia
    have e2:((m:Int)-1)/2=(((m-1)/2:Nat):Int):=by lia
    have e3:((m:Int)-1)%2=(((m-1)%2:Nat):Int):=by lia
    have bZ:(m-1)%2<2:=NB HH;refine⟨_,λ σ' H' z=>z,vG,_,vG,rfl,_,vG,⟨HH,HH⟩,λt ht=>?_⟩;rw[e2,e3];have iF:(bg+st*((m-1)%2))%26<26:=NB HH;have f8:Ve (((bg:Int)+(st:Int)*(((m-1)%2:Nat):Int))%26)=some (qL ((bg+st*((m-1)%2))%26)):=by rw[←Int.natCast_mul,←Int.natCast_add];exact qL_at iF
    refine⟨t,vG,Rx zab,rfl,_,vG,_,vG,rfl,vG,vG,vG,vG,_,vG,rfl,Rq ⟨HB,HB⟩,_,vG,rfl,_,vG,rfl,HH,_,_,vG,rfl,by rw[qwe_len];lia,f8,vG,_,vG,rfl,by show 1+z.length≤sizeLine;lia,(m-1)/2,HB,(m-1)/2,f,vG,⟨vG⟩,k8.trans Lw,HB,?_,?_,trivial⟩
    ·rw[← he,zjw];show(Gb _).map _++([_]++_)=(if m=0 then[] else Gb ((m-1)/2)++[(m-1)%2]).map _++_;rw[if_neg h0,Qp,Qw];rfl
    rw[app_len];show 1+z.length+(m-1)/2≤_;lia
  rintro σ H7 ⟨⟨x6,x7,x8,x9,bU,rfl⟩,k7,bn,zs,bD,cT⟩;have bW:zs.length=n:=by have:=congrArg List.length cT;rwa[Qa,Qa,Yh]at this
  refine⟨vG,k l zs b5 m5 H7 bD bW ?_ (λz hz=>?_) bn flH k7⟩
  ·refine zge (f:=λz:Str=>z.cps.toList) ?_;rw[cT];exact zd6 λa ha c hc h=>by have:=wrd_inj ay HB HB h;lia
  have:z.cps.toList∈(Sv n).map (λk=>Hk (bg+k+1)):=by rw[← cT];exact Qe.mpr ⟨z,hz,rfl⟩
  obtain⟨j,hj,e⟩:=Qe.mp this;have eT:j<n:=Yz.mp hj;have:=wrd_ok (b:=bg) (s:=st) (n:=bg+j+1) HB HB;rw[e]at this;exact⟨by rw[←str_len];exact this.1,by rw[←str_len];exact this.2.1,this.2.2⟩
 refine⟨_,rfl,(n:Int),rfl,HB,HB,?_⟩;rw[Yv];refine zc3 (lo:=0) (λi σ H'=>Aj3 (Ex5 λx6 x7 x8 x9 bU=>σ=[zK,EH n,S4 qwe,EH st,EH bg,CW,x6,x7,x8,x9,bU]) (Keep [p] H H') (Ex3 λ(zs:Ng) (b' m':Int)=>Aj4 (H' l=some Iv) (zs.map (λz=>z.cps.toList.headD 0)=(Sv i).map (λk=>qL ((bg+st*k)%26))) (∀z∈zs,zep z) (Bx b' m')))
  ⟨⟨_,_,_,_,_,rfl⟩,k5,[],b5,m5,de,rfl,λz hz=>(by cases hz),aY⟩ ?_ ?_
 ·rintro i σ H7 hi ⟨⟨x6,x7,x8,x9,bU,rfl⟩,k7,zs,b7,m7,bD,cT,hok,bn⟩;have bW:zs.length=i:=by have:=congrArg List.length cT;rwa[Qa,Qa,Yh]at this
  refine⟨vG,p,b7,m7,2,rfl,bn,HH,HH,λd8 b8 m8 H8 uY h81 bY iy=>?_⟩;obtain⟨j8,rfl⟩:=Zx uY;have r6:j8<2:=by lia
  have uN:atI ("ab" : Str).cps.toList (j8:Int)=some (97+j8):=by
   refine za0 ?_;have:∀j:Fin 2,("ab" : Str).cps.toList[j.1]?=some (97+j.1):=by decide+kernel
   exact this ⟨j8,r6⟩
  refine⟨_,_,vG,rfl,HH,uN,?_⟩;have mj:=iy _ _ bD nlp;have iF:(bg+st*i)%26<26:=NB HH;have f8:Ve (((bg:Int)+(st:Int)*(0+(i:Int)))%26)=some (qL ((bg+st*i)%26)):=by rw[Int.zero_add,←Int.natCast_mul,←Int.natCast_add];exact qL_at iF
  refine⟨vG,.inl ⟨rfl,_,HL mj⟩,vG,vG,vG,vG,_,vG,rfl,Rq ⟨HB,HB⟩,_,vG,rfl,_,vG,rfl,HH,_,_,vG,rfl,by rw[qwe_len];lia,f8,vG,vG,p,b8,m8,8,rfl,bY,HH,HH,λd9 b9 m9 H9 uX h91 oe qz=>?_⟩;obtain⟨j9,rfl⟩:=Zx uX;have um:j9<8:=by lia
  have hl9:=qz _ _ mj nlp;have hmc:=mul_cps (97+j8) j9 HB;have qZ:(Txt.mul (⟨#[97+j8]⟩:Str) (j9:Int)).length=j9:=by rw[←str_len,hmc,Uw]
  refine⟨_,j9,rfl,rfl,by show 1≤1000;decide,HB,_,vG,rfl,by rw[qZ];show 1+j9≤sizeLine;lia,l,_,vG,rfl,hl9,oi bW hi,?_⟩;have k9:=(k7.trans (zbu iy)).trans (zbu qz);refine⟨⟨_,_,_,_,vG⟩,λc u ec hc=>by rw[zag (W0 flH)];exact k9 c u ec hc,zs++[(⟨#[qL ((bg+st*i)%26)]⟩:Str)++Txt.mul (⟨#[97+j8]⟩:Str) (j9:Int)],b9,m9,by rw[zab,Qp];rfl,?_,λz hz=>?_,oe.keep (xs:=[l]) SD (by simpa using Zm nlp)⟩
  ·rw[Qp,cT,List.range_succ,Qp,Qn,Qn,zjw];rfl
  rcases Qm.mp hz with y|y
  ·exact hok z y
  rw[CI y];have h1:=qL_ok _ iF;refine⟨by rw[app_len];show 1≤1+_;lia,by rw[app_len,qZ];show 1+j9≤8;lia,λc hc=>?_⟩;rw[zjw,hmc]at hc;rcases Qm.mp hc with y|y
  ·rw[show c=qL ((bg+st*i)%26) from Qd.mp y];exact h1
  rw[Xk y];lia
 rintro σ H7 ⟨⟨x6,x7,x8,x9,bU,rfl⟩,k7,zs,b7,m7,bD,cT,hok,bn⟩;have bW:zs.length=n:=by have:=congrArg List.length cT;rwa[Qa,Qa,Yh]at this
 refine⟨vG,k l zs b7 m7 H7 bD bW ?_ hok bn flH k7⟩;refine zge (f:=λz:Str=>z.cps.toList.headD 0) ?_;rw[cT];exact zd6 λa ha c hc h=>step_inj (b:=bg) ay HB HB (qL_inj zA zA h)
end
end K21
namespace Wb
section
variable{α β:Type}[DecidableEq α][DecidableEq β]{ns:List α}{r:α→List α}{cs:List (List (α×α))}{f:α→β}
theorem idx_map(hf:∀x y,f x=f y→x=y)(w:α):∀zs:List α,(zs.map f).idxOf (f w)=zs.idxOf w
 |[]=>rfl
 |a::t=>by
  rw[Qn,List.idxOf_cons,List.idxOf_cons,idx_map hf w t];by_cases h:a=w
  ·rw[h,beq_self_eq_true,beq_self_eq_true]
  rw[beq_eq_false_iff_ne.mpr h,beq_eq_false_iff_ne.mpr λe=>h (Dy e)]
def nxt_map(hf:∀x y,f x=f y→x=y)(zs:List α)(w:α):nxt (zs.map f) (f w)=f (XH w):=by unfold nxt;rw[idx_map hf,Qa,Ze,Ze,Qk];cases zs[(zs.idxOf w+1)%zs.length]?<;>rfl
def lk_map{γ δ:Type}{F:γ→γ}{G:δ→δ}{g:γ→δ}{e:γ}:∀{t:List γ} {s:γ},(∀y,y=s∨y∈t→G (g y)=g (F y))→Lk F s t e→Lk G (g s) (t.map g) (g e):=by
 intro t;induction t with
 |nil=>intro s h k;exact(h s Sf).trans (congrArg g k)
 |cons a t ih=>intro s h k;exact⟨(h s Sf).trans (congrArg g k.1),ih (λy hy=>h y wF) k.2⟩
def cert_map(hf:∀x y,f x=f y→x=y){a:α}(C:Cert ns r cs λ_=>a){r':β→List β}(hr:∀x,r' (f x)=(r x).map f)(o0:∀y,(∀x,y≠f x)→r' y=[])(ha:a∈ns) :
  Cert (ns.map f) r' (cs.map λc=>c.map λs=>(z4,z6)) λ_=>f a:=by
 have hm:∀{y z},z∈r' y→∃x w,y=f x∧z=f w∧w∈r x:=λ{y z} h=>by
  by_cases hy:∃x,y=f x
  ·obtain⟨x,rfl⟩:=hy;rw[hr]at h;obtain⟨w,hw,rfl⟩:=Qe.mp h;exact⟨x,w,rfl,rfl,hw⟩
  rw[o0 y λx e=>hy ⟨x,e⟩]at h;cases h
 have hb:∀{x w},w∈r x→f w∈r' (f x):=λh=>by rw[hr];exact Qe.mpr ⟨_,h,rfl⟩
 have hg:∀s t:α×α,(z4,z6)=(f t.1,f t.2)→s=t:=λs t e=>Wx (Dy S3) (Dy SI);have ox:∀{l:List α},l.Nodup→(EF f).Nodup:=λnd=>Ja.mpr (nd.imp λh e=>h (Dy e));have gO:(cs.map λc=>c.map λs=>(z4,z6)).flatten=cs.flatten.map λs=>(z4,z6):=List.map_flatten.symm;refine⟨ox C.nd,λy hy=>?_,λy=>?_,λy h=>?_,λx y h=>?_,?_,λs=>?_,λc hc=>?_,λx hx=>Qe.mpr ⟨a,ha,rfl⟩,λ_ _ _=>rfl,λx hx y hy _=>?_,λx hx=>?_⟩
 ·cases e:r' y with
  |nil=>rfl
  |cons z t=>obtain⟨x,w,rfl,_,hw⟩:=hm (y:=y) (z:=z) (HP e Qc);exact absurd (TW ⟨x,OA hw,rfl⟩) hy
 ·by_cases hy:∃ x,y=f x
  ·obtain⟨x,rfl⟩:=hy;rw[hr];exact ox (C.rn x)
  rw[o0 y λx e=>hy ⟨x,e⟩];exact Zk
 ·obtain⟨x,w,e1,e2,hw⟩:=hm h;have:=Dy (e1.symm.trans e2);subst this;exact C.ir _ hw
 ·obtain⟨a,w,rfl,rfl,hw⟩:=hm h;exact hb (UK hw)
 ·rw[gO];exact Ja.mpr (C.cf.imp λh e=>h (hg _ _ e))
 ·rw[gO];constructor
  ·intro h;obtain⟨t,ht,rfl⟩:=Qe.mp h;exact hb ((Oz t).mp ht)
  intro h;obtain⟨x,w,e1,e2,hw⟩:=hm h;exact Qe.mpr ⟨(w,x),(Oz (w,x)).mpr hw,Wx e2.symm e1.symm⟩
 ·obtain⟨c0,ig,rfl⟩:=Qe.mp hc;obtain⟨s,t,rfl,k⟩:=C.cy c0 ig;refine⟨(z4,z6),vG,lk_map (g:=λs:α×α=>(z4,z6)) (λy _=>?_) k⟩;show(f y.2,nxt (r' (f y.2)) (f y.1))=(f y.2,f (nxt (r y.2) y.1));rw[hr,nxt_map hf]
 ·obtain⟨x0,nE,rfl⟩:=Qe.mp hx;obtain⟨y0,qE,rfl⟩:=Qe.mp hy;have:=C.co x0 nE y0 qE rfl;clear hy qE;induction this with
  |refl=>exact .refl
  |step _ hz ih=>exact .step ih (hb hz)
 have e1:wt (ns.map f) r' (λ_=>f a) (f a)=wt ns r (λ_=>a) a:=by unfold wt;rw[Zg];refine zcr λx _=>?_;show(if f a=f a then _ else _)=_;rw[if_pos rfl,if_pos rfl,hr,Qa];simp only[List.map_eq_nil_iff]
 have e2:ct (cs.map λc=>c.map λs=>(z4,z6)) (λ_=>f a) (f a)=ct cs (λ_=>a) a:=by unfold ct;rw[Zg];refine zcr λc _=>?_;show(if(List.any (c.map λs=>(z4,z6)) λs=>decide (f a=f a))=true then _ else _)=_;rw[List.any_map];simp only[Function.comp_def,decide_true]
 rw[e1,e2];exact C.eu a ha
end
end Wb
namespace Wb
open PySem
def bk(n j:Nat):Nat:=if j=0 then n-1 else j-1
def trR(m i:Nat):List Nat:=
 if i < 2*m then
  (if i%2=0 then[2*m,2*VB (i/2),i+1,2*((i/2+1)%m)+1,2*((i/2+1)%m)]
    else[2*m+1,2*((i/2+1)%m)+1,i-1,2*VB (i/2),2*VB (i/2)+1])
 else if i=2*m then(Sv m).map (2*·)
 else((Sv m).map λk=>2*k+1).reverse
def trF(m:Nat)(i:Fin (2*m+2)):List (Fin (2*m+2)):=(JT i.1).filterMap λk=>if h:k<2*m+2 then some ⟨k,h⟩ else none
def trT(m:Nat):List (Fin (2*m+2)×Fin (2*m+2)×Fin (2*m+2)):=(List.finRange (2*m+2)).flatMap λa=>(V7 a).filterMap λb=>if a<b∧a<nxt (V7 b) a then some (a,b,nxt (V7 b) a) else none
def trC(m:Nat):List (S1 (Fin (2*m+2)×Fin (2*m+2))):=(trT m).map λt=>[(t.1,t.2.1),(t.2.1,t.2.2),(t.2.2,t.1)]
def tr0(m:Nat):Fin (2*m+2):=⟨0,HB⟩
structure TrOk(m:Nat):Prop where
 lo:∀i<2*m+2,∀k∈JT i,k<2*m+2
 cyc:∀t∈trT m,Gd (t.1,t.2.1)=(t.2.1,t.2.2)∧Gd (t.2.1,t.2.2)=(t.2.2,t.1)∧Gd (t.2.2,t.1)=(t.1,t.2.1)
 rn:∀x,(V7 x).Nodup
 ir:∀x,x∉V7 x
 sy:∀x,∀y∈V7 x,x∈V7 y
 cf:(trC m).flatten.Nodup
 cm:∀s∈(trC m).flatten,s.1∈V7 s.2
 mc:∀x,∀y∈V7 x,(y,x)∈(trC m).flatten
 eu:wt (List.finRange (2*m+2)) (trF m) (λ_=>tr0 m) (tr0 m)+ct (trC m) (λ_=>tr0 m) (tr0 m)=4
 up:∀x:Fin (2*m+2),x.1=0∨∃y∈V7 x,y<x
def tr_cert(h:TrOk m):Cert (List.finRange (2*m+2)) (trF m) (trC m) λ_=>tr0 m:=by
 have con:∀n,∀x:Fin (2*m+2),x.1<n→Fk x:=by
  intro n;induction n with
  |zero=>intro x hx;cases hx
  |succ n ih=>
   intro x hx;rcases h.up x with z|⟨y,hy,ad⟩
   ·rw[show x=tr0 m from Fin.ext z];exact .refl
   exact .step (ih y (Zy ad (Nat.le_of_lt_succ hx))) (h.sy x y hy)
 have qf:∀x:Fin (2*m+2),Fk x:=λx=>con _ x xl;refine⟨List.nodup_finRange _,λx hx=>absurd (List.mem_finRange x) hx,h.rn,h.ir,λx y=>h.sy x y,h.cf,λs=>⟨h.cm s,λz=>h.mc s.2 s.1 z⟩,λc hc=>?_,λ_ _=>List.mem_finRange _,λ_ _ _=>rfl,λx _ y _ _=>((qf x).symm λa b=>h.sy a b).trans (qf y),λ_ _=>h.eu⟩;obtain⟨t,ht,rfl⟩:=Qe.mp hc;obtain⟨h1,h2,h3⟩:=h.cyc t ht;exact⟨_,vG,h1,h2,h3⟩
def tr_ok(h3:3≤m)(h7:m≤7):TrOk m:=by
 have:m=3∨m=4∨m=5∨m=6∨m=7:=by lia
 rcases this with rfl|rfl|rfl|rfl|rfl <;>
  exact⟨Rh,Rh,Rh,Rh,Rh,Rh,Rh,Rh,Rh,Rh⟩
def tr_good{m:Nat}(h3:3≤m)(h7:m≤7){nm:Nat→Str}(inj:∀i j,i<2*m+2→j<2*m+2→nm i=nm j→i=j) :
  Good ((Sv (2*m+2)).map λi=>(nm i,(JT i).map nm)):=by
 have h:=tr_ok h3 h7;have hf:∀x y:Fin (2*m+2),nm x.1=nm y.1→x=y:=λx y e=>Fin.ext (inj _ _ x.2 y.2 e);have hn:((Sv (2*m+2)).map λi=>(nm i,(JT i).map nm)).map (·.1)=(List.finRange (2*m+2)).map λx=>nm x.1:=by rw[Zg];refine Kq HA λi h1 h2=>?_;simp
 have aE:(((Sv (2*m+2)).map λi=>(nm i,(JT i).map nm)).map (·.1)).Nodup:=by rw[hn];exact Ja.mpr ((List.nodup_finRange _).imp λne e=>ne (Dy e))
 refine⟨_,_,hn▸cert_map (f:=λx:Fin (2*m+2)=>nm x.1) hf (tr_cert h) (λx=>?_) (λy hy=>?_) (List.mem_finRange _)⟩
 ·have hmem:(nm x.1,(JT x.1).map nm)∈(Sv (2*m+2)).map λi=>(nm i,(JT i).map nm):=Qe.mpr ⟨x.1,Yz.mpr x.2,rfl⟩;rw[zgb aE hmem];show(JT x.1).map _=(List.filterMap _ _).map _;have mf:=h.lo x.1 x.2;generalize JT x.1=ks at mf;induction ks with
  |nil=>rfl
  |cons a t ih=>have ha:=mf a Qc;rw[List.filterMap_cons,dif_pos ha,Qn,Qn,ih λk hk=>mf k (QR hk)]
 refine zg4 λz=>?_;rw[hn]at z;obtain⟨x,_,e⟩:=Qe.mp z;exact hy x e.symm
end Wb
namespace L2
open PySem PySem.Spec PyProof.Rows
section
variable{X:Cx}{a5:Nh}{σ:St}{H:Hp}{s:Ni}
def dict_hits(I:Ro)(h1:BT RO)(h2:Rd H b (.dK kvs2))(pm:kvs.Perm kvs2)(nd:(kvs.map (·.1)).Nodup)(fl:∀p∈kvs,zc4 p.2=true) :
  ∃vs ja,(a==sysModules)=false∧(b==sysModules)=false∧s.heap.DictOf Lj a vs∧s.heap.DictOf Lj b ja∧vs.length=ja.length∧Dz vs true:=by
 obtain⟨z,lo,vs,ep,rk,ha,hl⟩:=De h1;obtain⟨z2,mQ,ja,ep2,rk2,ha2,av⟩:=De h2;have dS:(kvs2.map (·.1)).Nodup:=(pm.map _).nodup_iff.mp nd;have gD:∀(ks:S1 (Key×V)) (us:S1 (Key×Value)),KV ks us→(∀p∈ks,p∈kvs)→Dz us true:=by
  intro ks us r;induction r with
  |nil=>intro _;exact .nil
  |@cons p q' ps qs e t ih=>intro hm;have hp:(p.1,p.2)∈kvs2:=pm.mem_iff.mp (hm p Qc);obtain⟨y,e1,e2⟩:=KV.value rk2 dS hp;have f:=fl p (hm p Qc);have hE:=eqAt_V (A:=A) (s:=s) e.2 e2 f f;rw[eqV_self f]at hE;obtain⟨k1,v1⟩:=q';have hk:p.1=k1:=e.1;rw[hk]at e1;exact PySem.W.KeqHits.hit (e:=true) (b:=true) e1 hE (ih λp hp=>hm p (QR hp))
 have:=pm.length_eq;exact⟨vs,ja,lo,mQ,ha.dictOf,ha2.dictOf,HB,gD kvs vs rk λp hp=>hp⟩
variable{prog:Nk}{w:Nl}{A:Np}{E:Nc}
def rev_no_len:typeLookup (.type "list_reverseiterator") "__len__" = pure none:=by rw[typeLookup_type,builtinLookup_eq_fast];kernel_rfl
def rev_hint:typeLookup (.type "list_reverseiterator") "__length_hint__" = pure (HW (.builtin "list_reverseiterator.__length_hint__")):=by rw[typeLookup_type,builtinLookup_eq_fast];kernel_rfl
def hint_rev(hT:s.TypeIs (HK r) "list_reverseiterator")(h:Q false s):ZE A IK Q E s:=by
 unfold Builtin.List.listLengthHint;refine wpAny_bind (Bq rev_no_len ?_);show ZV A (specialOf (ww r) (Str.ofString "__length_hint__") >>= _) _ _ _;refine wpAny_bind (Bq rev_hint ?_);generalize oP:("list_reverseiterator.__length_hint__" : String)=id0
 wp_delta
 rw[show splitId id0=some ("list_reverseiterator", "__length_hint__") from by subst oP;decide+kernel];subst oP;refine wpAny_bind (wpAny_isInstance (T:= "list_reverseiterator") (b:=true) hT (by rw[isSubtype_type];kernel_rfl) (wpAny_ite_split (λfc=>absurd fc HH) (λ_=>wpAny_ite_split (λ_=>?_) (λfc=>absurd (by decide+kernel) fc))));exact wpAny_ite_split (λfc=>absurd fc HH) (λ_=>wpAny_pure h)
def zj3(hh:A.handled=none)(hit:s.heap.IsRevIter I l ((items.size:Int)-1))(hl:s.heap.IsList l items)(au:l≠I)(hn:items.size≤sizeLine)(hQ:∀h' tk ag c',(∀b o,b≠I→s.heap.get? b=some o→h'.get? b=some o)→h'.get? s.heap.objs.size=some {cls:=.type "list",dict:=none,data:=.seq ag c',slots:=#[]}→ItemsOf (λi v=>items[items.size-1-i]?=some v) ag items.size→Q HY {s with heap:=h',toks:=tk}) :
  wpAny Rb A (call (.type "list") [CM]) Q E s:=by
 have W:=Walks.listRev (prog:=prog) (w:=w) (A:=A.in1.in1) hh I l au items;refine callType_codes (Q₁:=λobj s₁=>obj=.ref s.heap.objs.size∧s₁={s with heap:=s.heap.push {cls:=.type "list",data:=.seq #[]}}) PySem.F.called_list (PySem.F.typeCall_list_1 _) PySem.F.entry_list_init
  (code_list_new _ ⟨rfl,rfl⟩) λobj s₁ h₁=>?_
 obtain⟨rfl,rfl⟩:=h₁;have hS:(s.heap.push {cls:=.type "list",data:=.seq #[]}).get? s.heap.objs.size=some {cls:=.type "list",data:=.seq #[]}:=U5 rfl;have hSI:s.heap.objs.size≠I:=by obtain⟨o,e,_⟩:=hit;exact Wa zi
 have hSl:s.heap.objs.size≠l:=by obtain⟨o,e,_⟩:=hl;exact Wa zi
 have fg:s.heap.objs.size∉[I,l]:=by simp;exact⟨hSI,hSl⟩
 refine⟨⟨_,hS,rfl⟩,PySem.F.args_list_init_2 _ _,?_⟩;show ZV _ (do let old ←Builtin.List.listItems HY;Builtin.List.listUpdate HY (λ_=>#[]);letGo old.toList.reverse;Bl CM .none) _ _ _;refine wpAny_bind ?_;unfold Builtin.List.listItems;refine wpAny_bind (JU Rw);show ZV _ (updateSeq s.heap.objs.size (λ_=>#[]) >>= λ_=>letGo (#[]:Array Value).toList.reverse >>= λ_=>Bl CM .none) _ _ _;refine wpAny_bind (wpAny_updateSeq hS rfl ?_);have hS₂:=Wq (Obj.mapSeq (λ_=>(#[]:Array Value))) hS rfl;have oth:∀b o,s.heap.get? b=some o→((s.heap.push {cls:=.type "list",data:=.seq #[]}).update s.heap.objs.size (Obj.mapSeq (λ_=>(#[]:Array Value)))).get? b=some o:=
  λb o e=>(X0 (Wa zi)).trans IE
 refine wpAny_bind (wpAny_letGo ?_);generalize(s.heap.push {cls:=.type "list",data:=.seq #[]}).update s.heap.objs.size (Obj.mapSeq (λ_=>(#[]:Array Value)))=h2 at hS₂ oth;have iS:h2.IsRevIter I l ((items.size:Int)-1):=hit.at λo e=>oth I o e;have av:h2.IsList l items:=hl.at λo e=>oth l o e;unfold Builtin.List.listExtendWith;refine wpAny_bind (wpAny_typeOf (T:= "list_reverseiterator") iS.typeIs ?_);have h1:Builtin.List.listSameRef HY CM=false:=by simp[Builtin.List.listSameRef,hSI]
 have e1:(Value.type "list_reverseiterator" == Value.type "list")=false:=by decide
 have e2:(Value.type "list_reverseiterator" == Value.type "tuple")=false:=by decide
 simp only[h1,e1,e2,Bool.or_false,Ut,if_false];refine wpAny_bind (wpAny_pyIter_revIter iS (wpAny_bind (vz (hint_rev iS.typeIs (wpAny_ite_split (λfc=>absurd fc HH) (λ_=>wpAny_pure ⟨EX,codeAny_extend_loopS W.toS hn s.heap.objs.size fg .none items.size 0 _ #[] _ rfl SW ⟨SW,HE iS,av⟩ hS₂ (ItemsOf.nil _) λs' vm c' hm cv dB=>?_⟩))))));rw[Moved.eq_with hm];refine⟨rfl,hQ s'.heap s'.toks vm c' (λb o hb e=>hm.heap b o (λhmem=>?_) (oth b o e)) cv dB⟩;rcases Qi.mp hmem with e'|hmem
 ·exact absurd (Qx e) (by rw[e'];exact We _)
 exact hb (Qd.mp hmem)
def tRev(K:Na)(t:TE):TE:=λ σ H Q=>t σ H λv H1=>Ex2 λl xs=>Aj3 (v=.ref l) (SqL K H1 l xs) (∀p,H1 p=none→Q TB (QA p OF))
def pe_rev(hc:X.calm=true)(hg:Vm "list")(hm:X.mg "list" = none)(hg':Vm "reversed")(ug:X.mg "reversed" = none)(he:Z9 e t)(h1:starEach [e] X.env=[(false,Eb)]:=by rfl)(h2:starEach [.Call (.Name "reversed" p2) [e] [] q2] X.env=[(false,Rr (.Call (.Name "reversed" p2) [e] [] q2))]:=by rfl) :
  PE X (.Call (.Name "list" p1) [.Call (.Name "reversed" p2) [e] [] q2] [] q1) (tRev X.K t):=by
 intro a5 s σ H Q I h;refine Call_ (BN boot_list (Ui (rest:=[]) ?_ h2 rfl));rw[h2];show ZV _ (spliced ((false,Rr (.Call (.Name "reversed" p2) [e] [] q2))::[])) _ _ s;refine Js (Call_ (zhg I hg' ug boot_reversed (Ui (rest:=[]) ?_ h1 rfl)));rw[h1];show ZV _ (spliced ((false,Eb)::[])) _ _ s;refine Js (thn Sm λu s1 ⟨v,H1,I1,r1,l,xs,ev,hq,q⟩=>Ks ?_);subst ev;cases r1;obtain⟨a7,rv,pl,hz⟩:=I1.list hq;have ae:=rv.length;have hl:=pl.isList;have lt:l<s1.heap.objs.size:=by obtain⟨o,z,_⟩:=hl;exact Qx z
 refine call_reversed_list hl (Ks ?_);have hsz:(s1.heap.push (revObj l ((a7.toArray.size:Int)-1))).objs.size=s1.heap.objs.size+1:=Wj ..;refine zj3 (s:={s1 with heap:=s1.heap.push (revObj l ((a7.toArray.size:Int)-1))}) (I:=s1.heap.objs.size) (l:=l) (items:=a7.toArray) (I1.ok.hd hc) ⟨_,To,rfl,rfl⟩ (hl.at λo z=>WF z) Ps (by simp;lia) λh' tk ag c' kp hn dB=>?_;have mV:∀b o,s1.heap.get? b=some o→h'.get? b=some o:=λb o z=>kp b o (Zj (Qx z)) (WF z);have hf:H1 (s1.heap.push (revObj l ((a7.toArray.size:Int)-1))).objs.size=none:=I1.hok.fresh (by rw[hsz];exact Uo _);have eacc:ag=a7.reverse.toArray:=by
  refine Array.ext (by simpa using dB.1) λi hi ap=>?_;have:=dB.2 i ag[i] (by simp[hi]);have hil:i<a7.length:=by simpa using ap
  simp only[List.getElem?_toArray,Qv]at this;rw[Qb HB]at this;show ag[i]=a7.reverse[i]'(HE ap);rw[List.getElem_reverse];exact(Qo this).symm
 subst eacc;exact⟨HK _,_,I1.laid (t':=tk) mV (by rw[hsz];exact Uo _) (show Z1 _ h' _ OF from⟨by rw[List.length_reverse];exact hz,a7.reverse,c',rv.reverse,hn⟩),rfl,q _ hf⟩
abbrev iEnumL(K:Na)(ta:TA):TI:=iEnumG (SqL K) ta
def pi_enumL(hg:Vm "enumerate")(hm:X.mg "enumerate" = none)(ha:K4 [a] ta)(hs:starEach [a] X.env=[(false,xf)]:=by rfl) :
  PI X EO (.Call (.Name "enumerate" p) [a] [] pos) (iEnumL X.K ta):=
 pi_enumG (Ij:=λj a i h=>h.IsListIter j a i) hg hm ha hs (λ{a j} uP=>⟨λi h ⟨o,q,c,d⟩=>⟨o,q,λv z=>by rw[d]at z;cases z⟩,λi h h' st k=>st.at k,λ{X' a5 σ H s xs} hP hw hK I hh hq=>by
  rw[←hK]at hq;obtain⟨a7,rv,p,hz⟩:=I.list hq;exact⟨a7,_,rv,λys h=>I.list_inj (hK▸h) hq,p.isList,Draws.list hh j a uP a7.toArray,λst hx hE=>wpAny_nextOf_list_end hh st p.isList hx hE⟩⟩) λI hq=>by
  obtain⟨a7,rv,pl,hz⟩:=I.list hq;exact⟨by obtain⟨o,q,_⟩:=pl.isList;exact Qx q,λh=>call_enumerate_list pl.isList λg he hit _ k=>h g he hit k⟩
def for_enumL{K:Na}{a:Nb}{xs:List V}{g:TG}{tb:TS}{D:Ends}{σ:St}{H:Hp}(Pv:Nat→St→Hp→Prop)(h0:Ch)(hl:∀i σ H,i≤xs.length→Pv i σ H→H a=some Tj)(hs:∀i x t σ H,xs[i]?=some x→Pv i σ H→H t=none→g Ll σ (ZR t (.tup [E2,x])) λ σ2 H2=>tb {D with nx:=Pv Rm,ct:=Pv Rm,bk:=D.nx} σ2 H2)(hd:∀σ H,Pv xs.length σ H→WW H):=
 for_enumG (Sq:=(SqL K · a)) (tb:=tb) Pv h0 (λi σ H z p=>SqL.of (hl i σ H z p)) hs hd
def gTwo(K:Na)(t:TGs):TG:=λv σ H Q=>Ex3 λ(a:Nb) (x y:V)=>Aj3 (v=.ref a) (YE [x,y]) (t [x,y] σ H Q)
end
section
variable{X:Cx}
def draw_two(ne:a≠it)(hi:s.heap.IsListIter it a 0)(hl:s.heap.IsList a #[u1,u2])(q:∀h',h'.IsListIter it a 2→Df h'→Q [u1,u2] {s with heap:=h'}):BM A (draw SS 2) Q E s:=by apply wpAny_bind (m:=pyNext SS);apply wpAny_pyNext_list_item hi hl (x:=u1) rfl;intro h1 i1 s1;have l1:h1.IsList a #[u1,u2]:=hl.extBut s1.extBut ne;apply wpAny_bind;apply wpAny_holding;apply wpAny_bind (m:=pyNext SS);apply wpAny_pyNext_list_item (s:={s with heap:=h1}) i1 l1 (x:=u2) rfl;intro h2 i2 s2;apply wpAny_bind;apply wpAny_holding;apply wpAny_pure;apply wpAny_pure;apply wpAny_pure;exact q h2 i2 (s1.trans s2)
def pg_two(hc:X.calm=true)(h:Gh [e1,e2] t)(hn:(assignEach [e1,e2] X.env).length=2:=by rfl)(ay:(assignEach [e1,e2] X.env).findIdx? (·.1)=none:=by rfl):PG X (.Tuple [e1,e2] k pos) (gTwo X.K t):=by
 intro a5 s σ H v u Q I r ⟨a,x,y,z,hq,hw⟩;subst z;cases r;obtain⟨a7,rv,hp,_⟩:=I.list hq;have rv':=rv;obtain⟨u1,u2,rfl,_,_⟩:=vals2 rv';have hl:s.heap.IsList a #[u1,u2]:=hp.isList;have ne:a≠s.heap.objs.size:=by obtain⟨o,ho,_⟩:=hl;exact Zj (Qx ho)
 rw[assign_Tuple];apply wpAny_bind;apply wpAny_standAt;unfold unpack;rw[hn,ay];apply wpAny_bind;apply wpAny_holding;unfold unpackItems;apply wpAny_bind;unfold notIterableAtAll;apply wpAny_bind;apply wpAny_specialOf hl.typeIs slot_list_iter.lookup;apply wpAny_pure;rw[if_neg HA];apply wpAny_bind;apply wpAny_holding;apply wpAny_pyIter_list hl;have lp:(s.heap.push {cls:=.type "list_iterator",data:=.fields #[Sg,Pl]}).IsList a #[u1,u2]:=hl.push _;apply wpAny_bind;apply wpAny_holding;apply draw_two ne ⟨_,To,rfl,rfl⟩ lp;intro h1 i1 s1;rw[if_neg HA];apply wpAny_bind;apply wpAny_holding;apply K3 i1 (lp.extBut s1.extBut ne) rfl;intro h2 x2;rw[if_neg HA];apply wpAny_pure;have I1:ZA H {s with heap:=h2}:=I.kept (t':=s.toks) λb o e=>by have nb:=Zj zi;exact x2 b o nb (s1.extBut b o nb IE)
 exact h a5 _ σ H [x,y] _ Q I1 rv hw
end
end L2
namespace K21
open PySem L2 Wb
abbrev sRings:Stmt:=top 59
def ordP(m i:Nat):Nat:=if i<2*m then(if i%2=0 then i/2 else m+i/2) else i
def nmP(zs:Ng)(m i:Nat):Str:=zs.getD (Ge i) ""
def cut_mid{xs:List V}{a b:Nat}(h:a≤b)(hb:b≤xs.length):N8 (some (a:Int)) (some (b:Int))=(xs.drop a).take (b-a):=by
 unfold cutV;have e1:QS 0 (some (a:Int))=a:=by rw[HT.sIx_nat];lia
 have e2:QS xs.length (some (b:Int))=b:=by rw[HT.sIx_nat];lia
 rw[e1,e2]
def nm_inn(h:k<m):ZW (2*k)=zs.getD k "" :=by unfold nmP ordP;rw[if_pos HB,if_pos HB,show 2*k/2=k by lia]
def nm_out(h:k<m):ZW (2*k+1)=zs.getD (m+k) "" :=by unfold nmP ordP;rw[if_pos HB,if_neg HB,show(2*k+1)/2=k by lia]
def nm_cap(h:2*m≤i):ZW i=zs.getD i "" :=by unfold nmP ordP;rw[if_neg HB]
def tr_inn(h:k<m):JT (2*k)=[2*m,2*VB k,2*k+1,2*((k+1)%m)+1,2*((k+1)%m)]:=by unfold trR;rw[if_pos HB,if_pos HB,show 2*k/2=k by lia]
def tr_out(h:k<m):JT (2*k+1)=[2*m+1,2*((k+1)%m)+1,2*k,2*VB k,2*VB k+1]:=by unfold trR;rw[if_pos HB,if_neg HB,show(2*k+1)/2=k by lia,Nat.add_sub_cancel]
def ord_lt(h7:m≤7)(h:i<2*m+2):Ge i<16:=by unfold ordP;split<;>(try split)<;>lia
def ord_inj(hi:i<2*m+2)(hj:j<2*m+2)(h:Ge i=Ge j):i=j:=by unfold ordP at h;split at h<;>split at h<;>(try split at h)<;>(try split at h)<;>lia
def nm_inj(nd:zs.Nodup)(hz:zs.length=16)(h7:m≤7)(hi:i<2*m+2)(hj:j<2*m+2)(h:ZW i=ZW j):i=j:=by have h1:=Hl hi;have h2:=Hl hj;unfold nmP at h;rw[Ze,Ze,Qb HB,Qb HB]at h;exact ord_inj hi hj ((Wf nd).mp h)
def innP(zs:Ng)(m:Nat):List Str:=(Sv m).map λk=>ZW (2*k)
def outP(zs:Ng)(m:Nat):List Str:=(Sv m).map λk=>ZW (2*k+1)
def inn_cut(h:m≤zs.length):(zs.map V.str).take m=(XJ m).map V.str:=by
 unfold innP;refine Kq (by simp;lia) λi h1 h2=>?_;have hi:i<m:=by rw[Qa,Qa,Yh]at h2;exact h2
 rw[Jr,Zl,Zl,Zl,Ub,nm_inn hi,Ze,Qb HB];rfl
def out_cut(h:2*m≤zs.length):((zs.map V.str).drop m).take m=(XL m).map V.str:=by
 unfold outP;refine Kq (by simp;lia) λi h1 h2=>?_;have hi:i<m:=by rw[Qa,Qa,Yh]at h2;exact h2
 rw[Jr,List.getElem_drop,Zl,Zl,Zl,Ub,nm_out hi,Ze,Qb HB];rfl
def cap_cut(h:2*m+2≤zs.length):((zs.map V.str).drop (2*m)).take 2=[RD (2*m),RD (2*m+1)]:=by rw[nm_cap Rf,nm_cap (Uo _),Ze,Ze,Qb HB,Qb HB];rw[Yu SY,Yu SY,Zl,Zl];rfl
def at_rg(h:k<m):atI (((Sv m).map f).map V.str) (k:Int)=some (EB (f k)):=by refine za0 ?_;rw[Qk,Qk,List.getElem?_range h];rfl
def at_rg'(h:k<m):atI (((Sv m).map f).map V.str) ((k:Int)-1)=some (EB (f (VB k))):=by
 have hl:(((Sv m).map f).map V.str).length=m:=by rw[Qa,Qa,Yh]
 rw[atI_prev (HP hl h),hl];have hb:pidx m k<m:=by unfold pidx;split<;>lia
 rw[Qk,Qk,List.getElem?_range hb];rfl
inductive TrI(zs:Ng)(m:Nat)(H3:Hp)(d:Nb)(c:Nat)(H':Hp):Prop
 |mk (es:List Ent) (ra:RAt H' d es) (rs:rsOf es=(List.range c).map λi=>(ZW i,(JT i).map Ag)) (kp:Keep [d] H3 H'):UW H3 d c H'
def TrI.k0(h:yY)(k:Keep [] H' H2):UW H3 d c H2:=by obtain⟨es,ra,rs,kp⟩:=h;exact⟨es,ra.keep k HA RA,rs,kp.trans (k.sub HA)⟩
def TrI.kp(h:yY):Keep [d] H3 H':=by obtain⟨_,_,_,kp⟩:=h;exact kp
def TrI.put(h:yY)(nd:zs.Nodup)(hz:zs.length=16)(h7:m≤7)(hc:c<2*m+2)(ha:H' a=some (HR (((JT c).map Ag).map V.str))) :
  ∃kv:List (Key×V),H' d=some (.dK kv)∧kv.length≤16∧UW H3 d (c+1) (U6 d (.dK (putK kv (SF (ZW c)) Sg))):=by
 obtain⟨es,ra,rs,kp⟩:=h;have bE:es.length=c:=by have:=congrArg List.length rs;unfold rsOf at this;rw[Qa,Qa,Yh]at this;exact this
 have hxn:ZW c∉es.map (·.1):=λz=>by rw[←zbw,rs,Zg]at z;obtain⟨i,hi,e⟩:=Qe.mp z;have ap:=Yz.mp hi;have:=nm_inj nd hz h7 HB hc e;lia
 refine⟨_,ra.dc,SY,es++[(ZW c,(JT c).map Ag,a)],rat_new ra hxn ha,?_,kp.trans SD⟩;rw[List.range_succ,Qp,←rs];unfold rsOf;rw[Qp];rfl
inductive IspRings(vs:List V)(H:Hp)(Q:VK):Prop
 |mk (l:Nb) (zs:Ng) (m:Nat) (h0:vs=[.ref l,.int (m:Int)]) (h1:H l=some (.lst (zs.map V.str))) (hn:zs.Nodup) (hl:zs.length=16) (h3:3≤m) (h7:m≤7)
  (h3:∀(d:Nb) (ai:List Ent) (H':Hp),H d=none→YZ ai→(∀x∈ai.map (·.1),x∈zs)→Keep [] H H'→Q C0 H'):IspRings vs H Q
def spRings:Sp:=λvs H Q _=>IspRings vs H Q
section
variable{P:Nk}{w:Nl}{K:Na}{mg:Nd}{base:Nn}
def zdy:zam [qN,qM,qR, "_law_inner", "_law_outer", "_law_top", "_law_ground", "_law_k", "_law_ahead"] [qN,qM] (zah sRings):=fsk
def ok_rings(F:QD "_law_two_rings" "_law_two_rings" sRings f fd)(ba:mg "range" = none)(ao:mg "list" = none)(tO:mg "reversed" = none):ZB 1 f fd [qN,qM] spRings:=by
 refine F.okL zdy HN;obtain⟨l,zs,m,rfl,hl,aE,bW,h3,h7,kq⟩:=h;have hu:=zb7 hr;have ar:=sizeLine_eq;refine⟨_,zad (NU zdy.nd zei)
  (zad (Xz zdy.nd (JI zdm yw))
  (zad (XA zdy.nd (JI yw wR))
  (zad (zdf (JI wR (zck (AW (Vz zai Rz)))) (pg_two rfl (zaj (BA zdy.nd) (Te (X5 zdy.nd)))))
  (zad (ZX (BE SQ) (Gv zdy.nd)
   (zad (zax 8 zdy.nd (KL (AW LK) Rz))
   (zad (UV (Ez Sn LK) (zbs (QP (zaa (Ez Sn yL) (wZ Sy CB Cn)))) rfl)
   (zaf (UV (Ez Sy LK) (zbs (W1 (zaa (Ez Sy CB) (wZ Sn yL (pv 4))))) rfl)))))
  (zad (UV SE (vw Tw) rfl)
  (zad (UV LI (pe_rev rfl Rg ao Rg tO Sy) rfl)
  (zaf Ad))))))),?_⟩
 intro d hd;have aN:(zs.map V.str).length=16:=by rw[Qa,bW]
 have k1:Keep [] H (ZR d (.dK [])):=Keep.new hd;have g1:(ZR d (.dK [])) d=some (.dK []):=zab;generalize ZR d (.dK [])=H1 at k1 g1;have aI:=k1 _ _ hl HA;refine⟨vG,vG,vG,l,vG,HL aI,λia hia=>?_⟩;rw[cut_to IO,inn_cut HB];have k2:Keep [] H1 (QA ia (HR ((XJ m).map V.str))):=Keep.new hia;have g2:(QA ia (HR ((XJ m).map V.str))) ia=some (HR ((XJ m).map V.str)):=zab;generalize QA ia (HR ((XJ m).map V.str))=H2 at k2 g2;have av:=k2 _ _ aI HA;have em:(2:Int)*(m:Int)=((2*m:Nat):Int):=by lia
 refine⟨vG,vG,vG,vG,_,vG,rfl,Rq ⟨HB,HB⟩,vG,l,vG,A0,λoa hoa=>?_⟩;rw[em,cut_mid HB IO,show 2*m-m=m by lia,out_cut HB];have k3:Keep [] H2 (wP oa ((XL m).map V.str)):=Keep.new hoa;have g3:(wP oa ((XL m).map V.str)) oa=some (HR ((XL m).map V.str)):=zab;generalize QI oa (HR ((XL m).map V.str))=H3 at k3 g3;have eR:=k3 _ _ av HA;refine⟨vG,vG,_,vG,rfl,Rq ⟨HB,HB⟩,vG,vG,_,vG,rfl,Rq ⟨HB,HB⟩,_,vG,rfl,vG,l,vG,HL eR,λca hca=>?_⟩;rw[em,show((2*m:Nat):Int)+2=((2*m+2:Nat):Int) by lia,cut_mid HB IO,show 2*m+2-2*m=2 by lia,cap_cut HB];refine⟨ca,_,vG,Ls,_,vG,_,vG,rfl,?_⟩;have k4:Keep [] H3 (Q4 ca (.lst [RD (2*m),RD (2*m+1)])):=Keep.new hca;generalize Q4 ca (.lst [RD (2*m),RD (2*m+1)])=H4 at k4;have gi:H4 ia=some (HR ((XJ m).map V.str)):=(LC k4) _ _ g2 HA;have go:H4 oa=some (HR ((XL m).map V.str)):=k4 _ _ g3 HA;have fU:Keep [] H1 H4:=(LY k3).trans k4;have gd:H4 d=some (.dK []):=fU _ _ g1 HA;have T0:UW H4 d 0 H4:=⟨[],⟨gd,λe he=>(by cases he),Zk⟩,rfl,Keep.refl⟩;have nid:ia∉[d]:=by simpa using za8 gi gd HJ
 have nod:oa∉[d]:=by simpa using za8 go gd HJ
 refine⟨vG,(m:Int),rfl,HB,HB,?_⟩;rw[Yv];refine zc3 (lo:=0) (λi σ H'=>Aj2 (Ex2 λx7 x8=>σ=[CW,HW (.int (m:Int)),Lb,HC ia,HC oa,S4 (ZW (2*m)),S4 (ZW (2*m+1)),x7,x8]) (UW H4 d (2*i) H'))
  ⟨⟨_,_,rfl⟩,T0⟩ ?_ ?_
 ·rintro i σ H5 hi ⟨⟨x7,x8,rfl⟩,T5⟩;have e0:(0:Int)+(i:Int)=(i:Int):=Int.zero_add _;rw[e0];have eon:((i:Int)+1)%(m:Int)=((Rm%m:Nat):Int):=by simp
  have qW:Rm%m<m:=NB HB;refine⟨vG,_,vG,rfl,vG,_,vG,rfl,(by show(0:Int)<m;lia),?_⟩;rw[eon];have ri:=tr_inn hi;have ro:=tr_out hi;generalize(i+1)%m=on at qW ri ro;have gi5:=Hm gi nid;have go5:=Hm go nod;refine⟨vG,vG,vG,_,vG,rfl,ia,_,_,vG,rfl,HL gi5,at_rg' hi,vG,vG,oa,_,_,vG,rfl,HL go5,xP,vG,vG,oa,_,_,vG,rfl,HL go5,at_rg qW,vG,vG,ia,_,_,vG,rfl,HL gi5,at_rg qW,(HG 5),λa6 h6=>?_⟩;have T6:UW H4 d (2*i) (QZ a6 (.lst [RD (2*m),RD (2*VB i),RD (2*i+1),RD (2*on+1),RD (2*on)])):=T5.k0 (HV h6);have g6:(QZ a6 (.lst [RD (2*m),RD (2*VB i),RD (2*i+1),RD (2*on+1),RD (2*on)])) a6=some (HR (((JT (2*i)).map Ag).map V.str)):=by rw[zab,ri];rfl
  generalize QZ a6 (.lst [RD (2*m),RD (2*VB i),RD (2*i+1),RD (2*on+1),RD (2*on)])=H6 at T6 g6;obtain⟨kv,dv,kl,T7⟩:=T6.put aE bW h7 HB g6;refine⟨vG,vG,vG,ia,_,_,vG,rfl,HL (T6.kp _ _ gi nid),xP,d,vG,DPut.k (k:=Sum.inr (ZW (2*i))) dv HB,?_⟩;generalize YY d (IX kv (2*i) a6)=H7 at T7;have gi7:=Hn gi nid;have go7:=Hn go nod;refine⟨vG,vG,vG,oa,_,_,vG,rfl,HL go7,at_rg qW,vG,vG,ia,_,_,vG,rfl,HL gi7,xP,vG,vG,_,vG,rfl,ia,_,_,vG,rfl,HL gi7,at_rg' hi,vG,vG,_,vG,rfl,oa,_,_,vG,rfl,HL go7,at_rg' hi,(HG 5),λa8 h8=>?_⟩;have T8:UW H4 d (2*i+1) (UL a8 (.lst [RD (2*m+1),RD (2*on+1),RD (2*i),RD (2*VB i),RD (2*VB i+1)])):=T7.k0 (HV h8);have g8:(UL a8 (.lst [RD (2*m+1),RD (2*on+1),RD (2*i),RD (2*VB i),RD (2*VB i+1)])) a8=some (HR (((JT (2*i+1)).map Ag).map V.str)):=by rw[zab,ro];rfl
  generalize UL a8 (.lst [RD (2*m+1),RD (2*on+1),RD (2*i),RD (2*VB i),RD (2*VB i+1)])=H8 at T8 g8;obtain⟨kv8,va,kl8,T9⟩:=T8.put aE bW h7 HB g8;exact⟨vG,vG,vG,oa,_,_,vG,rfl,HL (T8.kp _ _ go nod),xP,d,vG,DPut.k (k:=Sum.inr (ZW (2*i+1))) va HB,⟨_,vG⟩,by rw[show 2*Rm=2*i+1+1 by lia];exact T9⟩
 rintro σ H5 ⟨⟨x7,x8,rfl⟩,T5⟩;have rt:JT (2*m)=(Sv m).map (2*·):=by unfold trR;rw[if_neg HB,if_pos rfl]
 have rg:JT (2*m+1)=((Sv m).map λk=>2*k+1).reverse:=by unfold trR;rw[if_neg HB,if_neg HB]
 refine⟨vG,ia,vG,Sr (Hm gi nid),λa6 h6=>?_⟩;have T6:UW H4 d (2*m) (QZ a6 (HR ((XJ m).map V.str))):=T5.k0 (HV h6);have g6:(QZ a6 (HR ((XJ m).map V.str))) a6=some (HR (((JT (2*m)).map Ag).map V.str)):=by rw[zab,rt];unfold innP;rw[List.map_map,List.map_map,List.map_map];rfl
 generalize QZ a6 (HR ((XJ m).map V.str))=H6 at T6 g6;obtain⟨kv,dv,kl,T7⟩:=T6.put aE bW h7 HB g6;refine⟨vG,vG,d,vG,DPut.k (k:=Sum.inr (ZW (2*m))) dv HB,?_⟩;generalize YY d (IX kv (2*m) a6)=H7 at T7;refine⟨vG,oa,vG,HL (Hn go nod),λa8 h8=>?_⟩;have T8:UW H4 d (2*m+1) (UL a8 (.lst ((XL m).map V.str).reverse)):=T7.k0 (HV h8);have g8:(UL a8 (.lst ((XL m).map V.str).reverse)) a8=some (HR (((JT (2*m+1)).map Ag).map V.str)):=by rw[zab,rg,List.map_reverse,List.map_reverse];unfold outP;rw[List.map_map,List.map_map,List.map_map];rfl
 generalize UL a8 (.lst ((XL m).map V.str).reverse)=H8 at T8 g8;obtain⟨kv8,va,kl8,T9⟩:=T8.put aE bW h7 HB g8;refine⟨vG,vG,d,vG,DPut.k (k:=Sum.inr (ZW (2*m+1))) va HB,?_⟩;generalize Vc d (IX kv8 (2*m+1) a8)=H9 at T9;obtain⟨es,ra,rs,kp⟩:=T9;have bE:es.length=2*m+2:=by have:=congrArg List.length rs;unfold rsOf at this;rw[Qa,Qa,Yh]at this;exact this
 refine⟨vG,kq d es H9 hd ⟨ra,?_,HB⟩ (λx hx=>?_) λc o ec _=>kp c o (fU c o CH HA) (by simpa using W0 hd)⟩
 ·rw[rs];exact tr_good h3 h7 λi j hi hj e=>nm_inj aE bW h7 hi hj e
 rw[← zbw,rs,Zg]at hx;obtain⟨i,hi,rfl⟩:=Qe.mp hx;have ap:=Hl (Yz.mp hi);show zs.getD (Ge i) "" ∈ zs;rw[Ze,Qb HB];exact Qq _
abbrev sRounds:Stmt:=top 61
end
inductive IspRounds(K:Na)(vs:List V)(H:Hp)(Q:VK):Prop
 |mk (a:Nb) (ns:List Int) (mo:Nat) (h0:vs=[.ref a,.int (mo:Int)]) (h1:SqL K H a (ns.map V.int)) (h2:1≤mo) (h3:mo≤16)
  (h4:∀(d:Nb) (ai:List Ent) (H':Hp),H d=none→YZ ai→(∀x∈ai.map (·.1),zep x)→Keep [] H H'→Q C0 H'):Ho Q
def spRounds(K:Na):Sp:=λvs H Q _=>Ho Q
section
variable{P:Nk}{w:Nl}{K:Na}{mg:Nd}{base:Nn}
def zc6:zam [qS, "_law_most",qP,qN, "_law_way",qR, "_law_k"] [qS, "_law_most"] (zah sRounds):=fsk
def ok_rounds(F:QD "_law_rounds" "_law_rounds" sRounds f fd)(GP:ZI "_law_pot" ["_law_cell_here"] 1 spPot)(GC:ZI "_law_cell" [qS, "_law_k"] 1 (spCell K))(GT:ZI "_law_take" [qP,qM] 1 zg0)(GN:ZI "_law_names" [qP,qM] 2 spNames)(GR:ZI "_law_two_rings" [qN,qM] 1 spRings)(GU:ZI "_law_untied" [qR,qP] 2 zg1)(GG:ZI "_law_grown" [qP,qN] 2 spGrown)(GX:ZI "_law_crossed" [qR,qP] 3 zg1)(GL:ZI "_law_filled" [qR] 3 spFilled)(ba:mg "range" = none):ZB 4 f fd [qS, "_law_most"] (spRounds K):=by
 refine F.okL zc6 HN;obtain⟨a,ns,mo,rfl,hS,kW,bZ,kq⟩:=h;have ar:=sizeLine_eq;have aj:BY _:=hr.mono HH;have bh:VS _:=hr.mono HH;refine⟨_,zad (NU zc6.nd (pcl GP aj (Sa (Ek GC aj Ty))))
  (zad (Xz zc6.nd (pcl GN bh (ZU Ty)))
  (zad (XA zc6.nd (WA (ZU Ty)))
  (zad (zbg (JH zai Sw)
   (zad (NS zc6.nd (pcl GR aj (QC (Sa (YT zai (WA (ZU Ty)))))))
   (zad (ZX (BE (DB zae)) (X5 zc6.nd)
    (zaf (zbn (pcl GU bh (QP SR)))))
   (zaf Af))) zao)
  (zad (NS zc6.nd (pcl GG bh (zU (BQ Cn zdm (zck (YT zai (WA (ZU vy))))))))
  (zad (ZX (BE (DB zae)) (X5 zc6.nd)
    (zaf (zbn (pcl GX hr (QP SR)))))
  (zad (vp (JH zai Sw) (zaf (zbn (pcl GL hr PM))))
  (zaf Af))))))),?_⟩
 refine⟨vG,a,ns,0,rfl,hS,λc=>⟨c,rfl,λp b m H1 fC fB k1=>⟨vG,p,b,m,16,rfl,fB,HH,λnl zs b2 m2 H2 oo bW nj ni cr fnl k2=>⟨vG,p,b2,m2,4,rfl,cr,HH,HH,λwy b3 m3 H3 h30 h31 cG sH=>?_⟩⟩⟩⟩;have k3:=zbu sH;have nlp:nl≠p:=zg6 cr oo;have om:=k3 _ _ oo OD;have fV:Keep [] H H3:=λc o ec _=>by
  have ncp:c∉[p]:=by simpa using W0 fC
  exact k3 c o (k2 c o CH ncp) ncp
 have newp:∀{H4:Hp},Keep [p] H3 H4→Keep [] H H4:=λk c o ec _=>k c o (fV c o ec HA) (by simpa using W0 fC);refine⟨vG,rfl,vG,ite2 (λ_=>?_) (λ_=>?_)⟩
 ·refine⟨_,rfl,_,rfl,p,b3,m3,5,rfl,cG,HH,HH,λd4 b4 m4 H4 lB pY bK jO=>?_⟩;obtain⟨j4,rfl⟩:=Zx lB;have k4:=zbu jO;have kR:=k4 _ _ om OD;refine⟨_,vG,rfl,nl,zs,3+j4,rfl,kR,nj,bW,HB,HB,λd es H5 fd5 D5 nsub k5=>?_⟩;have aY:=bK.keep k5 HA;have npd:p≠d:=zac bK.1 fd5;refine⟨vG,p,b4,m4,5,rfl,aY,HH,HH,λd6 b6 m6 H6 h60 h61 bo sG=>?_⟩;have k6:=zbu sG;have D6:=D5.pot aY k6;have jc:Keep [] H H6:=newp ((CG O6).trans k6);have fd:H d=none:=zav (newp k4) fd5 HA;refine⟨d6,rfl,HB,HB,?_⟩;refine zc3 (lo:=0) (λi σ H'=>Aj3 (Ex1 λx6=>σ=[HC a,HW (.int (mo:Int)),zK,HC nl,SL wy,Lb,x6]) (Keep [d,p] H6 H') (Ex3 λ(ai:List Ent) (b' m':Int)=>YA (ai.map (·.1)=es.map (·.1))))
   ⟨⟨_,rfl⟩,Keep.refl,es,b6,m6,D6,bo,rfl⟩ ?_ ?_
  ·rintro i σ H7 hi ⟨⟨x6,rfl⟩,k7,qb,b7,m7,D7,bn,n7⟩;refine⟨vG,vG,p,d,b7,m7,qb,rfl,bn,D7,λb8 m8 fH H8 bY D8 n8 k8=>?_⟩;exact⟨⟨vG⟩,k7.trans k8,fH,b8,m8,D8,bY,n8.trans n7⟩
  rintro σ H7 ⟨⟨x6,rfl⟩,k7,qb,b7,m7,D7,bn,n7⟩;refine⟨vG,kq d qb H7 fd D7 (λx hx=>ni x (nsub x (n7▸hx))) λc o ec _=>k7 c o (jc c o ec HA) ?_⟩;simp;exact⟨W0 fd,W0 fC⟩
 refine⟨_,rfl,_,rfl,_,rfl,_,rfl,p,b3,m3,mo,rfl,cG,HB,HB,λd4 b4 m4 H4 lB pY bK jO=>?_⟩;obtain⟨j4,rfl⟩:=Zx lB;have k4:=zbu jO;have kR:=k4 _ _ om OD;refine⟨_,vG,rfl,vG,nl,vG,HL kR,λl5 de=>?_⟩;have aN:(zs.map V.str).length=16:=by rw[Qa,bW]
 rw[show(1:Int)+(j4:Int)=((1+j4:Nat):Int) from rfl,cut_to IO,←Je];have k5:Keep [] H4 (zu l5 ((CU (1+j4)).map V.str)):=Keep.new de;have g5:(zu l5 ((CU (1+j4)).map V.str)) l5=some (HR ((CU (1+j4)).map V.str)):=zab;generalize QQ l5 (HR ((CU (1+j4)).map V.str))=H5 at k5 g5;have aY:=bK.keep k5 HA;refine⟨p,l5,b4,m4,CU (1+j4),rfl,aY,g5,nj.sublist (Uy _ _),Rc Zo,λd b6 m6 es H6 fd6 bo D6 n6 k6=>?_⟩;have npd:p≠d:=zac aY.1 fd6;have hV:Keep [] H H5:=newp (CG O6);have fd:H d=none:=zav hV fd6 HA;have jc:Keep [] H H6:=newp ((CG O6).trans k6);refine⟨vG,p,b6,m6,25,rfl,bo,HH,HH,λd7 b7 m7 H7 rH rG bn mU=>?_⟩;have k7:=zbu mU;have D7:=Hj k7;have fT:Keep [] H H7:=λc o ec _=>k7 c o (jc c o ec HA) (by simpa using W0 fC);refine⟨d7,rfl,HB,HB,?_⟩;have fin:∀(ai:List Ent) (H':Hp),YZ ai→ai.map (·.1)=es.map (·.1)→Keep [d,p] H7 H'→Q C0 H':=λai H' D' n' k'=>by refine kq d ai H' fd D' (λx hx=>ni x (Ue (n6▸n'▸hx))) λc o ec _=>k' c o (fT c o ec HA) ?_;simp;exact⟨W0 fd,W0 fC⟩
 refine zc3 (lo:=0) (λi σ H'=>Aj3 (Ex1 λx6=>σ=[HC a,HW (.int (mo:Int)),zK,HC nl,SL wy,Lb,x6]) (Keep [d,p] H7 H') (Ex3 λ(ai:List Ent) (b' m':Int)=>YA (ai.map (·.1)=es.map (·.1))))
  ⟨⟨_,rfl⟩,Keep.refl,es,b7,m7,D7,bn,rfl⟩ ?_ ?_
 ·rintro i σ H8 hi ⟨⟨x6,rfl⟩,k8,fH,b8,m8,D8,bY,n8⟩;exact⟨vG,vG,p,d,b8,m8,fH,rfl,bY,D8,λb9 m9 v3 H9 oe D9 n9 k9=>⟨⟨vG⟩,k8.trans k9,v3,b9,m9,D9,oe,n9.trans n8⟩⟩
 rintro σ H8 ⟨⟨x6,rfl⟩,k8,fH,b8,m8,D8,bY,n8⟩;refine⟨vG,rfl,vG,ite2 (λ_=>?_) (λ_=>?_)⟩
 ·refine⟨vG,d,fH,rfl,D8,λv3 H9 D9 n9 k9=>⟨_,rfl,fin v3 H9 D9 (n9.trans n8) (k8.trans Ii)⟩⟩
 exact⟨vG,fin fH H8 D8 n8 k8⟩
abbrev sRows:Stmt:=top 62
end
def zfo(hK:X.K=K):YJ (.type "list") (λxs H Q=>Ex2 λp ys=>Aj3 (xs=[TB]) ((YH p ys)∨( SqT K H p ys)) (∀l,H l=none→Q SO (Lc l ys))):=hK▸zc7
inductive IspRows(vs:List V)(H:Hp)(Q:VK):Prop
 |mk (d:Nb) (es:List Ent) (h0:vs=[.ref d]) (h2:DrE H d es)
  (h3:∀(l:Nb) (as:No) (aB:List Ent) (H':Hp),RwAt H' l as aB→rsOf aB=rsOf es→H l=none→Keep [] H H'→Q SO H'):IspRows vs H Q
def spRows:Sp:=λvs H Q _=>IspRows vs H Q
section
variable{P:Nk}{w:Nl}{K:Na}{mg:Nd}{base:Nn}
def scRows:zam [qR] [qR] (zah sRows):=fsk
def ok_rows(F:QD "_law_rows" "_law_rows" sRows f fd)(ao:mg "list" = none):ZB 1 f fd [qR] spRows:=by
 refine F.okL scRows HM;obtain⟨d,es,rfl,D0,kq⟩:=h;have R:=D0.ra;have aS:=D0.few;have hu:=zb7 hr;have ar:=sizeLine_eq;refine⟨_,zaf (zas (zja (zdu (M:=["_law_place",qR]) (ix:=[none,yX]) (mkB scRows) rfl OB (λC a5 ex s H=>YX ndCr)
    (λC a5 ex s H=>zb1) (λC a5 ex s H=>zbq (ZP (zaa (zbc (zfo (K:=K) rfl) Rg (RY ao) Wl (Sa Th)) zae)))))),?_⟩
 have nfz:∀o' u',H d≠some Tl:=λo' u' z=>by rw[R.dc]at z;cases z
 have aN:(eWV es).length=es.length:=Qa ..;refine⟨_,rfl,d,_,rfl,R.dc,λo=>⟨λi m ys τ H'=>Ex2 λ(as:No) (aB:List Ent)=>Aj9 (m=es.length-i) (i≤es.length) (ys=as.map V.ref) (Ex1 λx=>τ=[x,Lb]) (H' d=some Py) (Paired (λa (e:Ent)=>H' a=some (.tup [Si,Tf])) as aB) (∀e∈aB,H' e.2.2=some HQ) (rsOf aB=rsOf (II i)) (Keep [d] H H'),
  ⟨es.length,[],[],HA,SW,rfl,⟨none,rfl⟩,zab,.nil,λe he=>(by cases he),rfl,L4⟩,?_⟩⟩
 rintro i m1 ys τ H1 ⟨as,aB,rfl,hi,rfl,⟨x0,rfl⟩,hz,aZ,ku,cD,k1⟩;have bM:aB.length=i:=by have:=congrArg List.length cD;unfold rsOf at this;rw[Qa,Qa,Zo]at this;lia
 have aT:as.length=i:=by rw[Zr aZ,bM]
 by_cases ad:i<es.length
 ·refine .inr ⟨⟨hz,by rw[aN];exact ad⟩,by rw[Qa];lia,?_⟩;rintro x H' ⟨rfl,pr,e1,rfl⟩;have g1:pr=((Sum.inr es[i].1:Key),V.ref es[i].2.2):=by rw[Qk,Qb ad]at e1;exact(Qo e1).symm
  subst g1;have aU:es[i]∈es:=Qq ad;have tk:es.take Rm=es.take i++[es[i]]:=Qh ad;generalize es[i]=e at aU tk;have du:=FM aU;have bJ:=k1 _ _ du (by simpa using za8 du R.dc HJ);refine⟨Si,rfl,vG,Si,rfl,d,Tf,rfl,Rq ⟨_,SK,SJ ⟨o,hz⟩,rfl,(zcb R.nd aU).symm⟩,e.2.2,vG,Sr bJ,λq hq=>⟨Tg,λt ht=>?_⟩⟩;have k2:Keep [] H' (WK (.tup [Si,HK q])):=(HV hq).trans Lw;have cp:(WK (.tup [Si,HK q])) t=some (.tup [Si,HK q]):=zab;have cb:(WK (.tup [Si,HK q])) q=some HQ:=by rw[zag (zac (o:=_) zab ht)];exact zab
  generalize WK (.tup [Si,HK q])=H2 at k2 cp cb;refine⟨_,Ra,as++[t],aB++[(e.1,e.2.1,q)],rfl,ad,by rw[Qp];rfl,⟨vG⟩,Ce hz,za1 (Paired.imp' (λa p h=>k2 _ _ h HA) aZ) (SA cp),λe' bi=>?_,?_,TX (k2.sub HA)⟩
  ·rcases Qm.mp bi with z|z
   ·exact k2 _ _ (ku e' z) HA
   rw[Qd.mp z];exact cb
  rw[tk];unfold rsOf at cD ⊢;rw[Qp,Qp,cD];rfl
 have bw:i=es.length:=by exact zar3 ‹_› ‹_›
 subst bw;refine .inl ⟨⟨hz,RN aN⟩,λD hD=>?_⟩;rw[Qr Rf]at cD;have ndD:d≠D:=VQ hD;refine⟨d,o,_,yD,nfz,?_⟩;have tk:∀{c:Nb} {u:HO},H1 c=some u→c≠d→(upd (QA D Sl) d Ry) c=some u:=λh n=>by rw[zag n,zag (yp h hD)];exact h
 have i9:H D=none:=FY hD (by simpa using Zm ndD);refine kq D as aB _ ⟨HZ yE zab,Paired.imp' (λa e h=>tk h (za8 h hz HJ)) aZ,λe he=>tk (ku e he) (za8 (ku e he) hz HJ)⟩ cD i9 λc u ec _=>?_;by_cases az:c=d
 ·subst az;rw[zab,←R.dc];exact ec
 exact tk (k1 c u ec wJ) az
end
end K21
namespace L2
open PySem PySem.Spec PyProof.Rows
def lc_map{K:Na}{g:TG}{te:TE}{Q:VK}{a:Nb}{τ:St}{H:Hp}{xs:List V}(T:St→Prop)(f:V→V)(ha:YE xs)(hn:xs.length≤sizeLine)(h0:T τ)(hs:∀x∈xs,∀τ,T τ→∀k:V→St→Hp→Prop,(∀τ2,T τ2→k (f x) τ2 H)→g x τ H λ τ2 H2=>te τ2 H2 λy H4=>k y τ2 H4)(q:∀D,H D=none→Q Td (Lc D (IC f))):Fu H:=by
 refine⟨λi m ys τ H1=>Aj5 (H1=H) (T τ) (m=xs.length-i) (i≤xs.length) (ys=(ED i).map f),⟨_,rfl,h0,rfl,SW,rfl⟩,?_⟩;rintro i m ys τ H1 ⟨rfl,ht,rfl,hi,rfl⟩;by_cases ad:i<xs.length
 ·refine .inr ⟨⟨xs,xs[i],ha,xN⟩,by rw[Qa,Zo];lia,?_⟩;rintro x H' ⟨rfl,hx⟩;have dX:=hx xs ha;rw[Qb ad]at dX;have jV:xs[i]=x:=Qo dX;exact hs x (jV▸Qq ad) τ ht (λy τ2 H4=>∃m',m'<xs.length-i∧Aj5 (H4=H') wB (m'=xs.length-Rm) (i+1≤xs.length) ((ED i).map f++[y]=(ED Rm).map f)) λ τ2 h2=>⟨_,Ra,rfl,h2,rfl,ad,by rw[Qh ad,Qp,jV];rfl⟩
 have e:i=xs.length:=by exact zar3 ‹_› ‹_›
 subst e;refine .inl ⟨⟨xs,ha,Rf⟩,λD hD=>?_⟩;rw[Qr Rf];exact q D hD
end L2
namespace K21
open PySem L2 Wb
structure HAt(H:Hp)(u:Nb)(hs:List (Str×Int)):Prop where
 dc:H u=some Ln
 nd:(hs.map (·.1)).Nodup
def zcx{hs:List Re}{x:Str}(h:x∉hs.map (·.1)):valV RC IH=none:=by
 induction hs with
 |nil=>rfl
 |cons a t ih=>
  rw[Qn,Qi,not_or]at h;rw[Qn,zbl]
  ·exact ih h.2
  intro q;exact h.1 (Wg q).symm
def zbf{hs:List Re}(nd:(hs.map (·.1)).Nodup){e:Str×Int}(h:e∈hs):valV (hs.map λe=>HI) SK=some (.int e.2):=by
 induction hs with
 |nil=>cases h
 |cons a t ih=>
  rw[Qn,Qt]at nd;rw[Qn];rcases Qi.mp h with z|z
  ·subst z;exact zcj rfl
  rw[zbl]
  ·exact ih nd.2 z
  intro q;exact nd.1 (by rw[Wg q];exact Qe.mpr ⟨e,z,rfl⟩)
def HAt.keep{H H':Hp}{u:Nb}{hs:List Re}{xs:No}(h:HAt H u hs)(k:W5 H')(hu:u∉xs):JZ u hs:=⟨k _ _ h.dc hu,h.nd⟩
def hueV(hs:List Re)(z:Str):V:=(valV RC ES).getD .non
def hueV_is(hs:List Re)(z:Str):Mv z=.non∨∃v,Mv z=.int v:=by
 unfold hueV;induction hs with
 |nil=>exact .inl rfl
 |cons a t ih=>
  rw[Qn];by_cases h:a.1=z
  ·rw[h,zcj rfl];exact .inr ⟨_,rfl⟩
  rw[zbl (λq=>h PY)];exact ih
def HAt.new{H:Hp}{u:Nb}{hs:List Re}(h:HAt H u hs){x:Str}(v:Int)(hx:x∉hs.map (·.1)):HAt (ZR u (.dK (putK RC IH (Rv v)))) u (hs++[(x,v)]):=by
 refine⟨by rw[zab,Gq (zcx hx),Qp];rfl,?_⟩;rw[Qp,Zb];refine⟨h.nd,C7 ⟨HA,Zk⟩,λy hy z hz e=>?_⟩;have dq:z=x:=by simpa using hz
 exact hx (by rw[←dq,←e];exact hy)
inductive IspPieceL(vs:List V)(H:Hp)(Q:VK):Prop
 |mk(d:Nb)(es:List Ent)(x:Str)(h0:vs=[.ref d,.str x])(h1:RAt H d es)(h2:es.length≤60)(h3:∀z y,y∈row (rsOf es) z→y∈es.map (·.1))(h4:x∈es.map (·.1))(h5:∀(l:Nb) (zs:Ng) (H':Hp),H' l=some (.lst (zs.map V.str))→zs.Nodup→zs.Pairwise leS→(∀y,y∈zs↔Conn (row (rsOf es)) x y)→H l=none→Keep [] H H'→Q (.ref l) H')
def spPieceL:Sp:=λvs H Q _=>IspPieceL vs H Q
section
variable{P:Nk}{w:Nl}{K:Na}{mg:Nd}{base:Nn}
def ok_pieceL(F:QD "piece_from" "piece_from" zh2 f fd)(aD:mg "sorted" = none):ZB 1 f fd ["rounds", "start"] spPieceL:=
 (ok_pieceG false F aD).imp λvs H Q E ⟨d,es,x,e,T,r1,r2,r3,r4⟩=>⟨d,es,x,e,⟨T.dc,T.ro,T.nd⟩,r1,r2,r3,r4⟩
structure HF(H:Hp)(u:Nb)(hs:List (Str×Int)):Prop where
 dc:H u=some Ln∨∃o,H u=some (TZ (.dK RC))
 nd:(hs.map (·.1)).Nodup
def HF.get(h:HF H u hs)(k:Key):Bp u (kV k) (valV RC k):=.inl ⟨_,k,h.dc,rfl,rfl⟩
def HF.keep(h:HF H u hs)(k:RH H):HF H' u hs:=⟨h.dc.imp (λe=>k _ _ e HA) λ⟨o,e⟩=>⟨o,O4 e⟩,h.nd⟩
def tw(hs:List Re)(h0 o:Int)(y:Str):Bool:=inV (Mv y) [TH h0,TH o]
def r2(es:List Ent)(hs:List Re)(h0 o:Int)(z:Str):List Str:=(ZJ z).filter (U' h0 o)
end
end K21
namespace L2
open PySem PySem.Spec PyProof.Rows
def pi_lstK{X:Cx}{K:Na}{tg l:Expr}{tl:TE}(hK:X.K=K)(hl:OY):YR l (iList K tl):=hK▸zan hl
def or_no{t u:TT}{A B:TS}{D:Ends}{σ:St}{H:Hp}(ht:∀k:Bool→Hp→Prop,k false H→t σ H k)(hu:∀k:Bool→Hp→Prop,k false H→u σ H k)(q:B D σ H):tIfS (tOr t u) A B D σ H:=
 ht _ (by
  show if(false=true) then _ else u σ H (λb H1=>if b=true then A D σ H1 else B D σ H1)
  exact iteF (hu _ (iteF q)))
end L2
namespace K21
open PySem L2 Wb
abbrev zi0:Stmt:=Di 2
abbrev zh3:Stmt:=top 18
def vltOf:Expr→Expr
 |.DictComp _ e _ _ _=>e
 |e=>e
def valH_is(hs:List Re)(z:Str):valV RC ES=none∨∃n,valV RC ES=some (Rv n):=by
 induction hs with
 |nil=>exact .inl rfl
 |cons a t ih=>
  rw[Qn];by_cases h:a.1=z
  ·rw[h,zcj rfl];exact .inr ⟨_,rfl⟩
  rw[zbl (λq=>h PY)];exact ih
def conn_two{es fs:List Ent}{hs:List Re}{h o:Int}{s:Str}{ws:Ng}(hZ:ws=(es.map (·.1)).filter (U' h o))(gT:∀ z y,y∈ZJ z→y∈es.map (·.1))(ar:s∈ws)(hf:∀z,row (LQ fs) z=if z∈ws then(ZJ z).filter λy=>decide (y∈ws) else[])(y:Str):Conn (Ih fs) s y↔DS y:=by
 constructor
 ·intro c;induction c with
  |refl=>exact .refl
  |@step z y _ hz ih=>
   rw[hf]at hz;split at hz
   ·have:=Zf.mp hz;have hy:=of_decide_eq_true this.2;rw[hZ]at hy;exact .step ih (Zf.mpr ⟨this.1,(O1 hy).2⟩)
   cases hz
 intro c
 suffices Conn (Ih fs) s y∧y∈ws from this.1
 induction c with
 |refl=>exact⟨.refl,ar⟩
 |@step z y _ hz ih=>
  have:=Zf.mp hz;have hy:y∈ws:=by rw[hZ];exact Zf.mpr ⟨gT z y this.1,this.2⟩
  exact⟨.step ih.1 (by rw[hf,if_pos ih.2];exact Zf.mpr ⟨this.1,RE hy⟩),hy⟩
inductive zil(C:Nb)(vs:List V)(H:Hp)(Q:VK):Prop
 |mk(x dx d:Nb)(es:List Ent)(e:Ent)(h0:vs=[.ref x,.str e.1])(h1:WAt H C x dx d es)(h2:e∈es)(h3:∀l,H l=none→Q (.ref l) (upd H l (.lst (e.2.1.map V.str))))
def zc1(C:Nb):Sp:=λvs H Q _=>zil C vs H Q
inductive IspChain(C:Nb)(vs:List V)(H:Hp)(Q:VK):Prop
 |mk (x dx d u:Nb) (es:List Ent) (hs:List (Str×Int)) (s:Str) (h o:Int) (h0:vs=[.ref x,.ref u,.str s,.int o]) (h1:WAt H C x dx d es) (h2:es.length≤40) (h2':∀e∈es,e.2.1.length≤100) (h3:∀z y,y∈row (rsOf es) z→y∈es.map (·.1)) (h4:HF H u hs) (h5:(s,h)∈hs) (h6:s∈es.map (·.1)) (h8:o≠h) (h9:0≤o)
  (h7:∀(l:Nb) (zs:Ng) (H':Hp),H' l=some Iv→zs.Nodup→zs.Pairwise leS→(∀y,y∈zs↔DS y)→H l=none→Keep [] H H'→Q SO H'):IspChain C vs H Q
def spChain(C:Nb):Sp:=λvs H Q _=>IspChain C vs H Q
def ndA:(["place", "hues", "two"]:List Str).Nodup:=by decide+kernel
abbrev csB:Scope:=scOf wS
def ndB:(["place", "web", "within"]:List Str).Nodup:=by decide+kernel
abbrev csD:Scope:=scOf (vltOf wS)
def csD_f{env:Env}(h:env.scope=zah zh3):∀y∈csD.names,y.2=.free→(OL csB).names.lookup y.1=some .cell∨(OL csB).names.lookup y.1=some .free:=by
 unfold relabel Env.kindOf;rw[h]
 decide+kernel
def csD_l:csD.names.lookup ("within" : Str)=some NameKind.free:=by decide+kernel
def ndD:(["beside", "within"]:List Str).Nodup:=by decide+kernel
section
variable{P:Nk}{w:Nl}{K:Na}{mg:Nd}{base:Nn}
def scRoundOf:zam ["self", "place"] ["self", "place"] (zah zi0):=fsk
def ok_roundof(F:QD "round_of" "Web.round_of" zi0 f fd)(cW:KW C)(nW:Mp "rounds")(ao:mg "list" = none):ZB 1 f fd ["self", "place"] OG:=by
 refine F.okL scRoundOf HM;obtain⟨x,dx,d,es,e,rfl,wt,he,k⟩:=h;have hu:=zb7 hr;refine⟨_,zad (Sb (w6 Rz P9))
  (zaf (zas (vw (Sa (MQ P9 Rz))))),?_⟩
 have g:=DGet.k (k:=Sum.inr e.1) wt.ta.dc;rw[zcb wt.ta.nd he]at g;exact⟨vG,vG,x,C,dx,_,vG,wt.ob,cW,nW,rfl,d,vG,g,vG,Z2 ⟨vG,x,C,dx,_,vG,wt.ob,cW,nW,rfl,vG,d,vG,g,e.2.2,vG,OQ (wt.ta.ro e he),k⟩⟩
def zfy:zam ["web", "hues", "start", "other", "two", "within", "rounds"] ["web", "hues", "start", "other"] (zah zh3):=fsk
def ok_chain(F:QD "chain" "chain" zh3 f fd)(cW:KW C)(nW:Mp "rounds")(mP:BF "places" fp)(bP:WE fdp ["self"] [])(GP:ZB 1 fp fdp ["self"] wA)(mR:BF "round_of" fr)(bR:WE fdr ["self", "place"] [])(GR:ZB 1 fr fdr ["self", "place"] OG)(GF:ZI "piece_from" ["rounds", "start"] 1 spPieceL) :
  FnOk P w K mg base CX0 2 f fd ["web", "hues", "start", "other"] (spChain C):=by
 refine F.okL zfy HN;obtain⟨x,dx,d,u,es,hs,s,h0,o,rfl,wt,aS,aW,gT,hh,tH,lV,hoh,ho,k⟩:=h;have hu:=zb7 hr;have aj:BY _:=hr.mono HH;have ar  :=sizeLine_eq;refine⟨_,zad (Em (w6 Ia Rz) (zd0 (w6 Ia P9)))
  (zad (Em (BP Cn (MQ Rz Ia) Pu) (zd0 (NP Cn zai Pu)))
  (zad (zfd (i:=4) zfy.nd rfl S8 (PV (MQ Rz Ss) Tw))
  (zad (zfd (i:=5) zfy.nd rfl S8 (zdu (M:=["place", "hues", "two"]) (ix:=[none,AG,HW 4]) (mkB zfy) rfl (EU (zjb (pl:=_) RQ cW mP GP aj bP .nil zcv)) (Eh YX ndA)
      (λC a5 ex s H=>zcp (xb (EG (RY hu) RQ) (zfz (zap (zc0 (K:=K) rfl) Th Ss rfl)))) Es))
  (zad (ps_dc (i:=6) (M:=["place", "web", "within"]) (ix:=[none,yX,HW 5]) zfy.nd rfl rfl (mkB zfy) rfl wT (λC a5 ex s H=>YX ndB)
      (λC a5 ex s H=>zb1) Es
      (λC a5 ex s H=>zdu (M:=["beside", "within"]) (ix:=[none,HW 2]) ⟨by rfl,by decide+kernel,by decide+kernel,csD_f rfl,rfl,ndD,λj i x h1 h2=>by
       match j,h1,h2 with
       |0,_,h2=>cases h2
       |1,h1,h2=>cases h1;cases h2;exact⟨rfl,csD_l⟩
       |n+2,h1,_=>cases h1⟩ rfl (pi_lstK (K:=K) rfl (zev (pl:=_) Rz cW mR GR (RY aj) bR .nil zcv Ta)) (Eh YX ndD)
       (λC a5 ex s H=>zcp (zap (zc0 (K:=K) rfl) RQ Rz rfl)) Es) rfl)
  (zaf (zas (pcl GF aj (W1 SR)))))))),?_⟩
 have aE:=wt.ta.nd;obtain⟨en,bE,uB⟩:=Qe.mp lV;have ph:en.1=s:=uB;have e7:valV RC (SF s)=some AZ:=W6 tH;have g1:∀{H':Hp},HF H' u hs→DGet H' u (EB s) (SL h0):=λ{H'} hh'=>by have:=hh'.get (SF s);rwa[e7]at this
 have g2:Bp d (EB s) IT:=by have:=DGet.k (k:=Sum.inr en.1) wt.ta.dc;rw[zcb aE bE,ph]at this;exact this
 have sZ:U' h0 o s=true:=by unfold tw hueV;rw[e7];show(_||_)=true;rw[Ke];exact .inl (Il h0)
 refine or_no (λk hk=>⟨_,rfl,_,rfl,u,_,rfl,g1 hh,_,rfl,hk⟩) (λk hk=>⟨_,rfl,_,rfl,x,C,dx,_,_,rfl,wt.ob,cW,nW,rfl,d,_,rfl,g2,_,rfl,hk⟩) ?_;dsimp only[tNext];refine or_no (λk hk=>⟨_,rfl,_,rfl,_,rfl,u,_,rfl,g1 hh,rfl,_,rfl,?_⟩) (λk hk=>⟨_,rfl,_,_,rfl,rfl,_,rfl,?_⟩) ?_
 ·rw[decide_eq_false (λe=>hoh (by injection e))];exact hk
 ·rw[decide_eq_false HB];exact hk
 refine⟨vG,vG,u,vG,g1 hh,vG,Tg,λtp fZ=>?_⟩;have k1:Keep [] H (ZR tp (.tup [AZ,Rv o])):=Keep.new fZ;have eB:(ZR tp (.tup [AZ,Rv o])) tp=some (.tup [AZ,Rv o]):=zab;generalize ZR tp (.tup [AZ,Rv o])=H1 at k1 eB;have sf:∀{H':Hp},Keep [] H H'→WJ es:=λkk=>wt.keep kk HA HA λ_ _=>by simp
 refine⟨vG,x,dx,vG,(sf k1).ob,rfl,x,dx,d,es,rfl,sf k1,λpl aH=>⟨pl,rfl,⟨_,Ls⟩,?_⟩⟩;have k2:Keep [] H (QA pl R6):=k1.trans (HV aH);have o7:(QA pl R6) pl=some R6:=zab;have cp:(QA pl R6) tp=some (.tup [AZ,Rv o]):=by rw[zag (yp eB aH)];exact eB
 generalize QA pl R6=H2 at k2 o7 cp;have uq:HF H2 u hs:=hh.keep k2;refine zf2 (xs:=(es.map (·.1)).map V.str) (λ τ=>∃x0,τ=[x0,some (.ref u),some (.ref tp)]) (λv=>match v with | .str z=>tw hs h0 o z|_=>false) (SqL.of o7) (by rw[Qa,Qa];lia) ⟨none,rfl⟩ ?_ (λwi hwi=>?_)
 ·rintro v hv τ ⟨x0,rfl⟩ q1 q0 h1 rM;obtain⟨z,hz,rfl⟩:=Qe.mp hv;have gz:=uq.get ES;refine⟨vG,vG,u,vG,gz,vG,?_⟩;rcases valH_is hs z with hn|⟨n,hn⟩
  ·rw[hn];exact iteF (iteF (rM (by show U' h0 o z=false;unfold tw hueV;rw[hn];rfl) _ ⟨_,rfl⟩))
  rw[hn]at gz ⊢;refine iteT ⟨_,rfl,_,rfl,u,_,rfl,gz,_,rfl,tp,_,rfl,OQ cp,rfl,rfl,_,rfl,?_⟩;have e2:(if false=true then !Bh [AZ,Rv o] else Bh [AZ,Rv o])=U' h0 o z:=by unfold tw hueV;rw[hn];rfl
  rw[e2];cases kj:U' h0 o z with
  |false=>exact iteF (rM kj _ ⟨_,rfl⟩)
  |true=>exact iteT ⟨_,rfl,h1 kj _ ⟨_,rfl⟩⟩
 have ew:((es.map (·.1)).map V.str).filter (λv=>match v with | .str z=>tw hs h0 o z|_=>false)=((es.map (·.1)).filter (tw hs h0 o)).map V.str:=Kd;rw[ew];obtain⟨ws,hZ⟩:∃ws,ws=(es.map (·.1)).filter (U' h0 o):=⟨_,rfl⟩;rw[←hZ];have dY:ws.Nodup:=hZ▸Wc Jg aE;have hwe:∀z∈ws,z∈es.map (·.1):=λz hz=>by rw[hZ]at hz;exact(O1 hz).1
 have dZ:ws.length≤es.length:=by have:=zcn dY hwe;rwa[Qa]at this
 have i5:s∈ws:=by rw[hZ];exact Zf.mpr ⟨lV,sZ⟩
 have k3:Keep [] H (QI wi Se):=k2.trans (HV hwi);have jW:(QI wi Se) wi=some Se:=zab;generalize QI wi Se=H3 at k3 jW;refine⟨vG,wi,rfl,⟨_,HL jW⟩,?_⟩;refine⟨λi m ys τ H'=>Aj5 (m=ws.length-i) (i≤ws.length) (∃x0,τ=[x0,IL,HC wi]) (RH H3) (Ex1 λ(fs:List Ent)=>Aj4 (ys=eWV fs) (rsOf fs=(ws.take i).map λz=>(z,(ZJ z).filter λy=>decide (y∈ws))) (∀e∈fs,H' e.2.2=some HQ) (∀e∈fs,H3 e.2.2=none)),
  ⟨_,rfl,SW,⟨none,rfl⟩,λ_ _ e _=>e,[],rfl,rfl,λe he=>(by cases he),λe he=>(by cases he)⟩,?_⟩
 rintro i m ys τ H4 ⟨rfl,hi,⟨x0,rfl⟩,k4,fs,rfl,cD,gf,i9⟩;have jt:fs.map (·.1)=ws.take i:=by rw[←zbw,cD,Zg];exact List.map_id _
 have gO:fs.length=i:=by have:=congrArg List.length jt;rw[Qa,Zo]at this;lia
 have iH:=k4 _ _ jW HA;by_cases ad:i<ws.length
 ·refine .inr ⟨⟨_,_,HL iH,by rw[Qk,xN];rfl⟩,by rw[Qa,gO];lia,?_⟩;rintro v H4 ⟨rfl,hv⟩;have aK:=hv _ (HL iH);rw[Qk,Qb ad]at aK;have nM:v=.str ws[i]:=(Qo aK).symm;subst nM;have hzw:ws[i]∈ws:=Qq ad;obtain⟨e,he,r9⟩:=Qe.mp (hwe _ hzw);have pf:e.1=ws[i]:=r9;have w4:=sf (LC k4);have tk:ws.take Rm=ws.take i++[ws[i]]:=Qh ad;have hzf:ws[i]∉fs.map (·.1):=by rw[jt];have:(ws.take Rm).Nodup:=V5 dY;rw[tk,Zb]at this;exact λz=>this.2.2 _ z _ Tk rfl
  have cF:ZJ ws[i]=e.2.1:=by rw[←pf];exact zay aE he
  have bM:=aW e he;refine⟨vG,vG,x,dx,vG,w4.ob,rfl,vG,x,dx,d,es,e,by rw[pf];rfl,w4,he,λl hl=>⟨l,rfl,⟨_,Ls⟩,?_⟩⟩;have k5:Keep [] H4 (QQ l HQ):=Keep.new hl;have de:(QQ l HQ) l=some HQ:=zab;generalize QQ l HQ=H5 at k5 de;have sW:=k5 _ _ iH HA;refine zf2 (xs:=e.2.1.map V.str) (λ τ=>∃x0,τ=[x0,some (.ref wi)]) (λv=>match v with | .str z=>decide (z∈ws)|_=>false) (SqL.of de) (by rw[Qa];lia) ⟨none,rfl⟩ ?_ (λq hq=>?_)
  ·rintro v hv τ ⟨x0,rfl⟩ q1 q0 h1 rM;obtain⟨z,hz,rfl⟩:=Qe.mp hv;refine⟨vG,vG,wi,vG,Sr sW,rfl,PH,vG,?_⟩;have e2:(if false=true then !VC (ws.map V.str) else VC (ws.map V.str))=decide (z∈ws):=zdb;rw[e2];cases hb:decide (z∈ws) with
   |false=>exact iteF (rM hb _ ⟨_,rfl⟩)
   |true=>exact iteT ⟨_,rfl,h1 hb _ ⟨_,rfl⟩⟩
  have eq:(e.2.1.map V.str).filter (λv=>match v with | .str z=>decide (z∈ws)|_=>false)=(e.2.1.filter λz=>decide (z∈ws)).map V.str:=Kd;rw[eq];refine⟨Sum.inr ws[i],rfl,ws.length-Rm,HB,rfl,ad,⟨vG⟩,(CG k5).trans Iw,fs++[(ws[i],e.2.1.filter λz=>decide (z∈ws),q)],put_new (r:=e.2.1.filter λz=>decide (z∈ws)) hzf,?_,λe' bi=>?_,λe' bi=>?_⟩
  ·rw[tk,Qp,← cD,← cF];unfold rsOf;rw[Qp];rfl
  ·rcases Qm.mp bi with z|z
   ·have:=k5 _ _ (gf e' z) HA;rw[zag (zac this hq)];exact this
   rw[Qd.mp z];exact zab
  rcases Qm.mp bi with z|z
  ·exact i9 e' z
  rw[Qd.mp z];exact zav (CG k5) hq HA
 have e:i=ws.length:=by lia
 subst e;rw[Qr Rf]at cD jt;refine .inl ⟨⟨_,HL iH,AK⟩,λdd ic=>?_⟩;have RF:RAt (QQ dd (Ig fs)) dd fs:=⟨zab,λe he=>by rw[zag (yp (gf e he) ic)];exact gf e he,HP jt dY⟩;have kf:Keep [] H (QQ dd (Ig fs)):=(LC k4).trans (HV ic);generalize QQ dd (Ig fs)=H6 at RF kf;have hfz:∀z,row (LQ fs) z=if z∈ws then(ZJ z).filter λy=>decide (y∈ws) else[]:=λz=>by
  by_cases hz:z∈ws
  ·rw[Sx hz];have hmem:(z,(ZJ z).filter λy=>decide (y∈ws))∈rsOf fs:=by rw[cD];exact Qe.mpr ⟨z,hz,rfl⟩
   exact zgb (p:=(z,(ZJ z).filter λy=>decide (y∈ws))) (by rw[zbw,jt];exact dY) hmem
  rw[So hz];exact zg4 (by rw[zbw,jt];exact hz)
 refine⟨vG,vG,dd,fs,s,rfl,RF,HB,λz y hy=>?_,HP jt i5,λl zs H7 bD cU cT cV fl k7=>k l zs H7 bD cU cT (λy=>(cV y).trans (conn_two hZ gT i5 hfz y)) (zav kf fl HA) (kf.trans k7)⟩;rw[hfz]at hy;split at hy
 ·rw[jt];exact of_decide_eq_true (O1 hy).2
 cases hy
abbrev sExIn:Stmt:=top 19
def ex(zs:Ng)(a b:Int)(hs:List Re):List Re:=hs.map λe=>(e.1,if e.1∈zs then(if e.2=a then b else a) else e.2)
def zhm(zs:Ng)(a b:Int)(hs:List Re):(Hq hs).map (·.1)=hs.map (·.1):=by unfold ex;rw[List.map_map];rfl
def ex_nil(a b:Int)(hs:List Re):ex [] a b hs=hs:=by unfold ex;rw[Yj (g:=id) λe _=>by simp];exact List.map_id _
def ex_put(nd:(hs.map (·.1)).Nodup)(he:e∈hs) :
  putK ((Hq hs).map λe=>HI) SK (Rv (if e.2=a then b else a))=(ex (zs++[e.1]) a b hs).map λe=>HI:=by
 unfold putK;rw[if_pos]
 ·unfold ex;rw[Zg,Zg,Zg];refine Yj λq hq=>?_;show(if(Sum.inr q.1:Key)=Sum.inr e.1 then((Sum.inr q.1:Key),TH (if e.2=a then b else a)) else(Cy,TH (if q.1∈zs then(if q.2=a then b else a) else q.2)))=(Cy,TH (if q.1∈zs++[e.1] then(if q.2=a then b else a) else q.2));by_cases h:q.1=e.1
  ·have hqe:q=e:=by obtain⟨i,hi,rfl⟩:=Zu hq;obtain⟨j,hj,rfl⟩:=Zu he;have:i=j:=(Wf (h₀:=by rw[Qa];exact hi) (h₁:=by rw[Qa];exact hj) nd).mp (by rw[Zl,Zl];exact h);subst this;rfl
   subst hqe;rw[if_pos rfl,if_pos ER]
  rw[if_neg λz=>h (Wg z)];by_cases hz:q.1∈zs
  ·rw[if_pos hz,if_pos (YG hz)]
  rw[if_neg hz,if_neg λz=>by
   rcases Qm.mp z with y|y
   ·exact hz y
   exact h (CI y)]
 rw[Yi];unfold ex;rw[Zg];exact⟨_,TW ⟨e,he,rfl⟩,HA⟩
inductive IspExIn(vs:List V)(H:Hp)(Q:VK):Prop
 |mk (u l:Nb) (hs:List (Str×Int)) (zs:Ng) (a b:Int) (h0:vs=[.ref u,.ref l,.int a,.int b]) (h1:HF H u hs) (h2:H l=some (.lst (zs.map V.str))) (h3:∀z∈zs,z∈hs.map (·.1)) (h3':hs.length≤40)
  (h4:∀(t:Nb) (H':Hp),H t=none→JZ t (Hq hs)→Keep [] H H'→Q Ll H'):IspExIn vs H Q
def spExIn:Sp:=λvs H Q _=>IspExIn vs H Q
def scExIn:zam ["hues", "places", "one", "other", "told", "place"] ["hues", "places", "one", "other"] (zah sExIn):=fsk
def ok_exin(F:QD "exchanged_in" "exchanged_in" sExIn f fd)(aO:mg "dict" = none):ZB 1 f fd ["hues", "places", "one", "other"] spExIn:=by
 refine F.okL scExIn HM;obtain⟨u,l,hs,zs,a,b,rfl,hh,hl,hzh,gG,k⟩:=h;have hu:=zb7 hr;have ar  :=sizeLine_eq;refine⟨_,zad (XA scExIn.nd (yM Ta))
  (zad (ZX wM (BA scExIn.nd)
   (zaf (BB Sy SE (pe_ifExp (BP (QT SE) Ss Sw) Sn Ss) rfl)))
  (zaf (zas Sy))),?_⟩
 refine⟨vG,u,vG,hh.dc,λt ht=>?_⟩;have k1:Keep [] H (ZR t Ln):=Keep.new ht;have eB:HAt (ZR t Ln) t (ex (CU 0) a b hs):=⟨by rw[zab,Kz,ex_nil],by rw[zhm];exact hh.nd⟩;generalize ZR t Ln=H1 at k1 eB;refine⟨_,rfl,l,rfl,⟨_,HL (w8 hl)⟩,za2 (xs:=zs.map V.str) (λi σ H'=>Aj3 (Ex1 λx5=>σ=[Cv,CW,SL a,SL b,AL,x5]) (JZ t (BG hs)) Cz)
  ⟨⟨_,rfl⟩,eB,k1⟩ (λi σ H' _ q=>SqL.of (q.3 _ _ hl HA)) ?_ ?_⟩
 ·rintro i v σ H2 hv ⟨⟨x5,rfl⟩,cp,k2⟩;have hi:i<zs.length:=by have:=(TJ hv).1;rwa[Qa]at this
  have nM:v=.str zs[i]:=by rw[Qk,Qb hi]at hv;exact(Qo hv).symm
  subst nM;obtain⟨e,he,ez⟩:=Qe.mp (hzh _ wH);have qa:e.1=zs[i]:=ez;have tk:zs.take Rm=zs.take i++[e.1]:=by rw[qa];exact Qh hi
  have hg:=(hh.keep k2).get SK;rw[W6 he]at hg;rw[←qa];have fin:∀v,v=(if e.2=a then b else a)→Aj3 (Ex1 λx5=>[HW (LZ u),CW,SL a,SL b,AL,EW]=[HW (LZ u),CW,SL a,SL b,AL,x5]) (HAt (QI t (.dK (putK ((BG hs).map λe=>HI) SK (Rv v)))) t (ex (CU Rm) a b hs)) (Keep [] H (QI t (.dK (putK ((BG hs).map λe=>HI) SK (Rv v))))):=λv hv=>by subst hv;refine⟨⟨vG⟩,⟨by rw[zab,ex_put hh.nd he,tk],by rw[zhm];exact hh.nd⟩,λc w' ec _=>?_⟩;rw[zag (W0 ht)];exact k2 c w' ec HA
  have ae:((BG hs).map λe=>HI).length<sizeLine:=by unfold ex;rw[List.length_map,List.length_map];lia
  refine⟨vG,vG,u,vG,hg,vG,rfl,vG,?_⟩;by_cases rj:e.2=a
  ·rw[RE (congrArg V.int rj)];exact iteT ⟨_,rfl,_,rfl,_,rfl,t,_,rfl,DPut.k (k:=Sum.inr e.1) cp.dc ae,fin b (by rw[if_pos rj])⟩
  rw[decide_eq_false (λq=>rj (by injection q))];exact iteF ⟨_,rfl,_,rfl,_,rfl,t,_,rfl,DPut.k (k:=Sum.inr e.1) cp.dc ae,fin a (by rw[if_neg rj])⟩
 rintro σ H2 ⟨⟨x5,rfl⟩,cp,k2⟩;rw[Qa,Qr Rf]at cp;exact⟨vG,k t H2 ht cp k2⟩
end
end K21
namespace HT
open PySem PyProof.Rows
inductive Alike:List Value→List Value→Bool→Prop
 |nil:Alike [] [] false
 |int {a t c u vs ws b}:Alike vs ws b→Alike (.int a t::vs) (.int c u::ws) (if a=c then b else decide (a<c))
 |str {x y:Str} {t u vs ws b}:Alike vs ws b→Alike (.str x t::vs) (.str y u::ws) (if x=y then b else decide (x.cps.toList<y.cps.toList))
def Alike.length(h:Alike vs ws b):vs.length=ws.length:=by
 induction h with
 |nil=>rfl
 |int _ ih=>rw[Qy,Qy,ih]
 |str _ ih=>rw[Qy,Qy,ih]
end HT
namespace HT
open PySem PyProof.Rows PySem.SeqAt PySem.MeetsSeq PySem.MeetsSeq2 PySem.MeetsSeq3
open PySem.AutoSeq1 (wpAny_loadPart')
def zhu(l b:Nb)(items items2:Array Value)(n n2:Nat)(dd vc:Option Addr)(sl sk:Array Tr)(B:Bool)(hi:VD B) :
  Meets (Builtin.«tuple.__lt__» ⟨[SO,EK],[]⟩) (λ_ R s=>s.heap.get? l=some {cls:=.type "tuple",dict:=dd,data:=.seq items n,slots:=sl}∧s.heap.get? b=some {cls:=.type "tuple",dict:=vc,data:=.seq items2 n2,slots:=sk}∧R (CZ (Oi B)) s):=
 .of_wp λprog w A R s h=>by
  obtain⟨hp,g,d,tk,os⟩:=s;obtain⟨hl,hb,h⟩:=h;have f2:=AutoSeq1.sub_tuple_tuple;have z1:items.size=items2.size:=by have:=hi.length;simpa using this
  wp_walk using wpAny_loadPart' hl,wpAny_loadPart' hb,wpAny_forIn_list _ (λrest b s'=>b.1=none∧s'=⟨hp,g,d,tk,os⟩∧∃(vs ws:Nj) (B':Bool),rest=vs.zip ws∧Alike vs ws B'∧R (CZ (Oi B')) ⟨hp,g,d,tk,os⟩) _
  case turn=>
   rintro⟨y,x⟩ rest b s' ⟨cu,rfl,vs,ws,B',hz,ha,hR⟩;cases ha with
   |nil=>rw[List.zip_nil_left]at hz;cases hz
   |@int a t c u vs ws B2 mx=>
    rw[Kg]at hz;injection hz with cC hrest;injection cC with hy hx;subst hy hx;obtain⟨e,he,oO⟩:=eqAt_int A.in1 ⟨hp,g,d,tk,os⟩ a t c u;refine wpAny_bind (he prog w _ _ ?_);cases e with
    |true=>rw[if_pos (oO.mp rfl)]at hR;wp_walk;exact⟨rfl,rfl,_,_,_,hrest,mx,hR⟩
    |false=>rw[if_neg (λq=>absurd (oO.mpr q) Zh)]at hR;have du:=rcLt_int A.in1 ⟨hp,g,d,tk,os⟩ a t c u prog w;wp_walk using du;exact⟨vG,HE hR⟩
   |@str x' y' t u vs ws B2 mx=>
    rw[Kg]at hz;injection hz with cC hrest;injection cC with hy hx;subst hy hx;have he:=Ux (A:=A.in1) (s:=⟨hp,g,d,tk,os⟩) x' t y' u;refine wpAny_bind (he prog w _ _ ?_);by_cases e:x'=y'
    ·rw[Sx e]at hR;rw[show(x'==y')=true from beq_iff_eq.mpr e];wp_walk;exact⟨rfl,rfl,_,_,_,hrest,mx,hR⟩
    rw[So e]at hR;rw[show(x'==y')=false from beq_eq_false_iff_ne.mpr e];have du:∀(E:Nc) (Q:Nc) (h:Q (.bool (decide (x'.cps.toList<y'.cps.toList))) ⟨hp,g,d,tk,os⟩),ZE A.in1 (xm (.str x' t) (.str y' u)) Q E ⟨hp,g,d,tk,os⟩:=λE Q h=>(PyProof.Rows.lt_str h:ZE A.in1 (Ap (.str x' t) (.str y' u)) Q E ⟨hp,g,d,tk,os⟩);wp_walk using du;exact⟨vG,HE hR⟩
  case fin=>
   rintro⟨b1,b2⟩ s' ⟨cu,rfl,vs,ws,B',hz,ha,hR⟩;simp only at cu;subst cu;have hv:B'=decide (items.size<items2.size):=by
    cases ha with
    |nil=>exact(S6 HB).symm
    |int _=>rw[Kg]at hz;cases hz
    |str _=>rw[Kg]at hz;cases hz
   rw[hv]at hR;wp_walk;exact⟨vG,by simpa[Builtin.Tuple.tupleCompareSizes] using hR⟩
  case h=>exact⟨rfl,rfl,items.toList,items2.toList,B,rfl,hi,h⟩
end HT
namespace HT
open PySem PyProof.Rows
section
variable{prog:Nk}{w:Nl}{A:Np}{E:Nc}{s:Ni}
def lt_tupA(hl:N3 l items)(hb:N3 b items2)(hi:VD B)(hu:A.units<cLine)(h:Q (Oi B) s):ZE A (Ap SO EK) Q E s:=by
 obtain⟨⟨cls,dd,data,sl⟩,ho,hc,n,hd⟩:=id hl;obtain⟨⟨cls2,vc,data2,sk⟩,dH,lm,n2,pB⟩:=id hb;simp only at hc hd lm pB;subst hc hd lm pB;exact richCompare_meets_room (op:=.Lt) ⟨_,ho,rfl⟩ ⟨_,dH,rfl⟩ PySem.F.slot_tuple_lt PySem.F.entry_tuple_lt (PySem.F.args_tuple_lt_2 _ _) (zhu l b items items2 n n2 dd vc sl sk B hi)
  ⟨ho,dH,show Value.bool B≠Value.notImplemented∧Q (Oi B) s from⟨(λx=>nomatch x),h⟩⟩ hu
end
end HT
namespace PySem
section
variable{prog:Nk}{w:Nl}{A:Np}{R:Nw}{I:Nb}{fp wr:No}{n:Nat}{P:Nat→Value→Prop}{St:Nat→Heap→Prop}
abbrev KpT(wr:No)(S:Nb)(h0 h:Nn):Prop:=∀b o,b∉wr→b≠S→h0.get? b=some o→h.get? b=some o
abbrev CmpT(prog:Nk)(w:Nl)(A:Np)(wr:No)(S:Nb)(h0:Nn)(P:Nat→Value→Prop)(bt:Nat→Nat→Bool):Prop:=
 ∀i j vi vj (s:Ni) (Q E:Nc),BS s.heap→P i vi→P j vj→Q (Oi (bt i j)) s→ZE A (xm vi vj) Q E s
def minT_go(W:J0 St)(bt:Nat→Nat→Bool)(h0:Nn)(S:Nb)(gS:Mw bt)(fg:S∉fp):∀ (k j:Nat) (s:Ni) (vb:Value) (c:Nat),n - (j+1)=k→j+1≤n→St (j+1) s.heap→P (LE j) vb →
  s.heap.get? S=some {cls:=.type "list",dict:=none,data:=.seq #[vb,vb] c,slots:=#[]}→BS s.heap→(∀v h' tk,P (LE (n-1)) v→BS h'→R (CZ v) {s with heap:=h',toks:=tk}) →
  codeAny Rb A (.builtin "min.loop" ⟨[CM,.none,OH],[]⟩) R s:=by
 have lA:S∉wr:=λh=>fg yr;have nm:(toString "min" ++ toString ".loop" : String) = "min.loop" :=by decide
 intro k;induction k with
 |zero=>
  intro j s vb c hk hj ay hb hS kp hR;have e:j+1=n:=by lia
  refine codeAny_builtin F.entry_min_loop (by rw[Yf Jn _];refine(show ZV _ (seqItems? OH >>= _) _ _ _ from wpAny_bind (JU ?_));refine(show ZV _ (tryCatch (Ay CM) _ >>= _) _ _ _ from wpAny_bind (wpAny_tryCatch (W.done s _ _ (e▸ay) λh' tk q=>?_)));refine(show ZV _ (updateSeq S (λ_=>#[]) >>= _) _ _ _ from wpAny_bind (wpAny_updateSeq (q S _ lA hS) rfl zW));exact hR vb _ tk (by rw[←e];exact hb) λb o hw hs z=>(X0 (Zm hs)).trans wU)
 | succ k ih=>
  intro j s vb c hk hj ay hb hS kp hR;have lt:j+1<n:=by lia
  refine codeAny_builtin F.entry_min_loop (by
   rw[Yf Jn _];refine (show ZV _ (seqItems? OH >>= _) _ _ _ from wpAny_bind (JU ((show ZV _ (tryCatch (Ay CM) _ >>= _) _ _ _ from wpAny_bind (wpAny_tryCatch (W.item (j+1) s _ _ lt ay λv h' tk hP eF q=>?_))))));have cv:=q S _ lA hS;have mV:BS h':=λb o hw hs z=>q b o hw (DC z);refine (show ZV _ (tryCatch (holding [v,v] (richCompare .Lt v vb >>= _)) _ >>= _) _ _ _ from wpAny_bind (wpAny_tryCatch (vz (Sd (gS (j+1) (LE j) v vb _ _ _ mV hP hb (wpAny_bind (vz (wpAny_truthy_bool zW))))))));cases hq:bt (j+1) (LE j) with
   | true=>
    rw[if_pos rfl];refine wpAny_bind (DD (Sd (wpAny_letGo ?_)));rw[nm];have gU:argBest bt (j+1)=j+1:=if_pos hq;exact wpAny_pure ⟨plainId_quiet Jn _,ih (j+1) _ v _ HB lt (NF eF λb hf o z=>(X0 (λh:S=b=>fg (HP h hf))).trans z) (HP gU hP) (Wq _ cv rfl)
     (λb o hw hs z=>(X0 (Zm hs)).trans (mV b o hw hs z)) λv' pZ fP p z=>hR v' pZ fP p z⟩
   |false=>rw[if_neg Zh];refine wpAny_bind (wpAny_letGo ?_);rw[nm];have gU:argBest bt (j+1)=argBest bt j:=if_neg (by rw[hq];decide);exact wpAny_pure ⟨CS Jn,ih (j+1) _ vb c HB lt eF (HP gU hb) cv mV λv' pZ fP p z=>hR v' pZ fP p z⟩)
def minT_first(W:J0 St)(bt:Nat→Nat→Bool)(h0:Nn)(S:Nb)(gS:Mw bt)(fg:S∉fp)(hn:0<n)(ay:St 0 s.heap)(hS:s.heap.get? S=some {cls:=.type "list",dict:=none,data:=.seq #[] c,slots:=#[]})(kp:BS s.heap)(hR:∀v h' tk,P (LE (n-1)) v→BS h'→R (CZ v) {s with heap:=h',toks:=tk}) :
  codeAny Rb A (.builtin "min.loop" ⟨[CM,.none,OH],[]⟩) R s:=by
 have lA:S∉wr:=λh=>fg yr;have nm:(toString "min" ++ toString ".loop" : String) = "min.loop" :=by decide
 refine codeAny_builtin F.entry_min_loop (by
  rw[Yf Jn _];refine(show ZV _ (seqItems? OH >>= _) _ _ _ from wpAny_bind (JU ?_));refine(show ZV _ (tryCatch (Ay CM) _ >>= _) _ _ _ from wpAny_bind (wpAny_tryCatch (W.item 0 s _ _ hn ay λv h' tk hP eF q=>?_)));have cv:=q S _ lA hS;refine(show ZV _ (updateSeq S (λ_=>#[v,v]) >>= _) _ _ _ from wpAny_bind (DD ?_));rw[nm];exact wpAny_pure ⟨plainId_quiet Jn _,minT_go W bt h0 S gS fg _ 0 _ v _ rfl hn (NF eF λb hf o z=>(X0 (λh:S=b=>fg (HP h hf))).trans z) hP (Wq _ cv rfl)
   (λb o hw hs z=>(X0 (Zm hs)).trans wU) λv' pZ fP p z=>hR v' pZ fP p z⟩)
end
section
variable{prog:Nk}{w:Nl}{A:Np}{E:Nc}{s:Ni}
def call_minT(h:ZE A.in1 (Oj x) (λit s₂=>∃I fp wr n P St bt,it=.ref I∧J0 St∧St 0 s₂.heap∧(∀b∈fp,b<s₂.heap.objs.size)∧0<n ∧
   CmpT prog w A.in1 wr s₂.heap.objs.size s₂.heap P bt∧∀v h' tk,P (LE (n-1)) v→(∀b o,b∉wr→s₂.heap.get? b=some o→h'.get? b=some o)→Q v {s₂ with heap:=h',toks:=tk}) E s) :
  wpAny Rb A (call (.builtin "min") [x]) Q E s:=by
 have nm:(toString "min" ++ toString ".loop" : String) = "min.loop" :=by decide
 refine call_function_tree F.kind_min F.plain_min F.entry_min (F.args_min1 _) (show ZV _ (Builtin.Builtins.bindParams "min" ["key", "default"] 0 ⟨[],[]⟩ >>= _) _ _ _ from wpAny_bind (wpAny_of_eq (show Builtin.Builtins.bindParams "min" ["key", "default"] 0 ⟨[],[]⟩=pure [none,none] from rfl) (Sd Rw)));refine wpAny_bind (N0 (λit s₂ ⟨I,fp,wr,n,P,St,bt,e,W,ay,hfp,hn,gS,hQ⟩=>?_) λ_ _ e=>e);subst e;refine wpAny_bind (wpAny_newObj_type ?_);rw[nm];exact wpAny_pure ⟨plainId_quiet Jn _,minT_first W bt s₂.heap s₂.heap.objs.size gS (λhm=>We _ (hfp _ hm)) hn (NF ay λb _ o e=>WF e) To (λb o _ _ z=>WF z)
  λv h' tk hP hk=>hQ v h' tk hP λb o hw e=>hk b o hw Cl e⟩
end
end PySem
namespace L2
open PySem PySem.Spec PyProof.Rows
def ltK(k l:Nat×Str):Bool:=if(k.1:Int)=(l.1:Int) then(if k.2=l.2 then false else decide (k.2.cps.toList<l.2.cps.toList)) else decide ((k.1:Int)<(l.1:Int))
def leK(k l:Nat×Str):Prop:=k.1<l.1∨k.1=l.1∧leS k.2 l.2
def ltK_irrefl(k:Nat×Str):ltK k k=false:=by unfold ltK;rw[if_pos rfl,if_pos rfl]
def ltK_iff:ltK k l=true↔k.1<l.1∨k.1=l.1∧k.2.cps.toList<l.2.cps.toList:=by
 unfold ltK;by_cases h:(k.1:Int)=(l.1:Int)
 ·have h':k.1=l.1:=by lia
  rw[if_pos h];by_cases h2:k.2=l.2
  ·rw[Sx h2,h2];refine⟨λz=>(by cases z),λz=>?_⟩;rcases z with z|z
   ·lia
   exact absurd z.2 (Uf _)
  rw[So h2,decide_eq_true_eq];exact⟨λz=>.inr ⟨h',z⟩,λz=>z.elim (λy=>by lia) (·.2)⟩
 rw[So h,decide_eq_true_eq];exact⟨λz=>.inl HB,λz=>z.elim (λy=>by lia) λy=>absurd (congrArg Int.ofNat y.1) h⟩
def ltK_trans(h1:ltK a b=true)(h2:ltK b c=true):ltK a c=true:=by
 rw[ltK_iff]at h1 h2 ⊢;rcases h1 with h1|⟨e1,h1⟩
 ·rcases h2 with h2|⟨e2,_⟩
  ·exact .inl (Uk h1 h2)
  exact .inl (e2▸h1)
 rcases h2 with h2|⟨e2,h2⟩
 ·exact .inl (e1▸h2)
 exact .inr ⟨e1.trans e2,List.lt_trans h1 h2⟩
def leK_of(h:¬ltK l k=true):leK k l:=by
 rw[ltK_iff]at h;rcases Nat.lt_trichotomy k.1 l.1 with z|z|z
 ·exact .inl z
 ·exact .inr ⟨z,λy=>h (SJ ⟨z.symm,y⟩)⟩
 exact absurd (Rq z) h
def leS_antisymm(h1:leS x y)(h2:leS y x):x=y:=Tm.str_ext (List.le_antisymm (Oy h1) (Oy h2))
theorem zea(bt:Nat→Nat→Bool)(hi:∀i,bt i i=false)(ht:∀i j k,bt i j=true→bt j k=true→bt i k=true):∀k j,j≤k→¬bt j (LE k)=true
 |0,j,h=>by
  have:j=0:=by lia
  subst this;show ¬bt 0 0=true;rw[hi];decide
 | k+1,j,h=>by
  show ¬bt j (if bt (k+1) (LE k)=true then k+1 else argBest bt k)=true;by_cases ad:bt (k+1) (LE k)=true
  ·rw[Sx ad];by_cases hj:j=k+1
   ·subst hj;rw[hi];decide
   exact λz=>Hr HB (ht _ _ _ z ad)
  rw[So ad];by_cases hj:j=k+1
  ·subst hj;exact ad
  exact Hr HB
section
variable{X:Cx}
abbrev KAt(H:Hp):List Addr→List (Nat×Str)→Prop:=Paired λa k=>H a=some (.tup [Rv (k.1:Int),.str k.2])
def kat_at(r:KAt H as ks)(hi:i<as.length):i<ks.length∧H as[i]=some (.tup [Rv ((ks.getD i (0,Str.empty)).1:Int),.str (ks.getD i (0,Str.empty)).2]):=by
 induction r generalizing i with
 |nil=>exact absurd hi (Kv _)
 |cons h t ih=>
  cases i with
  |zero=>exact⟨Nat.zero_lt_succ _,h⟩
  |succ j=>obtain⟨a,b⟩:=ih (i:=j) (Ul hi);exact⟨Nat.succ_lt_succ a,b⟩
def call_min_is(hc:X.calm=true)(hu:X.A.units+1<cLine):YJ (.builtin "min") (λxs H Q=>Ex3 λ(p:Nb) (as:No) (ks:S1 (Nat×Str))=>Aj5 (xs=[TB]) (Q9 p E8) (KAt H as ks) (ks≠[]) (∀a k,k∈ks→H a=some (.tup [Rv (k.1:Int),.str k.2])→(∀k'∈ks,leK k k')→Q Sg H)):=by
 intro a5 s σ H xs us Q I r h;obtain⟨p,as,ks,rfl,hq,hk,au,q⟩:=h;obtain⟨u,rfl,rx⟩:=vals1 r;cases rx;have dw:0<ks.length:=Jf.mpr au;have aT:as.length=ks.length:=Zr hk;refine call_minT (MG hq λa7 It h1 rv W st lt keep=>⟨It,_,_,_,_,_,λi j=>ltK (ks.getD i (0,Str.empty)) (ks.getD j (0,Str.empty)),rfl,W,st,lt,?_,λi j vi vj s' Q' E' kp hi hj cZ=>?_,λv h' tk hv k=>?_⟩)
 ·have:=rv.length;rw[Qa]at this;rw[Qv];lia
 ·have hl:=rv.length;rw[Qa]at hl;have I':=keep s'.heap s'.toks λb o hb e=>kp b o hb Cl e;have gs:∀(i:Nat) (v:Value),a7.toArray[i]?=some v→∃a n t y u,v=.ref a∧IsTup s'.heap a #[Po n,.str y u]∧n=((ks.getD i (0,Str.empty)).1:Int)∧y=(ks.getD i (0,Str.empty)).2:=λi v e=>by
   have e':a7[i]?=some v:=by simpa using e
   have hi:i<a7.length:=(TJ e').1;have am:i<as.length:=by lia
   obtain⟨u,e2,e3⟩:=rv.get (i:=i) (x:=.ref as[i]) (by simp[am]);rw[e']at e2;cases e2;cases e3;obtain⟨_,aQ,r2,o,e1,c,n,d⟩:=I'.hok _ _ (kat_at hk am).2;obtain⟨u1,u2,rfl,⟨t1,rfl⟩,⟨t2,rfl⟩⟩:=vals2 r2;exact⟨_,_,t1,_,t2,rfl,⟨o,e1,c,n,d⟩,rfl,rfl⟩
  obtain⟨a,n,t,y,u,rfl,h1,rfl,rfl⟩:=gs i vi hi;obtain⟨a',n',t',y',u',rfl,h2,rfl,rfl⟩:=gs j vj hj;exact HT.lt_tupA h1 h2 (Rv (.str .nil)) hu cZ
 have hl:=rv.length;rw[Qa]at hl;have cM:=argBest_lt (bt:=λi j=>ltK (ks.getD i (0,Str.empty)) (ks.getD j (0,Str.empty))) (a7.toArray.size-1);have least:=zea (λi j=>ltK (ks.getD i (0,Str.empty)) (ks.getD j (0,Str.empty))) (λi=>ltK_irrefl _) (λi j k=>ltK_trans) (a7.toArray.size-1);generalize argBest (λi j=>ltK (ks.getD i (0,Str.empty)) (ks.getD j (0,Str.empty))) (a7.toArray.size-1)=b at hv cM least;rw[Qv]at cM least;have bv:b<as.length:=by lia
 have aK:a7[b]?=some v:=by simpa using hv
 obtain⟨u,e2,e3⟩:=rv.get (i:=b) (x:=.ref as[b]) (by simp[bv]);rw[aK]at e2;cases e2;cases e3;obtain⟨f7,f8⟩:=kat_at hk bv;have g1:ks.getD b (0,Str.empty)=ks[b]:=by simp[List.getD,f7]
 rw[g1]at f8;refine⟨.ref as[b],H,K' k,rfl,q _ ks[b] (Qq f7) f8 λk' oI=>?_⟩;obtain⟨j,hj,rfl⟩:=Zu oI;have:=least j HB;have g2:ks.getD j (0,Str.empty)=ks[j]:=by simp[List.getD,hj]
 rw[g1,g2]at this;exact leK_of this
def zg9(hu:X.A.units<cLine):WP (λx y H Q=>Ex3 λl b zs=>Aj5 (x=.ref l) (y=.ref b) (Q9 l (Bt zs)) (Q9 b (Bt zs)) (Q LP H)):=by
 intro a5 s σ H x y v u Q I rx ry h;obtain⟨l,b,zs,rfl,rfl,h1,h2,q⟩:=h;cases rx;cases ry;obtain⟨a7,r,pl,_⟩:=I.list h1;obtain⟨aQ,r2,hJ,_⟩:=I.list h2;have l1:=r.length;have l2:=r2.length;refine SeqAt.RcNeAt.lists (e:=λ_=>true) pl.isList hJ.isList (by rw[Qv,Qv];lia) hu (λj j1 j2=>?_) _ _ _ _ ⟨LP,H,I,?_,q⟩
 ·have a1:j < (Bt zs).length:=by rw[l1];simpa using j1
  have a2:j<zs.length:=by simpa using a1
  have g:(Bt zs)[j]?=some (.str zs[j]):=by simp[a2]
  obtain⟨u1,e1,t1,rfl⟩:=r.get g;obtain⟨u2,e2,t2,rfl⟩:=r2.get g;rw[Jb,Jb,(TJ e1).2,(TJ e2).2];have:=Ux (A:=X.A.in1) (s:=s) zs[j] t1 zs[j] t2;rw[beq_self_eq_true]at this;exact this
 show Value.bool _=Value.bool false;simp
end
end L2
namespace Wb
open PySem L2
def dg(r:Nq)(D:Ng)(y:Str):Nat:=((r y).filter λz=>decide (z∉D)).length
structure Pre(ns:Ng)(r:Nq)(D:Ng):Prop where
 sub:∀x∈D,x∈ns
 nd:D.Nodup
 le:∀(i:Nat) (h:i<D.length),∀z∈ns,z∉D.take i→leK (JB (D.take i) D[i],D[i]) (JB (D.take i) z,z)
structure IsOrder(ns:Ng)(r:Nq)(T:Ng):Prop extends Pre ns r T where
 pm:T.Perm ns
section
variable{ns qu T T' D:Ng}{r r':Nq}
def zey{l:Ng}(nd:l.Nodup){i:Nat}(h:i<l.length):l[i]∉l.take i:=λz=>by have h2:(l.take Rm).Nodup:=V5 nd;rw[Qh h,Zb]at h2;exact h2.2.2 _ z _ Tk rfl
def Pre.nil:MT []:=⟨λx hx=>(by cases hx),Zk,λi h=>absurd h (Kv _)⟩
def Pre.snoc(P:MT D){y:Str}(hy:y∈ns)(qD:y∉D)(hl:∀z∈ns,z∉D→leK (YD y,y) (YD z,z)):MT (D++[y]):=by
 refine⟨λx hx=>?_,?_,λi h=>?_⟩
 ·rcases Qm.mp hx with z|z
  ·exact P.sub x z
  rw[Qd.mp z];exact hy
 ·rw[Zb];exact⟨P.nd,Xt _ _,λa ha b hb e=>qD (by rw[←Qd.mp hb,←e];exact ha)⟩
 rw[Za,Kp]at h;by_cases hi:i<D.length
 ·rw[List.take_append_of_le_length (Ud hi),List.getElem_append_left hi];exact P.le i hi
 have hi:i=D.length:=by lia
 subst hi;rw[List.take_append_of_le_length Rf,Qr Rf,List.getElem_append_right Rf];simp only[Ky,List.getElem_singleton];exact hl
def Pre.order(P:MT D)(nd:ns.Nodup)(all:∀x∈ns,x∈D):IsOrder ns r D:=⟨P,(Ju P.nd nd).mpr λx=>⟨P.sub x,all x⟩⟩
def dg_snoc(rn:∀x,(r x).Nodup)(sy:∀x y,y∈r x→x∈r y){x:Str}(hx:x∉D)(y:Str):(dg r D y:Int)-(if y∈r x then 1 else 0)=(JB (D++[x]) y:Int):=by
 have e:(r y).filter (λz=>decide (z∉D++[x]))=((r y).filter λz=>decide (z∉D)).erase x:=by rw[List.Nodup.erase_eq_filter ((rn y).filter _),List.filter_filter];apply Xi;intro z _;rw[Wd];simp only[decide_eq_true_eq,Qm,Qd,not_or,Jh,bne_iff_ne];exact⟨λh=>⟨h.2,h.1⟩,λh=>⟨h.2,h.1⟩⟩
 unfold dg;rw[e];by_cases h:y∈r x
 ·have hm:x∈(r y).filter λz=>decide (z∉D):=Zf.mpr ⟨sy _ _ h,HE hx⟩;have hp:=Ym hm;rw[if_pos h,Yk hm];lia
 have hm:x∉(r y).filter λz=>decide (z∉D):=λz=>h (sy _ _ (O1 z).1);rw[if_neg h,List.erase_of_not_mem hm];lia
def dg_nil(r:Nq)(y:Str):JB [] y=(r y).length:=by unfold dg;rw[List.filter_eq_self.mpr λz _=>by simp]
def sorted_one:∀ {l m:Ng},l.Perm m→l.Pairwise leS→m.Pairwise leS→l=m:=by
 intro l;induction l with
 |nil=>intro m h _ _;exact(List.Perm.nil_eq h)
 | cons a t ih=>
  intro m h p q;cases m with
  |nil=>exact absurd h.length_eq HA
  | cons b u=>
   rw[Kh]at p q;have e:a=b:=by
    have h1:b∈a::t:=h.mem_iff.mpr Qc;have h2:a∈b::u:=h.mem_iff.mp Qc;rcases Qi.mp h1 with z|z
    ·exact z.symm
    rcases Qi.mp h2 with y|y
    ·exact y
    exact leS_antisymm (p.1 b z) (q.1 a y)
   subst e;rw[ih ((List.perm_cons a).mp h) p.2 q.2]
end
end Wb
namespace K21
open PySem L2 Wb
abbrev sOrder:Stmt:=top 21
def cnt(ks:Ng)(F:Str→Int):List (Key×V):=ks.map λy=>((Sum.inr y:Key),TH (F y))
def cnt_out{ks:Ng}{F:Str→Int}{x:Str}(h:x∉ks):valV (MU F) IH=none:=by
 unfold cnt;induction ks with
 |nil=>rfl
 |cons a t ih=>
  rw[Qi,not_or]at h;rw[Qn,zbl]
  ·exact ih h.2
  intro q;exact h.1 (Wg q).symm
def cnt_in{ks:Ng}{F:Str→Int}{x:Str}(h:x∈ks):valV (MU F) IH=some (Rv (F x)):=by
 unfold cnt;induction ks with
 |nil=>cases h
 |cons a t ih=>
  rw[Qn];by_cases e:a=x
  ·rw[zcj (by rw[e]),e]
  rw[zbl (λq=>e PY)];rcases Qi.mp h with z|z
  ·exact absurd z.symm e
  exact ih z
def cnt_new{ks:Ng}{F:Str→Int}{x:Str}(h:x∉ks):Mx (Rv (F x))=cnt (ks++[x]) F:=by rw[Gq (cnt_out h)];unfold cnt;rw[List.map_append];rfl
def cnt_put{ks:Ng}{F:Str→Int}{x:Str}(h:x∈ks)(v:Int):Mx (Rv v)=cnt ks λy=>if y=x then v else F y:=by
 unfold putK cnt;rw[if_pos]
 ·rw[Zg];refine Yj λz _=>?_;show(if(Sum.inr z:Key)=Sum.inr x then((Sum.inr z:Key),TH v) else(ES,TH (F z)))=(ES,TH (if z=x then v else F z));by_cases e:z=x
  ·rw[if_pos (by rw[e]),if_pos e]
  rw[if_neg (λq=>e PY),if_neg e]
 exact Yi.mpr ⟨_,TW ⟨x,h,rfl⟩,HA⟩
def cnt_drop(ks:Ng)(F:Str→Int)(x:Str):dropK (MU F) IH=cnt (ks.filter λy=>decide (y≠x)) F:=by unfold dropK cnt;rw[Kd];congr 1;apply Xi;intro y _;show decide ((Sum.inr y:Key)≠Sum.inr x)=decide (y≠x);rw[Wd,decide_eq_true_eq,decide_eq_true_eq];exact⟨λh e=>h (by rw[e]),λh e=>h (Wg e)⟩
def zhp{ks:Ng}{F G:Str→Int}(h:∀y∈ks,F y=G y):MU F=MU G:=Yj λy hy=>by rw[h y hy]
def Keep.fr{H H':Hp}{a:Nb}{o:HO}(k:RH H)(h:H a=none):Keep [] H (U6 a o):=λc u ec hc=>by rw[zag (W0 h)];exact k c u ec hc
def ndOA:(["place", "web"]:List Str).Nodup:=by decide+kernel
def ndOB:(["place", "many"]:List Str).Nodup:=by decide+kernel
inductive IspOrder(C:Nb)(vs:List V)(H:Hp)(Q:VK):Prop
 |mk(x dx d:Nb)(es:List Ent)(h0:vs=[.ref x])(h1:WAt H C x dx d es)(h2:es.length≤100)(h3:∀y,(row (rsOf es) y).Nodup)(h4:∀a b,b∈row (rsOf es) a→a∈row (rsOf es) b)(h5:∀(l:Nb) (T:Ng) (H':Hp),H' l=some (.lst (T.map V.str))→IsOrder (es.map (·.1)) (row (rsOf es)) T→H l=none→Keep [] H H'→Q (.ref l) H')
def spOrder(C:Nb):Sp:=λvs H Q _=>IspOrder C vs H Q
section
variable{P:Nk}{w:Nl}{K:Na}{mg:Nd}{base:Nn}
def zer:zam ["web", "many", "taken", "least", "other"] ["web"] (zah sOrder):=fsk
def ok_order{f C fp fr:Nb}{fd fdp fdr:Nu}(F:QD "order" "order" sOrder f fd)(cW:KW C)(mP:BF "places" fp)(bP:WE fdp ["self"] [])(GP:ZB 1 fp fdp ["self"] wA)(mR:BF "round_of" fr)(bR:WE fdr ["self", "place"] [])(GR:ZB 1 fr fdr ["self", "place"] OG)(ae:mg "len" = none)(kU:mg "min" = none):ZB 2 f fd ["web"] (spOrder C):=by
 refine F.okL zer HM;obtain⟨x,dx,d,es,rfl,wt,aS,rn,sy,k⟩:=h;have hu:=zb7 hr;have ar:sizeLine=16777216:=sizeLine_eq;refine⟨_,zad (zfd (i:=1) zer.nd rfl S8 (pe_dc (M:=["place", "web"]) (ix:=[none,yX]) (mkB zer) rfl (EU (zjb (pl:=_) RQ cW mP GP hr bP .nil zcv)) (λC a5 ex s H=>YX ndOA)
    (λC a5 ex s H=>zb1) Es
    (λC' a5 ex s H=>zak (zfp (K:=K) rfl) Rg (RY ae) Yd (Sa (zev (pl:=_) Rz (RY cW) (RY mR) GR (RY hr) bR .nil zcv Ta)))))
  (zad (NU zer.nd Tq)
  (zad (FX (zfb Rz (λ_=>rfl))
   (zad (Xz zer.nd (QO (zak (call_min_is rfl hu) Rg kU PyProof.Rows.boot_min (zaa (zja (zdu (M:=["place", "many"]) (ix:=[none,AG]) (mkB zer) rfl (zd1 Rz) (λC a5 ex s H=>YX ndOB)
    (λC a5 ex s H=>zb1) (λC a5 ex s H=>zbq (zaa Th Ta)))) zae)) zai HX))
   (zad (EQ Ss Tw)
   (zad (ps_ddel Rz Sn)
   (zaf (ZX (EU (zev (pl:=_) RQ cW mR GR hr bR .nil zcv Tw)) (Vy zer.nd)
    (zaf (zbg (EG hu Sy) (zaf (ps_daug hu Rz Sy zai in_sub (λ_ _ _=>rfl))) zao))))))))
  (zaf Ad))),?_⟩
 have aE:(es.map (·.1)).Nodup:=wt.ta.nd;have aG:∀e∈es,ZJ e.1=e.2.1:=λe he=>zay aE he;generalize iQ:es.map (·.1)=ns at aE k;have ma:ns.length=es.length:=by rw[←iQ,Qa]
 refine⟨vG,x,dx,vG,wt.ob,rfl,x,dx,d,es,rfl,wt,λl hl=>?_⟩;rw[iQ];have k1:Keep [] H (Lc l Ik):=Keep.new hl;have aI:(Lc l Ik) l=some (HR Ik):=zab;generalize ZR l (HR Ik)=H1 at k1 aI;refine⟨l,rfl,⟨_,HL aI⟩,λi m ys τ H'=>Aj5 (m=es.length-i) (i≤es.length) (Ex1 λx0=>τ=[x0,IL]) wE (ys=cnt (ns.take i) λy=>((Vf [] y:Nat):Int)),
  ⟨es.length,rfl,SW,⟨none,rfl⟩,Keep.refl,rfl⟩,?_⟩
 rintro i m ys τ H2 ⟨rfl,hi,⟨x0,rfl⟩,k2,rfl⟩;have av:=k2 _ _ aI HA;by_cases ad:i<es.length
 ·have am:i < ns.length:=ma ▸ ad;have aU:es[i]∈es:=Qq ad;have hni:ns[i]=es[i].1:=by simp[←iQ]
  refine .inr ⟨⟨_,.str ns[i],A0,by rw[Qk,Qb am];rfl⟩,by unfold cnt;rw[List.length_map,List.length_take];lia,?_⟩;rintro v H3 ⟨rfl,hv⟩;have aK:=hv _ A0;rw[Qk,Qb am]at aK;obtain rfl:V.str ns[i]=v:=Qo aK;have wt3:WAt H3 C x dx d es:=wt.keep (TX k2) HA HA RA;refine⟨vG,vG,x,dx,vG,wt3.ob,rfl,vG,x,dx,d,es,es[i],by rw[hni];rfl,wt3,aU,λq hq=>⟨q,vG,Sr zab,Sum.inr ns[i],rfl,es.length-Rm,Ra,rfl,ad,⟨vG⟩,LY Iw,?_⟩⟩;have hF:(((es[i].2.1.map V.str).length:Nat):Int)=((Vf [] ns[i]:Nat):Int):=by rw[dg_nil,hni,aG _ aU,Qa]
  rw[hF,Qh am];exact cnt_new (F:=λy=>((Vf [] y:Nat):Int)) (zey aE am)
 have bw:i=es.length:=by exact zar3 ‹_› ‹_›
 subst bw;refine .inl ⟨⟨_,A0,by rw[Qa,ma];exact Qf _⟩,λmm hmm=>?_⟩;rw[Qr (Nat.le_of_eq ma)];generalize row Ox=r at rn sy k aG;have kH2:Keep [] H H2:=k1.trans k2;have fmm:H mm=none:=zav kH2 hmm HA;have k3:Keep [] H (QI mm (.dK (cnt ns λy=>((JB [] y:Nat):Int)))):=kH2.fr fmm;have uf:(QI mm (.dK (cnt ns λy=>((JB [] y:Nat):Int)))) mm=some (.dK (cnt ns λy=>((JB [] y:Nat):Int))):=zab;generalize QI mm (.dK (cnt ns λy=>((JB [] y:Nat):Int)))=H3 at k3 uf;refine⟨Cm,λtk nP=>?_⟩;have ftk:H tk=none:=zav k3 nP HA;have nmt:mm≠tk:=zac uf nP;refine⟨λm σ H'=>Ex2 λ(D ks:Ng)=>Aj8 (m=ks.length) (Ex2 λx3 x4=>σ=[IL,HC mm,HC tk,x3,x4]) (H' mm=some Eg) (H' tk=some (HR (D.map V.str))) (MT D) ks.Nodup (∀y,y∈ks↔y∈ns∧y∉D) Cz,
  ⟨ns.length,[],ns,rfl,⟨none,none,rfl⟩,HZ nmt uf,zab,Pre.nil,aE,λy=>⟨λh=>⟨h,HA⟩,λh=>h.1⟩,k3.fr ftk⟩,?_⟩
 rintro m σ H4 ⟨D,ks,rfl,⟨x3,x4,rfl⟩,hm4,ht4,PD,cK,br,k4⟩;refine⟨vG,_,.inr (SJ ⟨_,hm4,rfl⟩),?_⟩;by_cases oG:ks=[]
 ·subst oG;refine Z2 ⟨_,rfl,k tk D H4 ht4 (PD.order aE λy hy=>?_) ftk k4⟩;by_cases h:y∈D
  ·exact h
  exact absurd ((br y).mpr ⟨hy,h⟩) HA
 refine zbj (by cases ks with
  |nil=>exact absurd rfl oG
  |cons _ _=>rfl) ?_
 refine⟨_,λ σ' H' zz=>zz,?_⟩;have eS:ks.length≤ns.length:=zcn cK λy hy=>((br y).mp hy).1;have cO:(cnt ks λy=>((dg r D y:Nat):Int)).length=ks.length:=Qa ..;refine⟨_,rfl,mm,_,rfl,hm4,λo=>⟨λi m ys τ H'=>Aj6 (m=ks.length-i) (i≤ks.length) (Ex1 λx0=>τ=[x0,HC mm]) (H' mm=some (TZ (Ri ks))) (Keep [mm] H4 H') (Ex1 λ(as:No)=>Aj3 (ys=as.map V.ref) (as.length=i) (KAt H' as ((ks.take i).map λy=>(YD y,y)))),
  ⟨ks.length,rfl,SW,⟨none,rfl⟩,zab,L4,[],rfl,rfl,.nil⟩,?_⟩⟩
 rintro i m ys τ H5 ⟨rfl,hi,⟨x0,rfl⟩,hz,k5,as,rfl,aT,ka⟩;by_cases ad:i<ks.length
 ·refine .inr ⟨⟨hz,by rw[cO];exact ad⟩,by rw[Qa];lia,?_⟩;rintro v H6 ⟨rfl,pr,e1,rfl⟩;have g1:pr=((Sum.inr ks[i]:Key),TH ((YD ks[i]:Nat):Int)):=by unfold cnt at e1;rw[Qk,Qb ad]at e1;exact(Qo e1).symm
  subst g1;refine⟨vG,vG,mm,vG,Rq ⟨_,Sum.inr ks[i],SJ ⟨o,hz⟩,rfl,(cnt_in (Qq ad)).symm⟩,vG,Tg,λt ht=>⟨ks.length-Rm,Ra,rfl,ad,⟨_,rfl⟩,?_,xO,as++[t],?_,?_,?_⟩⟩
  ·rw[zag (VQ ht)];exact hz
  ·rw[Qp];rfl
  ·rw[Za,aT];rfl
  rw[Qh ad,Qp];refine za1 (Paired.imp' (λa k h=>?_) ka) (SA zab);rw[zag (yp h ht)];exact h
 have bw:i=ks.length:=by exact zar3 ‹_› ‹_›
 subst bw;rw[Qr Rf]at ka;refine .inl ⟨⟨hz,RN cO⟩,λL hL=>?_⟩;have nmL:mm≠L:=VQ hL;have nfz:∀o' u',H mm≠some Tl:=λo' u' z=>by rw[fmm]at z;cases z
 refine⟨mm,o,_,HZ nmL hz,nfz,?_⟩;have k6:Keep [mm] H4 (QY Eg):=(CD (HV hL)).trans L4;have hm6:(QY Eg) mm=some Eg:=zab;have hL6:(QY Eg) L=some Sl:=by rw[zag (Zm nmL)];exact zab
 have ka6:KAt (QY Eg) as (ks.map λy=>(YD y,y)):=Paired.imp' (λa k h=>by rw[zag (za8 h hz HJ),zag (yp h hL)];exact h) ka;generalize QY Eg=H6 at k6 hm6 hL6 ka6;have kH6:Keep [] H H6:=λc u ec _=>k6 c u (k4 c u ec HA) (by simpa using W0 fmm);have lT:=k6 _ _ ht4 (by simpa using Zm nmt);refine⟨L,as,vG,HL hL6,ka6,HE oG,λa kk i7 ha gu=>?_⟩;obtain⟨y,hy,rfl⟩:=Qe.mp i7;obtain⟨nz,qD⟩:=(br y).mp hy;have uk:∀z∈ns,z∉D→leK (YD y,y) (YD z,z):=λz h1 h2=>gu _ (TW ⟨z,(br z).mpr ⟨h1,h2⟩,rfl⟩);have PD':=PD.snoc nz qD uk;have hDl:D.length≤ns.length:=zcn PD.nd PD.sub;refine⟨a,_,1,vG,rfl,Rx ha,rfl,vG,.inl ⟨rfl,_,HL lT⟩,vG,tk,_,vG,rfl,lT,SY,?_⟩;have k7:Keep [] H (OE tk (D.map V.str++[V.str y])):=kH6.fr ftk;have qH:(OE tk (D.map V.str++[V.str y])) tk=some (HR ((D++[y]).map V.str)):=by rw[zab,Qp];rfl
 have hm7:(OE tk (D.map V.str++[V.str y])) mm=some Eg:=by rw[zag nmt];exact hm6
 generalize YY tk (HR (D.map V.str++[V.str y]))=H7 at k7 qH hm7;refine⟨vG,vG,mm,_,SF y,rfl,hm7,rfl,by rw[cnt_in hy];rfl,?_⟩;rw[cnt_drop];have i8:∀z,z∈ks.filter (λz=>decide (z≠y))↔z∈ns∧z∉D++[y]:=λz=>by rw[Zf,br z,decide_eq_true_eq,Qm,Qd,not_or];exact⟨λh=>⟨h.1.1,h.1.2,h.2⟩,λh=>⟨⟨h.1,h.2.1⟩,h.2.2⟩⟩
 have oE:(ks.filter λz=>decide (z≠y)).Nodup:=cK.filter _;have oF:(ks.filter λz=>decide (z≠y)).length<ks.length:=List.length_filter_lt_length_iff_exists.mpr ⟨y,hy,HA⟩;generalize ks.filter (λz=>decide (z≠y))=kf at i8 oE oF;have k8:Keep [] H (UL mm zB):=k7.fr fmm;have ue:(UL mm zB) mm=some zB:=zab;have i4:(UL mm zB) tk=some (HR ((D++[y]).map V.str)):=by rw[zag (Zm nmt)];exact qH
 generalize UL mm zB=H8 at k8 ue i4;obtain⟨en,bE,uA⟩:=Qe.mp (by rw[iQ];exact nz:y∈es.map (·.1));have jz:en.1=y:=uA;have hry:r y=en.2.1:=by rw[←jz];exact aG en bE
 have wt8:WAt H8 C x dx d es:=wt.keep k8 HA HA RA;refine⟨vG,x,dx,vG,wt8.ob,rfl,vG,x,dx,d,es,en,by rw[jz];rfl,wt8,bE,λq hq=>?_⟩;have nqm:mm≠q:=zac ue hq;have nqt:tk≠q:=zac i4 hq;have fq:H q=none:=zav k8 hq HA;refine⟨q,rfl,⟨_,Ls⟩,za2 (xs:=en.2.1.map V.str) (λj σ H'=>Aj5 (Ex1 λx4=>σ=[IL,HC mm,HC tk,S4 y,x4]) (H' q=some (HR (en.2.1.map V.str))) (H' tk=some (HR ((D++[y]).map V.str))) (H' mm=some (.dK (cnt kf λz=>((dg r D z:Nat):Int)-if z∈en.2.1.take j then 1 else 0))) Cz)
  ⟨⟨_,rfl⟩,zab,HZ nqt i4,?_,k8.fr fq⟩ (λj σ H' _ hh=>SqL.of hh.2) ?_ ?_⟩
 ·rw[zag nqm,ue];congr 2
 ·rintro j v σ H9 sU ⟨⟨x4,rfl⟩,tS,ji,oy,k9⟩;have hj:j<en.2.1.length:=by have:=(TJ sU).1;rwa[Qa]at this
  have iE:v=.str en.2.1[j]:=by rw[Qk,Qb hj]at sU;exact(Qo sU).symm
  subst iE;have cY:en.2.1.Nodup:=hry▸rn y;have oh:=zey cY hj;have g9:=DGet.k (k:=Sum.inr en.2.1[j]) oy;by_cases dE:en.2.1[j]∈kf
  ·rw[cnt_in dE,So oh]at g9;refine⟨vG,vG,mm,vG,g9,vG,WX ⟨vG,vG,mm,vG,g9,_,vG,rfl,_,DPut.k (k:=Sum.inr en.2.1[j]) oy (by unfold cnt;rw[List.length_map];lia),⟨vG⟩,?_,?_,?_,k9.fr fmm⟩⟩
   ·rw[zag (Zm nqm)];exact tS
   ·rw[zag (Zm nmt)];exact ji
   rw[zab,cnt_put dE];congr 2;refine zhp λz _=>?_;rw[Qh hj];by_cases hz:z=en.2.1[j]
   ·rw[Sx hz,hz,Sx ER];lia
   rw[So hz];by_cases cz:z∈en.2.1.take j
   ·rw[if_pos cz,if_pos (YG cz)]
   rw[if_neg cz,if_neg (λh=>(Qm.mp h).elim cz λh=>hz (CI h))]
  rw[cnt_out dE]at g9;refine⟨vG,vG,mm,vG,g9,vG,Z2 ⟨⟨vG⟩,tS,ji,?_,k9⟩⟩;rw[oy];congr 2;refine zhp λz hz=>?_;rw[Qh hj];have au:z≠en.2.1[j]:=λe=>dE (e▸hz);by_cases cz:z∈en.2.1.take j
  ·rw[if_pos cz,if_pos (YG cz)]
  rw[if_neg cz,if_neg (λh=>(Qm.mp h).elim cz λh=>au (CI h))]
 rintro σ H9 ⟨⟨x4,rfl⟩,tS,ji,oy,k9⟩;refine⟨_,oF,D++[y],kf,rfl,⟨_,vG⟩,?_,ji,PD',oE,i8,k9⟩;rw[oy];congr 2;refine zhp λz _=>?_;rw[Qa,Qr Rf,←hry];exact dg_snoc rn sy qD z
end
end K21
namespace Wb
open PySem L2
def IsMex(us:List Int)(n:Nat):Prop:=(n:Int)∉us∧∀m:Nat,m<n→(m:Int)∈us
def IsMex.one{us us':List Int}{n m:Nat}(h:∀z,z∈us↔z∈us')(a:IsMex us n)(b:IsMex us' m):n=m:=by
 rcases Nat.lt_trichotomy n m with z|z|z
 ·exact absurd ((h _).mpr (b.2 n z)) a.1
 ·exact z
 exact absurd ((h _).mp (a.2 m z)) b.1
def mex_ex(us:List Int):∃n,n≤us.length∧IsMex us n:=by
 have h1:∃n,n≤us.length∧(n:Int)∉us:=by
  refine Xf λh=>?_;have all:∀n,n≤us.length→(n:Int)∈us:=λn hn=>Xf λz=>h ⟨n,hn,z⟩;have nd:((Sv (us.length+1)).map λn:Nat=>(n:Int)).Nodup:=Ja.mpr (List.nodup_range.imp λh e=>h (Int.ofNat.inj e));have:=nd.length_le_of_subset (l₂:=us) λz hz=>by obtain⟨n,hn,rfl⟩:=Qe.mp hz;exact all n (Nat.le_of_lt_succ (Yz.mp hn))
  rw[Qa,Yh]at this;exact absurd this (Nat.not_succ_le_self _)
 obtain⟨n,hn⟩:=h1;induction n using Nat.strongRecOn with
 |ind n ih=>
  by_cases h:∃m,m<n∧(m:Int)∉us
  ·obtain⟨m,hm,hmu⟩:=h;exact ih m hm ⟨Zi (Ud hm) hn.1,hmu⟩
  exact⟨n,hn.1,hn.2,λm hm=>Xf λz=>h ⟨m,hm,z⟩⟩
noncomputable def mex(us:List Int):Nat:=Classical.choose (mex_ex us)
def mex_is(us:List Int):IsMex us (mex us):=(Jp (mex_ex us)).2
end Wb
namespace K21
open PySem L2 Wb
abbrev sFree:Stmt:=top 2
def ndFr:(["other", "hues"]:List Str).Nodup:=by decide+kernel
def zf5{x:Int}{zs:List Int}:inV (Rv x) (zs.map V.int)=decide (x∈zs):=by
 unfold inV;rw[Wd,Yi,decide_eq_true_iff];constructor
 ·rintro⟨v,hv,e⟩;obtain⟨y,hy,rfl⟩:=Qe.mp hv;have e':y=x:=eq_of_beq e;rw[←e'];exact hy
 exact λh=>⟨_,TW ⟨x,h,rfl⟩,Il x⟩
def flat_ints(zs:List Int):(zs.map V.int).all zc4=true:=Ur.mpr λv hv=>by obtain⟨y,_,rfl⟩:=Qe.mp hv;rfl
noncomputable def frV(us:List Int)(many:Nat):V:=if mex us<many then .int (mex us:Nat) else .non
inductive IspFree(C:Nb)(vs:List V)(H:Hp)(Q:VK):Prop
 |mk (x dx d u:Nb) (es:List Ent) (e:Ent) (D:Ng) (F:Str→Int) (many:Nat) (h0:vs=[.ref x,.ref u,.str e.1,.int many]) (h1:WAt H C x dx d es) (h2:H u=some (.dK (cnt D F))) (h3:e∈es) (h4:e.2.1.length≤100) (h5:many≤100)
  (h7:∀H',Keep [] H H'→Q (frV ((e.2.1.filter λz=>decide (z∈D)).map F) many) H'):IspFree C vs H Q
def spFree(C:Nb):Sp:=λvs H Q _=>IspFree C vs H Q
section
variable{P:Nk}{w:Nl}{K:Na}{mg:Nd}{base:Nn}
def scFree:zam ["web", "hues", "place", "many", "around", "hue"] ["web", "hues", "place", "many"] (zah sFree):=fsk
def ok_free{f C fr:Nb}{fd fdr:Nu}(F:QD "free_hue" "free_hue" sFree f fd)(cW:KW C)(mR:BF "round_of" fr)(bR:WE fdr ["self", "place"] [])(GR:ZB 1 fr fdr ["self", "place"] OG)(ba:mg "range" = none):ZB 2 f fd ["web", "hues", "place", "many"] Ah:=by
 refine F.okL scFree HM;obtain⟨x,dx,d,u,es,e,D,G,many,rfl,wt,hd,he,bM,hmy,k⟩:=h;have hu:=zb7 hr;have ar:sizeLine=16777216:=sizeLine_eq;refine⟨_,zad (ps_lc (i:=4) (M:=["other", "hues"]) (ix:=[none,AG]) scFree.nd rfl rfl (mkB scFree) rfl (EU (zev (pl:=_) RQ cW mR GR hr bR .nil zcv SR)) (λC a5 ex s H=>YX ndFr)
    (λC a5 ex s H=>zcp (EG (RY hu) RQ)) (λC a5 ex s H=>zbi (RY hu) Rz RQ) rfl)
  (zad (ZX (BE Tw) (BA scFree.nd)
   (zaf (vp (KK SE Sy rfl) (zaf Af))))
  (zaf (zas zh5))),?_⟩
 refine⟨vG,x,dx,vG,wt.ob,rfl,vG,x,dx,d,es,e,rfl,wt,he,λq hq=>?_⟩;have k1:Keep [] H (ZR q HQ):=Keep.new hq;have bX:(ZR q HQ) q=some HQ:=zab;generalize ZR q HQ=H1 at k1 bX;have mr:=k1 _ _ hd HA;refine⟨q,rfl,⟨_,Au⟩,λi m ys τ H'=>Aj5 (m=e.2.1.length-i) (i≤e.2.1.length) (Ex1 λx0=>τ=[x0,Cv]) (H'=H1) (ys=(((e.2.1.take i).filter λz=>decide (z∈D)).map G).map V.int),
  ⟨e.2.1.length,rfl,SW,⟨none,rfl⟩,rfl,rfl⟩,?_⟩
 rintro i m ys τ H' ⟨rfl,hi,⟨x0,rfl⟩,rfl,rfl⟩;by_cases ad:i<e.2.1.length
 ·have gO:=Wh (λz=>decide (z∈D)) (e.2.1.take i);rw[Zo]at gO;refine .inr ⟨⟨_,.str e.2.1[i],Au,by rw[Qk,Qb ad];rfl⟩,by rw[Qa,Qa];lia,?_⟩;rintro v H3 ⟨rfl,hv⟩;have aK:=hv _ Au;rw[Qk,Qb ad]at aK;obtain rfl:V.str e.2.1[i]=v:=Qo aK;have g:=DGet.k (k:=Sum.inr e.2.1[i]) mr;by_cases hz:e.2.1[i]∈D
  ·rw[cnt_in hz]at g;refine⟨vG,vG,u,vG,g,vG,WX ⟨vG,vG,u,vG,g,e.2.1.length-Rm,Ra,rfl,ad,⟨vG⟩,rfl,?_⟩⟩;rw[Qh ad,Yp,Zp Iy,Wk,Qp,Qp];rfl
  rw[cnt_out hz]at g;refine⟨vG,vG,u,vG,g,vG,Z2 ⟨e.2.1.length-Rm,Ra,rfl,ad,⟨vG⟩,rfl,?_⟩⟩;rw[Qh ad,Yp,Zq Iy,Wk,Zt]
 have bw:i=e.2.1.length:=by exact zar3 ‹_› ‹_›
 subst bw;refine .inl ⟨⟨_,Au,AK⟩,λL hL=>?_⟩;rw[Qr Rf];generalize jf:(e.2.1.filter λz=>decide (z∈D)).map G=us at k;have k2:Keep [] H (U6 L Cq):=k1.trans (HV hL);have hL2:(U6 L Cq) L=some Cq:=zab;generalize U6 L Cq=H2 at k2 hL2;have qY:=mex_is us;refine⟨vG,many,rfl,HB,HB,zc3 (λi σ H'=>Aj3 (H'=H2) (Ex1 λx5=>σ=[IL,Cv,EW,HW (.int many),HC L,x5]) (∀m:Nat,m<i→(m:Int)∈us)) ⟨rfl,⟨_,rfl⟩,λm hm=>absurd hm (Kv _)⟩ ?_ ?_⟩
 ·rintro i σ H3 hi ⟨rfl,⟨x5,rfl⟩,ak⟩;have ei:(0:Int)+(i:Int)=(i:Int):=by lia
  rw[ei];refine⟨vG,vG,L,vG,Sr hL2,rfl,flat_ints us,vG,?_⟩;by_cases aw:(i:Int)∈us
  ·refine zau (by rw[C2,zf5,RE aw];rfl) ⟨rfl,⟨_,rfl⟩,λm hm=>?_⟩;rcases Nat.lt_succ_iff_lt_or_eq.mp hm with z|z
   ·exact ak m z
   rw[z];exact aw
  refine zbj (by rw[C2,zf5,S6 aw];rfl) ⟨_,rfl,?_⟩;have:mex us=i:=qY.one (λ_=>Iff.rfl) ⟨aw,ak⟩;unfold frV at k;rw[this,if_pos (show i<many by lia)]at k;exact k _ k2
 rintro σ H3 ⟨rfl,⟨x5,rfl⟩,ak⟩;unfold frV at k;rw[if_neg λz=>qY.1 (ak _ HB)]at k;exact k _ k2
end
end K21
namespace Wb
open PySem L2
section
variable{α β:Type}
structure Bud(f:Nat→Option α×Nat)(R:Option α)(N b:Nat):Prop where
 le:N≤b
 is:∀m,f m=if N≤m then(R,N) else(none,m)
def goB:List (Nat→Option α×Nat)→Nat→Nat→Option α×Nat
 |[],_,s=>(none,s)
 |g::t,m,s=>if s=m then(none,s) else match g (m-s-1) with
  |(some a,n)=>(xB,s+1+n)
  |(none,n)=>My (s+1+n)
theorem goB_end:∀(t:S1 (Nat→Option α×Nat)) (m:Nat),My m=(none,m)
 |[],_=>rfl
 |_::_,_=>if_pos rfl
theorem zjo:∀{gs:List (Nat→Option α×Nat)},(∀g∈gs,∃R N,Bud g R N b)→∃R N,N≤gs.length*(b+1)∧∀m s,s≤m→goB gs m s=if s+N≤m then(R,s+N) else(none,m)
 |[],_=>⟨none,0,Zc _,λm s h=>by show(none,s)=_;rw[if_pos HB];rfl⟩
 | g::t,h=>by
  obtain⟨R1,N1,l1,e1⟩:=h g Qc;obtain⟨R2,N2,l2,e2⟩:=zjo λg hg=>h g (QR hg);have hl:(g::t).length*(b+1)=t.length*(b+1)+(b+1):=by rw[Qy,Nat.add_mul,Nat.one_mul]
  cases R1 with
  |some a=>
   refine⟨xB,1+N1,Rc hl,λm s hs=>?_⟩;show(if s=m then(none,s) else match g (m-s-1) with|(some a,n)=>(some a,s+1+n)|(none,n)=>goB t m (s+1+n))=_;by_cases hm:s=m
   ·rw[if_pos hm,if_neg HB,hm]
   rw[So hm,e1];by_cases hn:N1≤m-s-1
   ·rw[Sx hn,Sx HB];show(xB,s+1+N1)=(xB,s+(1+N1));rw[Nat.add_assoc]
   rw[So hn,So HB];show My (s+1+(m-s-1))=_;rw[show s+1+(m-s-1)=m by lia,goB_end]
  | none=>
   refine⟨R2,1+N1+N2,Rc hl,λm s hs=>?_⟩;show(if s=m then(none,s) else match g (m-s-1) with|(some a,n)=>(some a,s+1+n)|(none,n)=>goB t m (s+1+n))=_;by_cases hm:s=m
   ·rw[if_pos hm,if_neg HB,hm]
   rw[So hm,e1];by_cases hn:N1≤m-s-1
   ·rw[Sx hn];show My (s+1+N1)=_;rw[e2 _ _ HB];by_cases h2:s+1+N1+N2≤m
    ·rw[if_pos h2,if_pos HB,show s+1+N1+N2=s+(1+N1+N2) by lia]
    rw[if_neg h2,if_neg HB]
   rw[So hn,So HB];show My (s+1+(m-s-1))=_;rw[show s+1+(m-s-1)=m by lia,goB_end]
noncomputable def chH(c:Str→Prop):List Str:=open Classical in if h:∃L:List Str,L.Nodup∧L.Pairwise leS∧∀y,y∈L↔c y then Classical.choose h else[]
def chH_eq(nd:zs.Nodup)(so:zs.Pairwise leS)(hm:∀y,y∈zs↔c y):zs=chH c:=by have h:∃L:List Str,L.Nodup∧L.Pairwise leS∧∀y,y∈L↔c y:=⟨zs,nd,so,hm⟩;unfold chH;rw[dif_pos h];obtain⟨h1,h2,h3⟩:=Jp h;exact sorted_one ((Ju nd h1).mpr λy=>(hm y).trans (h3 y).symm) so h2
def chH_nd(c:Str→Prop):(chH c).Nodup:=by
 unfold chH;split
 ·rename_i h;exact(Jp h).1
 exact Zk
def chH_mem(h:y∈chH c):c y:=by
 unfold chH at h;split at h
 ·rename_i z;exact((Jp z).2.2 y).mp h
 cases h
end
end Wb
namespace K21
open PySem L2 Wb
def hu(hs:List (Str×Int))(z:Str):Int:=match hueV hs z with
 |.int n=>n
 |_=>0
abbrev Swap:=Str×Int×List Str
noncomputable def chN(r:Nq)(hs:List Re)(q:Str×Int):List Str:=chH (Conn (λz=>(r z).filter (U' (Z8 q.1) q.2)) q.1)
noncomputable def swN(r:Nq)(hs:List Re)(q:Str×Int):Swap:=(q.1,q.2,chN r hs q)
def exN(hs:List Re)(w:Swap):List Re:=ex w.2.2 C5 w.2.1 hs
def usN(r:Nq)(hs:List Re)(x:Str):List Int:=((r x).filter λz=>decide (z∈hs.map (·.1))).map OX
noncomputable def trN(r:Nq)(hs:List Re)(x:Str):List Re:=((chH (·∈r x)).filter λs=>decide (s∈hs.map (·.1))).flatMap λs=>(([0,1,2,3]:List Int).filter λo=>!decide (o=Z8 s)).map λo=>(s,o)
noncomputable def onN(r:Nq)(hs:List Re)(x:Str)(m:Nat):Option O7×Nat:=goB ((JM x).map λq _=>(if mex zC<4 then some [zE] else none,0)) m 0
noncomputable def twN(r:Nq)(hs:List Re)(x:Str)(m:Nat):Option O7×Nat:=goB ((JM x).map λq b=>((ZY b).1.map (swN r hs q::·),(ZY b).2)) m 0
noncomputable def fsN(r:Nq)(hs:List Re)(x:Str)(m:Nat):Option O7×Nat:=
 if mex (usN r hs x)<4 then(some [],0) else match onN r hs x m with
  |(some L,n)=>(HW L,n)
  |(none,n)=>((Q7 (m-n)).1,n+(Q7 (m-n)).2)
abbrev Step:=Str×Int×List Swap
noncomputable def cbN(r:Nq)(hs:List Re)(x:Str)(L:List Swap):List Re:=Z3 hs++[(x,(mex Im:Int))]
noncomputable def fpN(r:Nq):List Str→List Re→Nat→Nat→Option (List Step)×Nat
 |[],_,_,s=>(some [],s)
 |x::t,hs,m,s=>match fsN r hs x (m-s) with
  |(none,n)=>(none,s+n)
  |(some L,n)=>((UX (s+n)).1.map ((x,(mex Im:Int),L)::·),(UX (s+n)).2)
def tr_len(h:(r x).length≤d):(JM x).length≤d*4:=by
 unfold trN;have h1:((chH (·∈r x)).filter λs=>decide (s∈hs.map (·.1))).length≤d:=by refine X4 (Zi (zcn (chH_nd _) λy hy=>?_) h);exact chH_mem hy
 generalize(chH (·∈r x)).filter (λs=>decide (s∈hs.map (·.1)))=l at h1;refine Zi ?_ (Nat.mul_le_mul_right 4 h1);clear h1;induction l with
 |nil=>exact Zc _
 |cons a t ih=>rw[List.flatMap_cons,Za,Qa,Qy,Nat.add_mul,Nat.one_mul];have:=Wh (λo=>!decide (o=Z8 a)) ([0,1,2,3]:List Int);have h4:([0,1,2,3]:List Int).length=4:=rfl;lia
def on_bud(h:(r x).length≤16):∃R N,Bud (onN r hs x) R N 64:=by
 obtain⟨R,N,l,e⟩:=zjo (b:=0) (gs:=(JM x).map λq _=>(if mex zC<4 then some [zE] else none,0)) λg hg=>by obtain⟨q,_,rfl⟩:=Qe.mp hg;exact⟨_,0,Rf,λm=>by rw[if_pos SW]⟩
 have:=tr_len (hs:=hs) h;rw[Qa]at l;refine⟨R,N,HB,λm=>?_⟩;have:=e m 0 SW;rw[Nat.zero_add]at this;exact this
def tw_bud(h:(r x).length≤16):∃R N,Bud (twN r hs x) R N 4160:=by
 obtain⟨R,N,l,e⟩:=zjo (b:=64) (gs:=(JM x).map λq b=>((ZY b).1.map (swN r hs q::·),(ZY b).2)) λg hg=>by
  obtain⟨q,_,rfl⟩:=Qe.mp hg;obtain⟨R,N,l,e⟩:=on_bud (r:=r) (hs:=QW zE) h;refine⟨R.map (swN r hs q::·),N,l,λm=>?_⟩;show((ZY m).1.map (swN r hs q::·),(ZY m).2)=_;rw[e];by_cases h:N≤m
  ·rw[if_pos h,if_pos h]
  rw[if_neg h,if_neg h];rfl
 have:=tr_len (hs:=hs) h;rw[Qa]at l;refine⟨R,N,HB,λm=>?_⟩;have:=e m 0 SW;rw[Nat.zero_add]at this;exact this
def tw_zero(r:Nq)(hs:List Re)(x:Str):Q7 0=(none,0):=goB_end _ 0
def fs_bud(h:(r x).length≤16):∃ R N,Bud (fsN r hs x) R N 4224:=by
 by_cases h0:mex A3<4
 ·exact⟨some [],0,HH,λm=>by unfold fsN;rw[if_pos h0,if_pos (Nat.zero_le _)]⟩
 obtain⟨R1,N1,l1,e1⟩:=on_bud (hs:=hs) h;obtain⟨R2,N2,l2,e2⟩:=tw_bud (hs:=hs) h;cases R1 with
 |some L=>
  refine⟨HW L,N1,HB,λm=>?_⟩;unfold fsN;rw[if_neg h0,e1];by_cases hm:N1≤m
  ·rw[if_pos hm]
  rw[So hm];show((Q7 (m-m)).1,m+(Q7 (m-m)).2)=_;rw[Ky,tw_zero];rfl
 | none=>
  refine⟨R2,N1+N2,HB,λm=>?_⟩;unfold fsN;rw[if_neg h0,e1];by_cases hm:N1≤m
  ·rw[Sx hm];show((Q7 (m-N1)).1,N1+(Q7 (m-N1)).2)=_;rw[e2];by_cases h2:N2≤m-N1
   ·rw[if_pos h2,if_pos HB]
   rw[So h2,So HB];show(none,N1+(m-N1))=(none,m);rw[show N1+(m-N1)=m by lia]
  rw[So hm,So HB];show((Q7 (m-m)).1,m+(Q7 (m-m)).2)=_;rw[Ky,tw_zero];rfl
abbrev sSwapOf:Stmt:=top 23
abbrev ziz:Stmt:=top 24
structure WOk(es:List Ent):Prop where
 few:es.length≤16
 rl:∀e∈es,e.2.1.length≤16
 cl:∀z y,y∈ZJ z→y∈es.map (·.1)
 rn:∀y,(ZJ y).Nodup
 sy:∀a b,b∈ZJ a→a∈ZJ b
inductive SwAt(B H:Hp)(a:Nb)(w:Swap):Prop
 |mk(l:Nb)(h0:B l=none)(h1:H a=some (.tup [.str w.1,.int w.2.1,.ref l]))(h2:H l=some (.lst (w.2.2.map V.str)))
def SwAt.keep(h:Vg w)(k:RH H):SwAt B H' a w:=by obtain⟨l,h0,h1,h2⟩:=h;exact⟨l,h0,O4 h1,O4 h2⟩
def SwAt.old(h:Vg w)(k:Keep [] B' B):GJ H a w:=by obtain⟨l,h0,h1,h2⟩:=h;exact⟨l,zav k h0 HA,h1,h2⟩
def HAt.hf(h:HAt H u hs):HF H u hs:=⟨.inl h.dc,h.nd⟩
def hu_in(nd:(hs.map (·.1)).Nodup)(h:e∈hs):Z8 e.1=e.2:=by unfold hu hueV;rw[Gf h];rfl
def zdo(nd:(hs.map (·.1)).Nodup)(h:s∈hs.map (·.1)):(s,Z8 s)∈hs:=by obtain⟨e,he,rfl⟩:=Qe.mp h;rw[Fl he];exact he
def tw_key(h:U' a b y=true):y∈hs.map (·.1):=by refine Jy λz=>?_;unfold tw hueV at h;rw[zcx z]at h;cases h
def ch_key(hq:q.1∈hs.map (·.1))(h:y∈chN r hs q):y∈hs.map (·.1):=by
 have c:=chH_mem h;induction c with
 |refl=>exact hq
 |step _ hz _=>exact tw_key (O1 hz).2
def zel(hs:List Re)(w:Swap):(QW w).map (·.1)=hs.map (·.1):=zhm ..
inductive IspSwapOf(C:Nb)(vs:List V)(H:Hp)(Q:VK):Prop
 |mk (x dx d u:Nb) (es:List Ent) (hs:List (Str×Int)) (s:Str) (o:Int) (h0:vs=[.ref x,.ref u,.str s,.int o]) (h1:WAt H C x dx d es) (h2:WOk es) (h3:HAt H u hs) (h4:∀x∈hs.map (·.1),x∈es.map (·.1)) (h5:s∈hs.map (·.1)) (h6:o≠hu hs s) (h7:0≤o)
  (h8:∀(a:Nb) (H':Hp),SwAt H H' a (ZO (s,o))→H a=none→Keep [] H H'→Q Sg H'):Hs Q
def ziv(C:Nb):Sp:=λvs H Q _=>Hs Q
inductive zik(vs:List V)(H:Hp)(Q:VK):Prop
 |mk (B:Hp) (u a:Nb) (hs:List (Str×Int)) (w:Swap) (h0:vs=[.ref u,.ref a]) (h1:HAt H u hs) (h2:SwAt B H a w) (h3:w.1∈hs.map (·.1)) (h4:∀y∈w.2.2,y∈hs.map (·.1)) (h5:hs.length≤16)
  (h8:∀(t:Nb) (H':Hp),H t=none→JZ t xG→Keep [] H H'→Q Ll H'):zik vs H Q
def ze2:Sp:=λvs H Q _=>zik vs H Q
section
variable{P:Nk}{w:Nl}{K:Na}{mg:Nd}{base:Nn}
def scSwapOf:zam ["web", "hues", "start", "other"] ["web", "hues", "start", "other"] (zah sSwapOf):=fsk
def ok_swapof(F:QD "swap_of" "swap_of" sSwapOf f fd)(GC:ZI "chain" ["web", "hues", "start", "other"] 2 (spChain C)) :
  FnOk P w K mg base CX0 3 f fd ["web", "hues", "start", "other"] (ziv C):=by
 refine F.okL scSwapOf HN;obtain⟨x,dx,d,u,es,hs,s,o,rfl,wt,W,hh,hk,qK,ho,ho0,kq⟩:=h;refine⟨_,zaf (zas (zbq (ZU (QC (Sa (AX GC hr (ZU Tw))))))),vG,vG,vG,vG,vG,vG,x,dx,d,u,es,hs,s,Z8 s,o,rfl,wt,Zi W.few HH,λe he=>X7 HH,W.cl,hh.hf,UR qK,hk _ qK,ho,ho0,λl zs H1 hl cU cT cV fl k1=>⟨zw,λt ht=>?_⟩⟩;have e:zs=chN RZ hs (s,o):=chH_eq cU cT cV;refine kq t _ ⟨l,fl,zab,?_⟩ (FY ht HA) (TX (HV ht));rw[zag (yp hl ht),hl,e];rfl
def ze4:zam ["hues", "swap", "start", "other", "places"] ["hues", "swap"] (zah ziz):=fsk
def ok_swapped(F:QD "swapped" "swapped" ziz f fd)(GE:ZI "exchanged_in" ["hues", "places", "one", "other"] 1 spExIn) :
  FnOk P w K mg base CX0 2 f fd ["hues", "swap"] ze2:=by
 refine F.okL ze4 HN;obtain⟨_,u,a,hs,w',rfl,hh,⟨l,_,ha,hl⟩,hw1,hw2,gG,kq⟩:=h;have aq:=zb7 hr;refine⟨_,zad (zdf Rz (Ei (ML ze4.nd) (zaj (NO ze4.nd) (Te (Vy ze4.nd)))))
  (zaf (zas (Ek GE hr (QV (zaa (NG Ss) Tw))))),?_⟩
 refine⟨vG,a,vG,Rx ha,rfl,_,vG,_,vG,_,vG,rfl,?_⟩;have g:=hh.hf.get (Sum.inr w'.1);rw[W6 (e:=(w'.1,Z8 w'.1)) (UR hw1)]at g;exact⟨vG,vG,vG,vG,u,vG,g,vG,u,l,hs,w'.2.2,Z8 w'.1,w'.2.1,rfl,hh.hf,hl,hw2,Zi gG HH,λt H' ht h' k'=>kq t H' ht h' k'⟩
abbrev sTries:Stmt:=top 28
abbrev PSI(H:Hp):List Addr→List Re→Prop:=Paired λa q=>H a=some (.tup [L5,.int q.2])
def PSI.keep(h:PSI H as qs)(k:RH H):Ht qs:=Paired.imp' (λ_ _ z=>k _ _ z HA) h
def four_take(h:j<4):([0,1,2,3]:List Int).take (j+1)=([0,1,2,3]:List Int).take j++[(0:Int)+(j:Int)]:=by
 match j,h with
 |0,_=>rfl
 |1,_=>rfl
 |2,_=>rfl
 |3,_=>rfl
def ndTa:(["start", "hues"]:List Str).Nodup:=by decide+kernel
def ndTb:(["start", "other", "hues"]:List Str).Nodup:=by decide+kernel
inductive IspTries(C:Nb)(vs:List V)(H:Hp)(Q:VK):Prop
 |mk (x dx d u:Nb) (es:List Ent) (hs:List (Str×Int)) (e:Ent) (h0:vs=[.ref x,.ref u,.str e.1]) (h1:WAt H C x dx d es) (h2:WOk es) (h3:HAt H u hs) (h4:e∈es)
  (h8:∀(l:Nb) (as:No) (H':Hp),H' l=some Sl→Ht (W3 e.1)→Keep [] H H'→Q SO H'):IspTries C vs H Q
def spTries(C:Nb):Sp:=λvs H Q _=>IspTries C vs H Q
def ziy:zam ["web", "hues", "place", "starts"] ["web", "hues", "place"] (zah sTries):=fsk
def ok_tries(F:QD "tries" "tries" sTries f fd)(cW:KW C)(mR:BF "round_of" fr)(bR:WE fdr ["self", "place"] [])(GR:ZB 1 fr fdr ["self", "place"] OG)(aD:mg "sorted" = none)(ba:mg "range" = none)(hF:mg "FOUR" = some (Ao 4)):ZB 2 f fd ["web", "hues", "place"] yN:=by
 refine F.okL ziy HN;obtain⟨x,dx,d,u,es,hs,e,rfl,wt,W,hh,he,kq⟩:=h;have aq:=zb7 hr;have ar:=sizeLine_eq;refine⟨_,zad (ps_lc (i:=3) (M:=["start", "hues"]) (ix:=[none,AG]) ziy.nd rfl rfl (mkB ziy) rfl (EU (PR zgh (Sa (zev (pl:=_) RQ cW mR GR hr bR .nil zcv SR)))) (λC a5 ex s H=>YX ndTa)
    (λC a5 ex s H=>zcp (EG L0 RQ)) Es rfl)
  (zaf (zas (pe_lc2 (M:=["start", "other", "hues"]) (ix:=[none,none,AG]) (mkB ziy) rfl (EU Sn) (λC a5 ex s H=>YX ndTb)
    (λC a5 ex s H=>zcu rfl (RY ba) (Sa (zg7 (v:=.int 4) rfl (RY hF) ⟨tk,rfl⟩))) (λC a5 ex s H=>zal 1 ndTb)
    (λC a5 ex s H=>zcp (XB Rz (zbi L0 Ss RQ) Sw)) (λC a5 ex s H=>zbq (ZP SQ))))),?_⟩
 have cF:ZJ e.1=e.2.1:=Bi he;have bM:=X8 he;refine⟨vG,x,dx,vG,wt.ob,rfl,vG,x,dx,d,es,e,rfl,wt,he,λq hq=>⟨q,e.2.1,rfl,Ls,λl1 ws aI af aV=>?_⟩⟩;have aE:ws.Nodup:=af.nodup_iff.mpr (cF▸W.rn e.1);have ews:ws=chH (·∈ZJ e.1):=chH_eq aE (aV HB) λy=>by rw[cF];exact af.mem_iff
 have dZ:ws.length≤16:=by rw[af.length_eq];exact bM
 have k1:Keep [] H (UM Se):=(HV hq).trans (HV aI);have g1:(UM Se) l1=some Se:=zab;generalize UM Se=H1 at k1 g1;have cg:HAt H1 u hs:=hh.keep k1 HA;refine⟨l1,rfl,⟨_,SqL.of g1⟩,zf2 (xs:=ws.map V.str) (λ τ=>∃x0,τ=[x0,some (.ref u)]) (λv=>match v with | .str z=>decide (z∈hs.map (·.1))|_=>false) (SqL.of g1) (by rw[Qa];lia) ⟨none,rfl⟩ ?_ (λsl jk=>?_)⟩
 ·rintro v hv τ ⟨x0,rfl⟩ q1 q0 h1 h0;obtain⟨z,hz,rfl⟩:=Qe.mp hv;have gz:=cg.hf.get ES;refine⟨vG,vG,u,vG,gz,vG,?_⟩;by_cases hk:z∈hs.map (·.1)
  ·rw[W6 (e:=(z,Z8 z)) (UR hk)];exact iteT ⟨_,rfl,h1 (RE hk) _ ⟨_,rfl⟩⟩
  rw[zcx hk];exact iteF (h0 (S6 hk) _ ⟨_,rfl⟩)
 have ef:(ws.map V.str).filter (λv=>match v with | .str z=>decide (z∈hs.map (·.1))|_=>false)=(ws.filter λz=>decide (z∈hs.map (·.1))).map V.str:=Kd;rw[ef];have etr:W3 e.1=(ws.filter λz=>decide (z∈hs.map (·.1))).flatMap λs=>(([0,1,2,3]:List Int).filter λo=>!decide (o=Z8 s)).map λo=>(s,o):=by unfold trN;rw[←ews]
 rw[etr]at kq;have ay:∀y∈ws.filter (λz=>decide (z∈hs.map (·.1))),y∈hs.map (·.1):=λy hy=>of_decide_eq_true (O1 hy).2;have tG:(ws.filter λz=>decide (z∈hs.map (·.1))).length≤16:=X4 dZ;generalize ws.filter (λz=>decide (z∈hs.map (·.1)))=S at kq ay tG;have k2:Keep [] H (QA sl CJ):=k1.trans (HV jk);have g2:(QA sl CJ) sl=some CJ:=zab;generalize QA sl CJ=H2 at k2 g2;have uq:HAt H2 u hs:=hh.keep k2 HA;refine⟨_,rfl,sl,rfl,⟨_,HL g2⟩,λi m ys τ H'=>Aj5 (m=S.length-i) (i≤S.length) (Ex2 λx0 x1=>τ=[x0,x1,Cv]) wD (Ex1 λas:List Addr=>Aj3 (ys=as.map V.ref) (as.length≤4*i) (Ht ((S.take i).flatMap λs=>(([0,1,2,3]:List Int).filter λo=>!decide (o=Z8 s)).map λo=>(s,o)))),
  ⟨S.length,rfl,SW,⟨none,none,rfl⟩,Keep.refl,[],rfl,SW,.nil⟩,?_⟩
 rintro i m ys τ H3 ⟨rfl,hi,⟨x0,x1,rfl⟩,k3,as,rfl,aT,pa⟩;have g3:=k3 _ _ g2 HA;by_cases ad:i<S.length
 ·refine .inr ⟨⟨_,.str S[i],Av,by rw[Qk,xN];rfl⟩,?_⟩;rintro v H4 ⟨rfl,hv⟩;have aK:=hv _ Av;rw[Qk,Qb ad]at aK;obtain rfl:V.str S[i]=v:=Qo aK;have qQ:=ay _ (Qq ad);have tk:S.take Rm=S.take i++[S[i]]:=Qh ad;generalize S[i]=s at qQ tk;refine⟨(4:Int),rfl,HH,HB,?_⟩;refine⟨λj m2 ys τ H2'=>Aj5 (m2=4-j) (j≤4) (Ex1 λx1=>τ=[S4 s,x1,Cv]) (Keep [] H2 H2') (Ex1 λas:List Addr=>Aj3 (ys=as.map V.ref) (as.length≤4*i+j) (PSI H2' as (((S.take i).flatMap λs=>(([0,1,2,3]:List Int).filter λo=>!decide (o=Z8 s)).map λo=>(s,o))++((([0,1,2,3]:List Int).take j).filter λo=>!decide (o=Z8 s)).map λo=>(s,o)))),
   ⟨4,rfl,SW,⟨_,rfl⟩,k3,as,rfl,aT,HE pa⟩,?_⟩
  rintro j m2 ys τ H5 ⟨rfl,hj,⟨x1',rfl⟩,k5,dP,rfl,pN,sv⟩;by_cases bp:j<4
  ·refine .inr ⟨bp,by rw[Qa];lia,?_⟩;rintro y H6 ⟨rfl,rfl⟩;have gs:=(uq.keep k5 HA).hf.get (SF s);rw[W6 (e:=(s,Z8 s)) (UR qQ)]at gs;have aZ:=four_take bp;refine⟨vG,vG,vG,u,vG,gs,rfl,vG,?_⟩;by_cases hb:(0:Int)+(j:Int)=Z8 s
   ·refine zau (by show (!decide (V.int _=V.int _))=false;rw[RE (congrArg V.int hb)];rfl) ⟨_,Ra,rfl,bp,⟨_,rfl⟩,k5,dP,rfl,HB,?_⟩;rw[aZ,Yp,Zq (by rw[decide_eq_true hb];decide),Wk,Zt];exact sv
   refine zbj (by show (!decide (V.int _=V.int _))=true;rw[decide_eq_false (λz=>hb (by injection z))];rfl) ⟨_,rfl,_,rfl,Tg,λt ht=>⟨_,Ra,rfl,bp,⟨_,rfl⟩,xO,dP++[t],by rw[Qp];rfl,by rw[Za];show _+1≤_;lia,?_⟩⟩;rw[aZ,Yp,Zp (by rw[decide_eq_false hb];rfl),Wk,Qp,←Qw];exact za1 (PSI.keep sv Lw) (SA zab)
  have ej:j=4:=by lia
  subst ej;refine .inl ⟨Rf,_,Ra,rfl,ad,⟨_,_,rfl⟩,k5,dP,rfl,HB,?_⟩;rw[tk,List.flatMap_append,List.flatMap_cons,List.flatMap_nil,Zt];exact sv
 have bw:i=S.length:=by exact zar3 ‹_› ‹_›
 subst bw;refine .inl ⟨⟨_,Av,AK⟩,λD hD=>?_⟩;rw[Qr Rf]at pa;exact kq D as _ zab (PSI.keep pa Pt) ((LY k3).trans Pt)
abbrev sOne:Stmt:=top 29
inductive zdv(B H:Hp)(l:Nb)(L:List Swap):Prop
 |mk(as:No)(h0:B l=none)(h1:H l=some (.lst (as.map V.ref)))(h2:Paired (SwAt B H) as L)
def zdv.keep(h:NW L)(k:RH H):zdv B H' l L:=by obtain⟨as,h0,h1,h2⟩:=h;exact⟨as,h0,O4 h1,Paired.imp' (λ_ _ z=>z.keep k) h2⟩
def zdv.old(h:NW L)(k:Keep [] B' B):zdv B' H l L:=by obtain⟨as,h0,h1,h2⟩:=h;exact⟨as,zav k h0 HA,h1,Paired.imp' (λ_ _ z=>z.old k) h2⟩
inductive ResAt(B H:Hp)(t:Nb)(p:Option (List Swap)×Nat):Prop
 |no (h0:p.1=none) (h1:H t=some (.tup [.non,.int (p.2:Nat)])):ResAt B H t p
 |yes (l:Nb) (L:List Swap) (h0:p.1=some L) (h1:H t=some (.tup [.ref l,.int (p.2:Nat)])) (h2:zdv B H l L):ResAt B H t p
inductive IspOne(C:Nb)(vs:List V)(H:Hp)(Q:VK):Prop
 |mk (x dx d u:Nb) (es:List Ent) (hs:List (Str×Int)) (e:Ent) (m:Nat) (h0:vs=[.ref x,.ref u,.str e.1,.int (m:Int)]) (h1:WAt H C x dx d es) (h2:WOk es) (h3:HAt H u hs) (h4:e∈es) (h5:∀x∈hs.map (·.1),x∈es.map (·.1))
  (h8:∀(t:Nb) (H':Hp),DE (QE hs e.1 m)→Keep [] H H'→Q Ll H'):IspOne C vs H Q
def spOne(C:Nb):Sp:=λvs H Q _=>IspOne C vs H Q
def hs_cnt{hs:List Re}(nd:(hs.map (·.1)).Nodup):RC=cnt (hs.map (·.1)) OX:=by unfold cnt;rw[Zg];refine Yj λe he=>?_;show((Sum.inr e.1:Key),V.int e.2)=(SK,TH (Z8 e.1));rw[Fl he]
def zh1{r:Nq}{hs:List Re}{x:Str}{q:Str×Int}(h:q∈JM x):q.1∈hs.map (·.1)∧q.2≠Z8 q.1∧0≤q.2∧q.1∈r x:=by
 unfold trN at h;obtain⟨s,h1,h2⟩:=Xu.mp h;obtain⟨o,h3,rfl⟩:=Qe.mp h2;have h4:=Zf.mp h1;have h5:=Zf.mp h3;refine⟨of_decide_eq_true h4.2,λz=>?_,?_,chH_mem h4.1⟩
 ·have h6:(!decide (o=Z8 s))=true:=h5.2;rw[decide_eq_true z]at h6;cases h6
 have h7:=h5.1;simp at h7;show 0≤o;lia
def zgr{α:Type}{g:Nat→Option α×Nat}{t:List (Nat→Option α×Nat)}{m s n:Nat}{a:α}(h:s≠m)(hg:g (m-s-1)=(xB,n)):goB (g::t) m s=(xB,s+1+n):=by show(if s=m then(none,s) else _)=_;rw[if_neg h,hg]
def zgs{α:Type}{g:Nat→Option α×Nat}{t:List (Nat→Option α×Nat)}{m s n:Nat}(h:s≠m)(hg:g (m-s-1)=(none,n)):goB (g::t) m s=My (s+1+n):=by show(if s=m then(none,s) else _)=_;rw[if_neg h,hg]
def zie{es:List Ent}{hs:List Re}(W:WOk es)(nd:(hs.map (·.1)).Nodup)(h:∀x∈hs.map (·.1),x∈es.map (·.1)):hs.length≤16:=by have:=zcn nd h;rw[Qa,Qa]at this;exact Zi this W.few
def us_is{es:List Ent}{e:Ent}(nd:(es.map (·.1)).Nodup)(he:e∈es)(hs:List Re):(e.2.1.filter λz=>decide (z∈hs.map (·.1))).map OX=Z0 hs e.1:=by unfold usN;rw[Vd he]
def scOne:zam ["web", "hues", "place", "most", "steps", "start", "other", "swap"] ["web", "hues", "place", "most"] (zah sOne):=fsk
def ok_one{tk:Tok}(F:QD "by_one" "by_one" sOne f fd)(GT:ZI "tries" ["web", "hues", "place"] 2 yN)(GS:ZI "swap_of" ["web", "hues", "start", "other"] 3 (ziv C))(GX:ZI "swapped" ["hues", "swap"] 2 ze2)(GH:ZI "free_hue" ["web", "hues", "place", "many"] 2 Ah)(hF:mg "FOUR" = some (Ao 4)):ZB 4 f fd ["web", "hues", "place", "most"] (spOne C):=by
 refine F.okL scOne HN;obtain⟨x,dx,d,u,es,hs,e,m,rfl,wt,W,hh,he,hk,kq⟩:=h;have bh:VS _:=hr.mono HH;have ar:=sizeLine_eq;refine⟨_,zad (XA scOne.nd zai)
  (zad (ZX vA (Ei (BA scOne.nd) (Te (X5 scOne.nd)))
   (zad (X9 zao)
   (zad (ps_aug (i:=4) scOne.nd rfl Op zai ip_add)
   (zad (zax 7 scOne.nd (Hu (ZP (ZS vF))))
   (zaf (zbg (zbr (zg8 (VY bh (ZP (V8 (zU (zg7 (v:=.int 4) rfl hF ⟨tk,rfl⟩)))))))
    (zaf (En (zaa (zbs Ae) TQ))) zao))))))
  (zaf zF)),?_⟩
 have gG:=V9 hk;show Y' _;refine zjj (λ σ' H'=>Aj2 (σ'=[IL,Cv,EW,HW (.int (m:Int)),SL ((0:Nat):Int),none,none,none]) (H=H')) (λD' ci=>ci _ _ ⟨rfl,rfl⟩) ?_;rintro σ' H' ⟨rfl,rfl⟩;dsimp only;refine⟨vG,vG,vG,x,dx,d,u,es,hs,e,rfl,wt,W,hh,he,λl as H1 aI jK k1=>?_⟩;have tm:=@zh1 RZ hs e.1;have e0:QE hs e.1 m=goB ((W3 e.1).map λq _=>(if mex yO<4 then some [yQ] else none,0)) m 0:=rfl;generalize hT:W3 e.1=T at jK e0 tm;have rA:as.length=T.length:=Zr jK;refine⟨l,rfl,⟨_,HL aI⟩,za2 (xs:=as.map V.ref) (λi σ H'=>Aj3 (Ex3 λx5 x6 x7=>σ=[IL,Cv,EW,HW (.int (m:Int)),SL ((i:Nat):Int),x5,x6,x7]) wE (QE hs e.1 m=goB ((T.drop i).map λq _=>(if mex yO<4 then some [yQ] else none,0)) m i))
  ⟨⟨_,_,_,rfl⟩,Keep.refl,e0⟩ (λi σ H' _ hh=>SqL.of (C4 aI HA)) ?_ ?_⟩
 ·rintro i v σ H2 hv ⟨⟨x5,x6,x7,rfl⟩,k2,ei⟩;have hi:i<as.length:=by have:=(TJ hv).1;rwa[Qa]at this
  rw[Qk,Qb hi]at hv;cases hv;obtain⟨ap,bX⟩:=zat jK hi;rw[Yu ap,Qn]at ei;obtain⟨t1,t2,t3,t4⟩:=tm OO;have cb:=k2 _ _ bX HA;generalize T[i]=q at cb ei t1 t2 t3 t4;have ck:=k1.trans k2;refine⟨as[i],vG,Rx cb,rfl,_,vG,_,vG,rfl,vG,vG,rfl,vG,?_⟩;by_cases hm:i=m
  ·refine zbj (RE (by rw[hm])) ⟨_,rfl,Tg,λt ht=>?_⟩;have e1:QE hs e.1 m=(none,i):=by rw[ei];exact if_pos hm
   refine kq t _ (.no (by rw[e1]) (HP e1 zab)) (yP Lw)
  refine zau (decide_eq_false (λz=>hm (by injection z with z;lia))) ⟨_,rfl,_,_,rfl,rfl,?_⟩;have wk:∀{H':Hp},Keep [] H H'→WJ es:=λkk=>wt.keep kk HA HA λ_ _=>by simp
  refine⟨vG,vG,vG,vG,x,dx,d,u,es,hs,q.1,q.2,rfl,wk ck,W,Lh ck,hk,t1,t2,t3,λa H3 mI fa k3=>?_⟩;have hW:=ck.trans k3;refine⟨vG,vG,vG,H2,u,a,hs,yQ,rfl,Lh hW,mI,t1,λy hy=>ch_key t1 hy,gG,λu4 H4 fu h4 k4=>?_⟩;have lP:=hW.trans k4;refine⟨vG,x,dx,d,u4,es,e,(QW yQ).map (·.1),hu TF,4,rfl,wk lP,by rw[←hs_cnt h4.nd];exact h4.dc,he,X7 HH,HH,λH5 k5=>⟨_,rfl,?_⟩⟩;rw[MV he];have ng:=lP.trans k5;have si:=(mI.keep (CG k5)).old ck;have dQ:(((i+1:Nat):Nat):Int)=(i:Int)+1:=by lia
  unfold frV;by_cases hx:mex yO<4
  ·have rR:QE hs e.1 m=(some [yQ],i+1):=by exact ei.trans (zgr (a:=[yQ]) (n:=0) hm (by show(if _ then _ else _,0)=_;rw[if_pos hx]))
   rw[if_pos hx];refine WX ⟨_,rfl,OU,λl6 h6=>?_⟩;have k6:Keep [] H5 (QZ l6 (.lst [Sg])):=Keep.new h6;have g6:(QZ l6 (.lst [Sg])) l6=some (HR ([a].map V.ref)):=zab;generalize QZ l6 (.lst [Sg])=H6 at k6 g6;refine⟨vG,Tg,λt7 h7=>?_⟩;have k7:Keep [] H6 (YY t7 (.tup [HK l6,Rv ((i:Int)+1)])):=Keep.new h7;refine kq t7 _ (.yes l6 [yQ] (by rw[rR]) (by rw[rR,zab];rfl) ⟨[a],zav ng h6 HA,k7 _ _ g6 HA,SA (si.keep (OI k7))⟩) ((ng.trans k6).trans k7)
  have rR:=ei.trans (zgs hm (n:=0) (by show (if _ then _ else _,0)=_;rw[So hx]));rw[if_neg hx];refine Z2 ⟨⟨_,_,_,by rw[dQ];rfl⟩,((LY k3).trans k4).trans k5,rR⟩
 rintro σ H2 ⟨⟨x5,x6,x7,rfl⟩,k2,ei⟩;rw[Qa,rA,Um Rf]at ei;have e1:QE hs e.1 m=(none,T.length):=ei;exact⟨vG,Tg,λt ht=>kq t _ (.no (by rw[e1]) (by rw[e1,zab,Qa,rA])) ((TX k2).trans Lw)⟩
abbrev sTwo:Stmt:=top 30
theorem zhk:∀{gs:List (Nat→Option α×Nat)} {m s:Nat},goB gs m s=(xB,k)→∃g∈gs,∃b n,g b=(xB,n)
 |[],m,s,h=>by cases h
 |g::t,m,s,h=>by
  by_cases hm:s=m
  ·have:goB (g::t) m s=(none,s):=if_pos hm;rw[this]at h;cases h
  rcases hg:g (m - s - 1) with⟨_|a',n⟩
  ·rw[zgs hm hg]at h;obtain⟨g',h1,h2⟩:=zhk h;exact⟨g',QR h1,h2⟩
  rw[zgr hm hg]at h;cases h;exact⟨g,Qc,_,n,hg⟩
def zhc(h:(YN m).1=some L):∃q∈JM x,L=[zE]∧mex zC<4:=by
 have h':YN m=(HW L,(YN m).2):=Wx h rfl;unfold onN at h';obtain⟨g,hg,b,n,e⟩:=zhk h';obtain⟨q,hq,rfl⟩:=Qe.mp hg;have e1:(if mex zC<4 then some [zE] else none)=some L:=congrArg Prod.fst e;split at e1
 ·rename_i z;exact⟨q,hq,(Qo e1).symm,z⟩
 cases e1
def on_le(h:(r x).length≤16):(YN m).2≤m:=by
 obtain⟨R,N,_,e⟩:=on_bud (hs:=hs) h;rw[e];split
 ·assumption
 exact Qf _
inductive IspTwo(C:Nb)(vs:List V)(H:Hp)(Q:VK):Prop
 |mk (x dx d u:Nb) (es:List Ent) (hs:List (Str×Int)) (e:Ent) (m:Nat) (h0:vs=[.ref x,.ref u,.str e.1,.int (m:Int)]) (h1:WAt H C x dx d es) (h2:WOk es) (h3:HAt H u hs) (h4:e∈es) (h5:∀x∈hs.map (·.1),x∈es.map (·.1))
  (h8:∀(t:Nb) (H':Hp),DE (Z7 m)→Keep [] H H'→Q Ll H'):IspTwo C vs H Q
def spTwo(C:Nb):Sp:=λvs H Q _=>IspTwo C vs H Q
def scTwo:zam ["web", "hues", "place", "most", "steps", "start", "other", "first", "second", "more"] ["web", "hues", "place", "most"] (zah sTwo):=fsk
def ok_two(F:QD "by_two" "by_two" sTwo f fd)(GT:ZI "tries" ["web", "hues", "place"] 2 yN)(GS:ZI "swap_of" ["web", "hues", "start", "other"] 3 (ziv C))(GX:ZI "swapped" ["hues", "swap"] 2 ze2)(GO:ZI "by_one" ["web", "hues", "place", "most"] 4 (spOne C)) :
  FnOk P w K mg base CX0 5 f fd ["web", "hues", "place", "most"] (spTwo C):=by
 refine F.okL scTwo HN;obtain⟨x,dx,d,u,es,hs,e,m,rfl,wt,W,hh,he,hk,kq⟩:=h;have bh:VS _:=hr.mono HH;have lW:Room 3 _:=hr.mono HH;have ar:=sizeLine_eq;refine⟨_,zad (XA scTwo.nd zai)
  (zad (ZX vA (Ei (BA scTwo.nd) (Te (X5 scTwo.nd)))
   (zad (X9 zao)
   (zad (zax 7 scTwo.nd (AX GS lW vF))
   (zad (zdf (Ek GO hr (V8 (zU (Bg (Bg Cn Ib) zai)))) (Ei (Gz scTwo.nd) (Te (zal 9 scTwo.nd))))
   (zad (ps_aug (i:=4) scTwo.nd rfl Op (YT zai OW) ip_add)
   (zaf (zbg (zbr (zg8 CB))
    (zaf (En (zaa (Mt (zbs Ae) CB) TQ))) zao)))))))
  (zaf zF)),?_⟩
 have gG:=V9 hk;have aW:(ZJ e.1).length≤16:=by rw[Bi he];exact X8 he
 show Y' _;refine zjj (λ σ' H'=>Aj2 (σ'=[IL,Cv,EW,HW (.int (m:Int)),SL ((0:Nat):Int),none,none,none,none,none]) (H=H')) (λD' ci=>ci _ _ ⟨rfl,rfl⟩) ?_;rintro σ' H' ⟨rfl,rfl⟩;dsimp only;refine⟨vG,vG,vG,x,dx,d,u,es,hs,e,rfl,wt,W,hh,he,λl as H1 aI jK k1=>?_⟩;have tm:=@zh1 RZ hs e.1;obtain⟨G,hG⟩:∃G:Str×Int→Nat→Option O7×Nat,G=λq b=>((QE TF e.1 b).1.map (ZO q::·),(QE TF e.1 b).2):=⟨_,rfl⟩;have e0:Z7 m=goB ((W3 e.1).map G) m 0:=by rw[hG];rfl
 generalize hT:W3 e.1=T at jK e0 tm;have rA:as.length=T.length:=Zr jK;refine⟨l,rfl,⟨_,HL aI⟩,za2 (xs:=as.map V.ref) (λi σ H'=>Ex1 λs:Nat=>Aj4 (Ex5 λx5 x6 x7 x8 x9=>σ=[IL,Cv,EW,HW (.int (m:Int)),SL ((s:Nat):Int),x5,x6,x7,x8,x9]) wE (s≤m) (Z7 m=goB ((T.drop i).map G) m s))
  ⟨0,⟨_,_,_,_,_,rfl⟩,Keep.refl,SW,e0⟩ (λi σ H' _ hh=>SqL.of (by obtain⟨_,_,z,_,_⟩:=hh;exact z _ _ aI HA)) ?_ ?_⟩
 ·rintro i v σ H2 hv ⟨s,⟨x5,x6,x7,x8,x9,rfl⟩,k2,tF,ei⟩;have hi:i<as.length:=by have:=(TJ hv).1;rwa[Qa]at this
  rw[Qk,Qb hi]at hv;cases hv;obtain⟨ap,bX⟩:=zat jK hi;rw[Yu ap,Qn]at ei;obtain⟨t1,t2,t3,t4⟩:=tm OO;have cb:=k2 _ _ bX HA;generalize T[i]=q at cb ei t1 t2 t3 t4;have ck:=k1.trans k2;refine⟨as[i],vG,Rx cb,rfl,_,vG,_,vG,rfl,vG,vG,rfl,vG,?_⟩;by_cases hm:s=m
  ·refine zbj (RE (by rw[hm])) ⟨_,rfl,Tg,λt ht=>?_⟩;have e1:Z7 m=(none,s):=by rw[ei];exact if_pos hm
   refine kq t _ (.no (by rw[e1]) (HP e1 zab)) (yP Lw)
  refine zau (decide_eq_false (λz=>hm (by injection z with z;lia))) ?_;have wk:∀{H':Hp},Keep [] H H'→WJ es:=λkk=>wt.keep kk HA HA λ_ _=>by simp
  refine⟨vG,vG,vG,vG,x,dx,d,u,es,hs,q.1,q.2,rfl,wk ck,W,Lh ck,hk,t1,t2,t3,λa H3 mI fa k3=>?_⟩;have hW:=ck.trans k3;refine⟨vG,vG,vG,H2,u,a,hs,yQ,rfl,Lh hW,mI,t1,λy hy=>ch_key t1 hy,gG,λu4 H4 fu h4 k4=>?_⟩;have lP:=hW.trans k4;have em:(m:Int)-(s:Int)-1=((m-s-1:Nat):Int):=by lia
  refine⟨vG,vG,vG,_,vG,rfl,_,vG,rfl,x,dx,d,u4,es,TF,e,m-s-1,by rw[em];rfl,wk lP,W,h4,he,HP zel hk,λt5 H5 r5 k5=>?_⟩;have ng:=lP.trans k5;have si:=(mI.keep (CG k5)).old ck;have gu:=on_le (hs:=QW yQ) (m:=m-s-1) aW;have oR:G q (m-s-1)=((QE TF e.1 (m-s-1)).1.map (ZO q::·),(QE TF e.1 (m-s-1)).2):=by rw[hG]
  have h1L:=@zhc RZ TF e.1 (m-s-1);generalize QE TF e.1 (m-s-1)=p5 at r5 gu oR h1L;have dQ:(s:Int)+(1+(p5.2:Int))=((s+1+p5.2:Nat):Int):=by lia
  rcases r5 with⟨r0,r1⟩|⟨l5,L,r0,r1,r2⟩
  ·refine⟨t5,_,rfl,PJ,rfl,_,_,rfl,_,_,rfl,rfl,vG,vG,_,vG,rfl,_,vG,rfl,vG,vG,Z2 ?_⟩;rw[r0]at oR;exact⟨s+1+p5.2,⟨_,_,_,_,_,by rw[←dQ];rfl⟩,((LY k3).trans k4).trans k5,HB,ei.trans (zgs hm oR)⟩
  refine⟨t5,_,rfl,PJ,rfl,_,_,rfl,_,_,rfl,rfl,vG,vG,_,vG,rfl,_,vG,rfl,vG,vG,WX ?_⟩;rw[r0]at oR;have eo:Z7 m=(some (ZO q::L),s+1+p5.2):=ei.trans (zgr hm oR);obtain⟨mG,_,g5,lM⟩:=r2.old lP;obtain⟨q',_,eL,_⟩:=h1L r0;have aT:mG.length=1:=by rw[Zr lM,eL];rfl
  refine⟨vG,OU,λl6 h6=>?_⟩;have k6:Keep [] H5 (QZ l6 (.lst [Sg])):=Keep.new h6;have g6:(QZ l6 (.lst [Sg])) l6=some (.lst [Sg]):=zab;generalize QZ l6 (.lst [Sg])=H6 at k6 g6;refine⟨vG,l6,l5,_,vG,rfl,g6,k6 _ _ g5 HA,by rw[Qa,aT];show 1+1≤_;lia,λl7 h7=>?_⟩;have k7:Keep [] H6 (OE l7 ([LZ a]++mG.map V.ref)):=Keep.new h7;have g7:(OE l7 ([LZ a]++mG.map V.ref)) l7=some (HR ((a::mG).map V.ref)):=zab;generalize YY l7 (HR ([LZ a]++mG.map V.ref))=H7 at k7 g7;refine⟨vG,Tg,λt8 h8=>?_⟩;have k8:Keep [] H7 (UL t8 (.tup [HK l7,Rv ((s:Int)+(1+(p5.2:Int)))])):=Keep.new h8;have sK:=(OI k7).trans k8;refine kq t8 _ (.yes l7 (ZO q::L) (by rw[eo]) (by rw[eo,zab];exact congrArg (λz=>some (HO.tup [LZ l7,TH z])) dQ) ⟨a::mG,zav (ng.trans k6) h7 HA,k8 _ _ g7 HA,.cons (si.keep sK) (Paired.imp' (λ_ _ z=>z.keep sK) lM)⟩) (ng.trans sK)
 rintro σ H2 ⟨s,⟨x5,x6,x7,x8,x9,rfl⟩,k2,tF,ei⟩;rw[Qa,rA,Um Rf]at ei;have e1:Z7 m=(none,s):=ei;exact⟨vG,Tg,λt ht=>kq t _ (.no (by rw[e1]) (by rw[e1,zab])) ((TX k2).trans Lw)⟩
abbrev sFs:Stmt:=top 31
abbrev sBack:Stmt:=top 25
def WOf(hs:List Re)(w:Swap):Prop:=w.1∈hs.map (·.1)∧∀y∈w.2.2,y∈hs.map (·.1)
def wof_sw(h:q.1∈hs.map (·.1)):WOf hs zE:=⟨h,λy hy=>ch_key h hy⟩
end
def fs_some(h:(YO m).1=some L):(∀ w∈L,WOf hs w)∧mex Im < 4:=by
 unfold fsN at h;split at h
 ·rename_i z;cases h;exact⟨λw hw=>(by cases hw),z⟩
 rcases ho:YN m with⟨_|L1,n⟩
 ·rw[ho]at h;have h':(Q7 (m-n)).1=some L:=h;have h2:Q7 (m-n)=(HW L,(Q7 (m-n)).2):=Wx h' rfl;unfold twN at h2;obtain⟨g,hg,b,k,e⟩:=zhk h2;obtain⟨q,hq,rfl⟩:=Qe.mp hg;have e1:(ZY b).1.map (swN r hs q::·)=some L:=congrArg Prod.fst e;cases dH:(ZY b).1 with
  |none=>rw[dH]at e1;cases e1
  |some L2=>
   rw[dH]at e1;obtain⟨q',cZ,rfl,hm⟩:=zhc dH;cases e1;refine⟨λw hw=>?_,hm⟩;rcases Qi.mp hw with z|z
   ·rw[z];exact wof_sw (zh1 hq).1
   rw[CI z];have:=wof_sw (r:=r) (zh1 cZ).1;unfold WOf at this ⊢;rw[zel]at this;exact this
 rw[ho]at h;have h1:some L1=some L:=h;cases h1;obtain⟨q,hq,rfl,hm⟩:=zhc (L:=L) (show(YN m).1=some L by rw[ho]);refine⟨λw hw=>?_,hm⟩;rw[Qd.mp hw];exact wof_sw (zh1 hq).1
theorem zby:∀(L:List Swap) (hs:List Re),(Z3 hs).map (·.1)=hs.map (·.1)
 |[],_=>rfl
 |w::t,hs=>by rw[Jm,zby t,zel]
inductive IspFs(C:Nb)(vs:List V)(H:Hp)(Q:VK):Prop
 |mk (x dx d u:Nb) (es:List Ent) (hs:List (Str×Int)) (e:Ent) (m:Nat) (h0:vs=[.ref x,.ref u,.str e.1,.int (m:Int)]) (h1:WAt H C x dx d es) (h2:WOk es) (h3:HAt H u hs) (h4:e∈es) (h5:∀x∈hs.map (·.1),x∈es.map (·.1))
  (h8:∀(t:Nb) (H':Hp),DE (QL m)→Keep [] H H'→Q Ll H'):IspFs C vs H Q
def spFs(C:Nb):Sp:=λvs H Q _=>IspFs C vs H Q
inductive IspBack(C:Nb)(vs:List V)(H:Hp)(Q:VK):Prop
 |mk (B:Hp) (x dx d u l:Nb) (es:List Ent) (hs:List (Str×Int)) (e:Ent) (L:List Swap) (h0:vs=[.ref x,.ref u,.str e.1,.ref l,.int 4]) (h1:WAt H C x dx d es) (h2:WOk es) (h3:HAt H u hs) (h4:e∈es) (h5:∀x∈hs.map (·.1),x∈es.map (·.1)) (h6:e.1∉hs.map (·.1)) (h7:zdv B H l L) (h7':∀w∈L,WOf hs w) (h7'':mex (usN (row (rsOf es)) (L.foldl exN hs) e.1)<4)
  (h8:∀(t a b:Nb) (H':Hp),H' t=some (.tup [Sg,EK])→H' a=some (.tup [Si,Rv (mex Lo:Nat),SO])→JZ b (MX L)→Keep [] H H'→Q Ll H'):IspBack C vs H Q
def spBack(C:Nb):Sp:=λvs H Q _=>IspBack C vs H Q
section
variable{P:Nk}{w:Nl}{K:Na}{mg:Nd}{base:Nn}
def scFs:zam ["web", "hues", "place", "most", "swaps", "steps", "more"] ["web", "hues", "place", "most"] (zah sFs):=fsk
def ok_fs(F:QD "four_swaps" "four_swaps" sFs f fd)(GH:ZI "free_hue" ["web", "hues", "place", "many"] 2 Ah)(GO:ZI "by_one" ["web", "hues", "place", "most"] 4 (spOne C))(GT:ZI "by_two" ["web", "hues", "place", "most"] 5 (spTwo C))(hF:mg "FOUR" = some (Ao 4)):ZB 6 f fd ["web", "hues", "place", "most"] (spFs C):=by
 refine F.okL scFs HN;obtain⟨x,dx,d,u,es,hs,e,m,rfl,wt,W,hh,he,hk,kq⟩:=h;have bh:VS _:=hr.mono HH;have jo:Room 4 _:=hr.mono HH;have ar:=sizeLine_eq;refine⟨_,zad (zbg (zbr (zg8 (VY bh (ZP (ZS (zU (zg7 (v:=.int 4) rfl hF ⟨tk,rfl⟩)))))))
   (zaf (En (zaa Tq Ty))) zao)
  (zad (zdf (AX GO jo (ZU Tw)) (W2 (Hv (Te (BA scFs.nd)))))
  (zad (EC (zg8 Sy) (En (QV PM)))
  (zad (zdf (AX GT hr (ZU (Sa (Bg Cn OV)))) (W2 (Hv (Te (X5 scFs.nd)))))
  (zaf (En (QV (Sa (YT OV LI)))))))),?_⟩
 have gG:=V9 hk;have aW:(ZJ e.1).length≤16:=by rw[Bi he];exact X8 he
 have wk:∀{H':Hp},Keep [] H H'→WJ es:=λkk=>wt.keep kk HA HA λ_ _=>by simp
 refine⟨vG,vG,vG,x,dx,d,u,es,e,hs.map (·.1),OX,4,rfl,wt,by rw[←hs_cnt hh.nd];exact hh.dc,he,X7 HH,HH,λH1 k1=>⟨_,rfl,?_⟩⟩;rw[MV he];unfold frV;by_cases hx:mex (Z0 hs e.1)<4
 ·rw[Sx hx];have ef:QL m=(some [],0):=by unfold fsN;rw[if_pos hx]
  refine WX ⟨Cm,λl2 h2=>⟨Tg,λt3 h3=>kq t3 _ (.yes l2 [] (by rw[ef]) (by rw[ef,zab];rfl) ⟨[],FY h2 HA,?_,.nil⟩) ((TX Pw).trans Px)⟩⟩;rw[zag (zac (o:=_) zab h3)];exact zab
 rw[if_neg hx];have ef:fsN (row (rsOf es)) hs e.1 m=match onN (row (rsOf es)) hs e.1 m with
  |(some L,n)=>(HW L,n)
  |(none,n)=>((Z7 (m-n)).1,n+(Z7 (m-n)).2):=by
  show(if _ then _ else _)=_;rw[if_neg hx]
  try(rcases QE hs e.1 m with⟨_|_,_⟩<;>rfl)
 refine Z2 ⟨vG,vG,vG,vG,x,dx,d,u,es,hs,e,m,rfl,wk k1,W,Lh k1,he,hk,λt2 H2 r2 k2=>?_⟩;have ck:=k1.trans k2;have gu:=on_le (hs:=hs) (m:=m) aW;generalize QE hs e.1 m=p2 at r2 gu ef;rcases r2 with⟨r0,r1⟩|⟨l2,L,r0,r1,r2⟩
 ·refine⟨t2,_,rfl,PJ,rfl,_,_,rfl,_,_,rfl,rfl,vG,vG,Z2 ?_⟩;have em:(m:Int)-(p2.2:Int)=((m-p2.2:Nat):Int):=by lia
  have jE:QL m=((Z7 (m-p2.2)).1,p2.2+(Z7 (m-p2.2)).2):=by
   rw[ef];rcases p2 with⟨_|_,n⟩
   ·rfl
   cases r0
  refine⟨vG,vG,vG,vG,vG,_,vG,rfl,x,dx,d,u,es,hs,e,m-p2.2,by rw[em];rfl,wk ck,W,Lh ck,he,hk,λt3 H3 r3 k3=>?_⟩;generalize Z7 (m-p2.2)=p3 at r3 jE;have dO:(p2.2:Int)+(p3.2:Int)=((p2.2+p3.2:Nat):Int):=by lia
  rcases r3 with⟨sn,lI⟩|⟨l3,L3,sn,lI,lH⟩
  ·exact⟨t3,_,rfl,Rx lI,rfl,_,_,rfl,_,_,rfl,rfl,vG,vG,vG,_,vG,rfl,Tg,λt4 h4=>kq t4 _ (.no (HP jE sn) (by rw[jE,zab,dO])) ((yP k3).trans Pz)⟩
  exact⟨t3,_,rfl,Rx lI,rfl,_,_,rfl,_,_,rfl,rfl,vG,vG,vG,_,vG,rfl,Tg,λt4 h4=>kq t4 _ (.yes l3 L3 (HP jE sn) (by rw[jE,zab,dO]) ((lH.keep Pz).old ck)) ((yP k3).trans Pz)⟩
 refine⟨t2,_,rfl,PJ,rfl,_,_,rfl,_,_,rfl,rfl,vG,vG,WX ?_⟩;have jE:QL m=(HW L,p2.2):=by
  rw[ef];rcases p2 with⟨_|_,n⟩
  ·cases r0
  cases r0;rfl
 exact⟨vG,vG,Tg,λt4 h4=>kq t4 _ (.yes l2 L (by rw[jE]) (by rw[jE,zab]) ((r2.keep Pz).old k1)) (yP Pz)⟩
end
end K21
namespace L2
open PySem PySem.Spec PyProof.Rows
section
variable{X:Cx}
theorem fm_some{β γ:Type}{f:β→Option γ}{g:β→γ}:∀{l:List β},(∀x∈l,f x=some (g x))→l.filterMap f=l.map g
 |[],_=>rfl
 |a::t,h=>by rw[List.filterMap_cons,h a Qc,Qn,fm_some λx hx=>h x Co]
def pick_sr(a7:Nj):slicePick a7.toArray none none (HW (-1))=a7.reverse.toArray:=by
 unfold slicePick sliceBounds;simp only[Option.getD_some,show ¬((-1:Int)>0) by decide,if_false,Qv];congr 1;unfold sliceRange;simp only[show ¬((-1:Int)>0) by decide,if_false];have hc:(if((a7.length:Int)-1) > -1 then(((a7.length:Int)-1) - -1 - -1-1)/(- -1) else 0).toNat=a7.length:=by
  split
  ·rw[show(- (-1:Int))=1 from rfl,Int.ediv_one];lia
  lia
 rw[hc,List.filterMap_map];have hk:∀k∈List.range a7.length,((a7.toArray[·]?)∘λ(k:Nat)=>(((a7.length:Int)-1)+-1*(k:Int)).toNat) k=some (a7.reverse.getD k .none):=λk hk=>by
  have hk:=Yz.mp hk;have e:(((a7.length:Int)-1)+-1*(k:Int)).toNat=a7.length-1-k:=by lia
  show a7.toArray[(((a7.length:Int)-1)+-1*(k:Int)).toNat]?=_;rw[e,List.getElem?_toArray,Ze,List.getElem?_reverse hk];rw[Qb HB];rfl
 rw[fm_some hk];apply Kq
 ·simp
 intro i h1 h2;have h3:i<a7.reverse.length:=h2;rw[Zl,Ub,Ze,Qb h3];rfl
def pe_sr(he:Cj):Z9 (.Subscript e Lr pos) (λ σ H Q=>te σ H λx H1=>Ex2 λa xs=>Aj3 (x=.ref a) (SqL X.K H1 a xs) (∀p,H1 p=none→Q TB (QA p OF))):=by intro a5 s σ H Q I h;refine Subscript_ (thn Sm λv s1 ⟨x,H1,I1,r1,a,xs,ex,hx,q⟩=>?_);subst ex;cases r1;refine wpAny_Slice (thn (zdm (X:=X) a5 s1 σ H1 (λo H'=>o=none∧H'=H1) I1 ⟨rfl,rfl⟩) λvl s2 ⟨l,H2,I2,pl,el,eh⟩=>?_);subst el;subst eh;refine thn (zdm (X:=X) a5 s2 σ H2 (λo H'=>o=none∧H'=H2) I2 ⟨rfl,rfl⟩) λvu s3 ⟨l,H3,I3,pu,el,eh⟩=>?_;subst el;subst eh;refine thn (zck (X:=X) (pe_un un_neg (zai (X:=X))) a5 s3 σ H3 (λo H'=>o=some (-1)∧H'=H3) I3 ⟨_,rfl,_,rfl,rfl,rfl⟩) λvs s4 ⟨l,H4,I4,ps,el,eh⟩=>?_;subst el;subst eh;have I5:ZA H4 {s4 with heap:=s4.heap.push {cls:=.type "slice",data:=.fields #[vl,vu,vs]}}:=I4.kept (t':=s4.toks) λb ob q=>WF q;obtain⟨a7,r,ht,hz⟩:=I5.list hx;have ae:=r.length;show ZF (subscriptTail e Lr Sg zG) Lu X.xe {s4 with heap:=s4.heap.push {cls:=.type "slice",data:=.fields #[vl,vu,vs]}};refine tail_any (ops:=[Sg,zG]) ht.isList.typeIs slot_list_getitem.lookup ?_ (by with_unfolding_all rfl);refine K6 (Heap.IsSliceOf.new ..) pl pu ps HH ?_ (by rw[Qv]<;>exact zfr ‹_› ‹_›);rw[pick_sr];refine⟨HK _,_,I5.laid (t':=s4.toks) (o:=.lst xs.reverse) (λb ob q=>WF q) Rf ?_,rfl,q _ (I5.hok.fresh Rf)⟩;exact⟨by rw[List.length_reverse];exact hz,_,0,r.reverse,To⟩
end
end L2
namespace K21
open PySem L2 Wb
abbrev sFp:Stmt:=top 32
section
variable{P:Nk}{w:Nl}{K:Na}{mg:Nd}{base:Nn}
def scBack:zam ["web", "hues", "place", "swaps", "many", "swap", "behind"] ["web", "hues", "place", "swaps", "many"] (zah sBack):=fsk
def ok_back(F:QD "come_back" "come_back" sBack f fd)(GX:ZI "swapped" ["hues", "swap"] 2 ze2)(GH:ZI "free_hue" ["web", "hues", "place", "many"] 2 Ah)(aO:mg "dict" = none):ZB 3 f fd ["web", "hues", "place", "swaps", "many"] (spBack C):=by
 refine F.okL scBack HN;obtain⟨B,x,dx,d,u,l,es,hs,e,L,rfl,wt,W,hh,he,hk,uC,⟨as,_,hl,pa⟩,hL,qY,kq⟩:=h;have aq:=zb7 hr;have ar:=sizeLine_eq;refine⟨_,zad (ZX (EU Sn) (BA scBack.nd)
   (zaf (NQ scBack.nd (pcl GX hr (ZS PM)))))
  (zad (NT scBack.nd (yM SQ))
  (zad (zb2 aq LI Ss (VY hr (ZP (ZS (ZU TQ)))) rfl)
  (zaf (En (zaa (zbq (ZU (zaa (zbi aq LI Ss) Tw))) CC))))),?_⟩
 have gG:=V9 hk;have wk:∀{H':Hp},Keep [] H H'→WJ es:=λkk=>wt.keep kk HA HA λ_ _=>by simp
 have jD:as.length=L.length:=Zr pa;refine⟨_,rfl,l,rfl,⟨_,HL hl⟩,za2 (xs:=as.map V.ref) (λi σ H'=>Ex1 λu':Addr=>Aj3 (Ex1 λx5=>σ=[IL,HC u',EW,CW,SL 4,x5,none]) Cz (JZ u' ((yF i).foldl exN hs)))
  ⟨u,⟨_,rfl⟩,Keep.refl,hh⟩ (λi σ H' _ hh=>SqL.of (by obtain⟨_,_,z,_⟩:=hh;exact z _ _ hl HA)) ?_ ?_⟩
 ·rintro i v σ H2 hv ⟨u2,⟨x5,rfl⟩,k2,h2⟩;have hi:i<as.length:=by have:=(TJ hv).1;rwa[Qa]at this
  rw[Qk,Qb hi]at hv;cases hv;obtain⟨ap,hq⟩:=zat pa hi;have tk:L.take Rm=L.take i++[L[i]]:=Qh ap;have hw:=hL _ OO;generalize L[i]=w' at hq tk hw;refine⟨vG,vG,B,u2,as[i],_,w',rfl,h2,hq.keep k2,by rw[zby];exact hw.1,by rw[zby];exact hw.2,?_,λu3 H3 fu h3 k3=>⟨u3,⟨_,rfl⟩,LY k3,by rw[tk,Km];exact h3⟩⟩;have:=congrArg List.length (zby (yF i) hs);rw[Qa,Qa]at this;lia
 rintro σ H2 ⟨u2,⟨x5,rfl⟩,k2,h2⟩;rw[Qa,jD,Qr Rf]at h2;have hfk:=zby L hs;have gO:(Z3 hs).length≤16:=by have:=congrArg List.length hfk;rw[Qa,Qa]at this;lia
 refine⟨vG,u2,vG,h2.hf.dc,λb hb=>?_⟩;have k3:Keep [] H2 (QI b (.dK ((Z3 hs).map λe=>HI))):=Keep.new hb;have f7:HAt (QI b (.dK ((Z3 hs).map λe=>HI))) b (Z3 hs):=⟨zab,h2.nd⟩;generalize QI b (.dK ((Z3 hs).map λe=>HI))=H3 at k3 f7;have hW:=k2.trans k3;have h23:=h2.keep k3 HA;refine⟨vG,vG,vG,vG,x,dx,d,u2,es,e,(Z3 hs).map (·.1),hu (Z3 hs),4,rfl,wk hW,by rw[←hs_cnt h23.nd];exact h23.dc,he,X7 HH,HH,λH4 k4=>?_⟩;rw[MV he];have efr:frV Lo 4=.int (mex Lo:Nat):=by unfold frV;rw[if_pos qY]
 rw[efr];have pL:=f7.keep k4 HA;have md:e.1∉(Z3 hs).map (·.1):=by rw[hfk];exact uC
 refine⟨vG,vG,b,vG,DPut.k (k:=Sum.inr e.1) pL.dc SY,?_⟩;have jC:=pL.new (mex Lo:Int) md;have fb:H b=none:=zav k2 hb HA;have k5:Keep [] H (QQ b (.dK (putK ((Z3 hs).map λe=>HI) SK (Rv (mex Lo:Nat))))):=(hW.trans k4).fr fb;generalize QQ b (.dK (putK ((Z3 hs).map λe=>HI) SK (Rv (mex Lo:Nat))))=H5 at jC k5;have g5:=jC.hf.get SK;rw[zbf jC.nd (e:=(e.1,(mex Lo:Int))) ER]at g5;refine⟨vG,vG,vG,b,vG,g5,vG,zw,λa6 h6=>?_⟩;have k6:Keep [] H5 (QZ a6 (.tup [Si,Rv (mex Lo:Nat),SO])):=Keep.new h6;have g6:(QZ a6 (.tup [Si,Rv (mex Lo:Nat),SO])) a6=some (.tup [Si,Rv (mex Lo:Nat),SO]):=zab;generalize QZ a6 (.tup [Si,Rv (mex Lo:Nat),SO])=H6 at k6 g6;refine⟨vG,Tg,λt7 h7=>?_⟩;have k7:Keep [] H6 (YY t7 (.tup [HK a6,EK])):=Keep.new h7;exact kq t7 a6 b _ zab (k7 _ _ g6 HA) (jC.keep (OI k7) HA) ((CD k6).trans k7)
inductive StAt(B H:Hp)(a:Nb)(sp:Step):Prop
 |mk(l:Nb)(h1:H a=some (.tup [.str sp.1,.int sp.2.1,.ref l]))(h2:zdv B H l sp.2.2)
end
def SwAt.kb(h:Vg w)(k:Keep [p] H H')(hB:B p=some o)(hp:H p=some Tj):SwAt B H' a w:=by obtain⟨l,h0,h1,h2⟩:=h;exact⟨l,h0,k _ _ h1 (by simpa using Do hp HJ),k _ _ h2 (by simpa using λz:l=p=>(by rw[z,hB]at h0;cases h0))⟩
def zdv.kb(h:NW L)(k:Keep [p] H H')(hB:B p=some o)(hp:H p=some Tj):zdv B H' l L:=by obtain⟨as,h0,h1,h2⟩:=h;exact⟨as,h0,k _ _ h1 (by simpa using λz:l=p=>(by rw[z,hB]at h0;cases h0)),Paired.imp' (λ_ _ z=>z.kb k hB hp) h2⟩
def StAt.kb(h:Vh H a sp)(k:Keep [p] H H')(hB:B p=some o)(hp:H p=some Tj):Vh H' a sp:=by obtain⟨l,h1,h2⟩:=h;exact⟨l,k _ _ h1 (by simpa using Do hp HJ),h2.kb k hB hp⟩
def StAt.keep(h:Vh H a sp)(k:RH H):Vh H' a sp:=by obtain⟨l,h1,h2⟩:=h;exact⟨l,O4 h1,h2.keep k⟩
def SwAt.ol(h:Vg w)(k:∀c,B c=none→B' c=none):GJ H a w:=by obtain⟨l,h0,h1,h2⟩:=h;exact⟨l,k _ h0,h1,h2⟩
def zdv.ol(h:NW L)(k:∀c,B c=none→B' c=none):zdv B' H l L:=by obtain⟨as,h0,h1,h2⟩:=h;exact⟨as,k _ h0,h1,Paired.imp' (λ_ _ z=>z.ol k) h2⟩
inductive PapAt(H:Hp)(t:Nb)(p:Option (List Step)×Nat):Prop
 |no (h0:p.1=none) (h1:H t=some (.tup [.non,.int (p.2:Nat)])):PapAt H t p
 |yes (l:Nb) (as:No) (B:Hp) (L:List Step) (h0:p.1=some L) (h1:H t=some (.tup [.ref l,.int (p.2:Nat)])) (h2:H l=some (.lst (as.map V.ref))) (h3:Paired (StAt B H) as L):PapAt H t p
def zjq(h:YO (m-s)=(none,n)):fpN r (x::t) hs m s=(none,s+n):=by show(match fsN r hs x (m-s) with|(none,n)=>(none,s+n)|(some L,n)=>_)=_;rw[h]
def zjp(h:YO (m-s)=(HW L,n)):fpN r (x::t) hs m s=((UX (s+n)).1.map ((x,(mex Im:Int),L)::·),(UX (s+n)).2):=by show(match fsN r hs x (m-s) with|(none,n)=>(none,s+n)|(some L,n)=>((fpN r t (cbN r hs x L) m (s+n)).1.map ((x,(mex (usN r (L.foldl exN hs) x):Int),L)::·),(fpN r t (cbN r hs x L) m (s+n)).2))=_;rw[h]
def fs_le(h:(r x).length≤16):(YO m).2≤m:=by
 obtain⟨R,N,_,e⟩:=fs_bud (hs:=hs) h;rw[e];split
 ·assumption
 exact Qf _
inductive IspFp(C:Nb)(vs:List V)(H:Hp)(Q:VK):Prop
 |mk (x dx d:Nb) (es:List Ent) (m:Nat) (h0:vs=[.ref x,.int (m:Int)]) (h1:WAt H C x dx d es) (h2:WOk es)
  (h8:∀(t:Nb) (T:Ng) (H':Hp),IsOrder (es.map (·.1)) RZ T→PapAt H' t (WH T.reverse [] m 0)→Keep [] H H'→Q Ll H'):IspFp C vs H Q
def spFp(C:Nb):Sp:=λvs H Q _=>IspFp C vs H Q
section
variable{P:Nk}{w:Nl}{K:Na}{mg:Nd}{base:Nn}
def scFp:zam ["web", "most", "paper", "hues", "steps", "place", "swaps", "more", "step"] ["web", "most"] (zah sFp):=fsk
def ok_fp(F:QD "four_paper" "four_paper" sFp f fd)(GO:ZI "order" ["web"] 2 (spOrder C))(GS:ZI "four_swaps" ["web", "hues", "place", "most"] 6 (spFs C))(GB:ZI "come_back" ["web", "hues", "place", "swaps", "many"] 3 (spBack C))(hF:mg "FOUR" = some (Ao 4)):ZB 7 f fd ["web", "most"] (spFp C):=by
 refine F.okL scFp HN;obtain⟨x,dx,d,es,m,rfl,wt,W,kq⟩:=h;have bh:VS _:=hr.mono HH;have lW:Room 3 _:=hr.mono HH;have ar:=sizeLine_eq;refine⟨_,zad (NU scFp.nd Tq)
  (zad (Xz scFp.nd zei)
  (zad (XA scFp.nd zai)
  (zad (ZX (EU (pe_sr (pcl GO bh Ta))) (BA scFp.nd)
   (zad (zdf (Hu (ZP (QC (QP (Sa (Bg Rz Ib)))))) (Ei (X5 scFp.nd) (Te (Gv scFp.nd))))
   (zad (ps_aug (i:=4) scFp.nd rfl Op LK ip_add)
   (zad (EC (pc_isN LI) zF)
   (zad (zdf (Ek GB lW (QC (QP (W1 (Sa (zg7 (v:=.int 4) rfl hF ⟨tk,rfl⟩)))))) (Ei (Gz scFp.nd) (Te (NO scFp.nd))))
   (zaf (EQ Ss (Gg zae))))))))
  (zaf (En (ZU TQ)))))),?_⟩
 refine⟨Cm,λpl aH=>λu0 cn=>?_⟩;have k1:Keep [] H (upd Ai u0 (.dK [])):=(HV aH).trans (HV cn);have npu:pl≠u0:=zac (o:=_) zab cn;have g1:(upd Ai u0 (.dK [])) pl=some (HR (([]:List Addr).map V.ref)):=by rw[zag npu];exact zab
 have h1:HAt (upd Ai u0 (.dK [])) u0 []:=⟨zab,Zk⟩;generalize upd Ai u0 (.dK [])=H1 at k1 g1 h1;have wk:∀{H':Hp},Keep [] H H'→WJ es:=λkk=>wt.keep kk HA HA λ_ _=>by simp
 show Y' _;refine zjj (λ σ' H'=>Aj2 (σ'=[IL,HW (.int (m:Int)),HC pl,HC u0,SL ((0:Nat):Int),none,none,none,none]) (H1=H')) (λD' ci=>ci _ _ ⟨rfl,rfl⟩) ?_;rintro σ' H' ⟨rfl,rfl⟩;dsimp only;refine⟨vG,x,dx,d,es,rfl,wk k1,Zi W.few HH,W.rn,W.sy,λol T H2 qX O fol k2=>⟨ol,vG,HL qX,λrl aW=>?_⟩⟩;rw[←List.map_reverse];have k3:Keep [] H1 (QI rl Lp):=k2.trans (HV aW);have g3:(QI rl Lp) rl=some Lp:=zab;have nrp:rl≠pl:=Zm (yp (Ce g1) aW);generalize QI rl Lp=H3 at k3 g3;have hRn:T.reverse.Nodup:=(Uz T).nodup_iff.mpr O.nd;have uT:∀y∈T.reverse,y∈es.map (·.1):=λy hy=>O.pm.mem_iff.mp (List.mem_reverse.mp hy);have hRl:T.reverse.length≤16:=by rw[List.length_reverse,O.pm.length_eq,Qa];exact W.few
 have kq':=kq;clear kq;obtain⟨R,hR⟩:∃R,R=T.reverse:=⟨_,rfl⟩;rw[←hR]at g3 hRn uT hRl;have fin:∀(t:Nb) (H':Hp),PapAt H' t (WH R [] m 0)→Keep [] H H'→Q Ll H':=λt H' p k=>kq' t T H' O (hR▸p) k;have kH:∀{H':Hp},Keep [pl] H3 H'→Keep [] H H':=λkk c o ec _=>kk c o (Pg CH) (by simpa using W0 aH);refine⟨rl,rfl,⟨_,Av⟩,zfl (zs:=R) (λi σ H'=>Ex5 λ(u:Nb) (s:Nat) (hs:List Re) (as:No) (Pd:List Step)=>Aj9 (as.length=i) (Ex4 λx5 x6 x7 x8=>σ=[IL,HW (.int (m:Int)),HC pl,Cv,SL ((s:Nat):Int),x5,x6,x7,x8]) (Keep [pl] H3 H') (s≤m) (JZ u hs) (hs.map (·.1)=R.take i) (H' pl=some Sl) (yC (StAt H3 H') as Pd) (WH R [] m 0=((WH (R.drop i) hs m s).1.map (Pd++·),(WH (R.drop i) hs m s).2)))
  ⟨u0,0,[],[],[],rfl,⟨_,_,_,_,rfl⟩,Keep.refl,SW,h1.keep k3 HA,rfl,Pg g1,.nil,?_⟩ (λi σ H' _ hh=>SqL.of (by obtain⟨_,_,_,_,_,_,_,z,_⟩:=hh;exact z _ _ g3 (HE nrp))) ?_ ?_⟩
 ·rw[List.drop_zero];refine Wx ?_ rfl;show _=Option.map (λx=>[]++x) _;cases(WH R [] m 0).1<;>rfl
 ·rintro i hi σ H4 ⟨u,s,hs,as,Pd,aT,⟨x5,x6,x7,x8,rfl⟩,k4,tF,h4,br,iN,su,ei⟩;have hx:R[i]∉hs.map (·.1):=by rw[br];exact zey hRn hi
  have hkm:∀y∈hs.map (·.1),y∈es.map (·.1):=λy hy=>uT y (Ue (br▸hy));have tk:R.take Rm=R.take i++[R[i]]:=Qh hi;rw[Yu hi]at ei;obtain⟨e,he,ee⟩:=Qe.mp (uT _ wH);have lC:e.1=R[i]:=ee;rw[←lC]at hx tk ei ⊢;have aW:(ZJ e.1).length≤16:=by rw[Bi he];exact X8 he
  have em:(m:Int)-(s:Int)=((m-s:Nat):Int):=by lia
  refine⟨vG,vG,vG,vG,vG,_,vG,rfl,x,dx,d,u,es,hs,e,m-s,by rw[em];rfl,wk (kH k4),W,h4,he,hkm,λt5 H5 r5 k5=>?_⟩;have gu:=fs_le (hs:=hs) (m:=m-s) aW;have jj:=@fs_some RZ hs e.1 (m-s);have uv:QL (m-s)=((QL (m-s)).1,(QL (m-s)).2):=rfl;generalize aY:QL (m-s)=p5 at r5 gu jj uv;have dQ:(s:Int)+(p5.2:Int)=((s+p5.2:Nat):Int):=by lia
  rcases r5 with⟨r0,r1⟩|⟨l5,L,r0,r1,r2⟩
  ·refine⟨t5,_,rfl,PJ,rfl,_,_,rfl,_,_,rfl,rfl,vG,vG,_,vG,rfl,vG,vG,WX ?_⟩;have e1:WH R [] m 0=(none,s+p5.2):=by rw[ei,zjq (n:=p5.2) (by rw[aY,uv,r0])];rfl
   exact⟨vG,Tg,λt6 h6=>fin t6 _ (.no (by rw[e1]) (by rw[e1,zab];exact congrArg (λz=>some (HO.tup [V.non,TH z])) dQ)) (((kH k4).trans k5).trans (HV h6))⟩
  refine⟨t5,_,rfl,PJ,rfl,_,_,rfl,_,_,rfl,rfl,vG,vG,_,vG,rfl,vG,vG,Z2 ?_⟩;obtain⟨cX,cq⟩:=jj r0;refine⟨vG,vG,vG,vG,H4,x,dx,d,u,l5,es,hs,e,L,rfl,wk ((kH k4).trans k5),W,h4.keep k5 HA,he,hkm,hx,r2,cX,cq,λt6 a6 b6 H6 g6 ga6 lu k6=>⟨t6,vG,Rx g6,rfl,_,vG,_,vG,rfl,?_⟩⟩;have sL:=k5.trans k6;have gm:=sL _ _ iN HA;have hB:H3 pl=some (HR (([]:List Addr).map V.ref)):=k3 _ _ g1 HA;refine⟨vG,.inl ⟨rfl,_,HL gm⟩,vG,pl,_,vG,rfl,gm,SY,?_⟩;have k7:Keep [pl] H6 (OE pl (as.map V.ref++[LZ a6])):=Keep.wr Qc;have g7:(OE pl (as.map V.ref++[LZ a6])) pl=some (HR ((as++[a6]).map V.ref)):=by rw[zab,Qp];rfl
  generalize YY pl (HR (as.map V.ref++[LZ a6]))=H7 at k7 g7;have old:∀c,H4 c=none→H3 c=none:=λc hc=>zav k4 hc (by simpa using λz:c=pl=>(by rw[z,iN]at hc;cases hc));have st6:StAt H3 H6 a6 (e.1,(mex Lo:Int),L):=⟨l5,ga6,(r2.keep k6).ol old⟩;refine⟨b6,s+p5.2,MX L,as++[a6],Pd++[(e.1,(mex Lo:Int),L)],by rw[Za,aT];rfl,⟨_,_,_,_,by rw[←dQ];rfl⟩,(CG (sL.sub HA)).trans k7,HB,lu.keep k7 (by simpa using za8 lu.dc gm HJ),?_,g7,?_,?_⟩
  ·unfold cbN;rw[Qp,zby,br,tk];rfl
  ·exact za1 (Paired.imp' (λ_ _ z=>(z.keep sL).kb k7 hB gm) su) (SA (st6.kb k7 hB gm))
  rw[ei,zjp (n:=p5.2) (L:=L) (by rw[aY,uv,r0])];refine Wx ?_ rfl;show XM (XM _)=XM _;rw[Option.map_map];congr 1;funext z;show Pd++(_::z)=(Pd++[_])++z;rw[Qw];rfl
 rintro σ H4 ⟨u,s,hs,as,Pd,aT,⟨x5,x6,x7,x8,rfl⟩,k4,tF,h4,br,iN,su,ei⟩;rw[Qa,Um Rf]at ei;have e1:WH R [] m 0=(HW Pd,s):=by rw[ei];show(HW (Pd++[]),s)=_;rw[Zt]
 refine⟨vG,vG,Tg,λt ht=>?_⟩;have k5:=Keep.new (xs:=[]) (o:=.tup [HK pl,Rv ((s:Nat):Int)]) ht;exact fin t _ (.yes pl as H3 Pd (by rw[e1]) (by rw[e1,zab]) (IN iN) (Paired.imp' (λ_ _ z=>z.keep k5) su)) ((kH k4).trans k5)
end
end K21
namespace L2
open PySem PySem.Spec PyProof.Rows
section
variable{X:Cx}{K:Na}{o e tg l:Expr}{es:Nv}{to tl:TE}{t:TA}{name:Str}{apos cpos:Pos}{T id:String}{r:V→List V→Hp→VK→Prop}
def pi_listK(hK:X.K=K)(hl:OY):YR l (iList K tl):=hK▸zan hl
def paired_get{α β:Type}{R:α→β→Prop}{as:List α}{bs:List β}(r:J9 as bs):∀(j:Nat) (h1:j<as.length) (h2:j<bs.length),R as[j] bs[j]:=by
 induction r with
 |nil=>intro j h1;cases h1
 |cons h t ih=>
  intro j h1 h2;cases j with
  |zero=>exact h
  |succ j=>exact ih j (Ul h1) (Ul h2)
variable{a5:Nh}{σ:St}{H:Hp}{s:Ni}
def zf3{R:V→V→Prop}{A:Np}{xs ys:List V}{a7 aQ:Nj}(r:WG a7)(r2:Y3 aQ)(pr:J9 xs ys)(h:∀x y u v,R x y→WY u→YC v→UF u v true) :
  ∀j (h1:j<a7.toArray.size) (h2:j<aQ.toArray.size),UF a7.toArray[j] aQ.toArray[j] true:=by
 intro j h1 h2;rw[Qv]at h1 h2;have a1:j<xs.length:=by rw[r.length];exact h1
 have a2:j<ys.length:=by rw[r2.length];exact h2
 obtain⟨u1,e1,q1⟩:=r.get (Qb a1);obtain⟨u2,e2,q2⟩:=r2.get (Qb a2);rw[Jb,Jb,(TJ e1).2,(TJ e2).2];exact h _ _ _ _ (paired_get pr j a1 a2) q1 q2
def SameM(H:Hp):Nat→V→V→Prop
 |0,x,y=>zc4 x=true∧x=y
 |n+1,x,y=>(zc4 x=true∧x=y)∨∃a b xs ys,x=.ref a∧y=.ref b∧((H a=some Tj∧H b=some vB)∨(H a=some Tb∧H b=some Ir))∧Paired (KM n) xs ys
def same_m(I:Ro):∀ (n:Nat) (A:Np) (x y:V) (u v:Value),KM n x y→WY u→YC v→A.units+n < cLine→UF u v true:=by
 have fl:∀(A:Np) (x y:V) (u v:Value),zc4 x=true∧x=y→WY u→YC v→UF u v true:=λA x y u v ⟨f,e⟩ rx ry=>by subst e;have:=eqAt_V (A:=A) (s:=s) rx ry f f;rw[eqV_self f]at this;exact this
 intro n;induction n with
 |zero=>intro A x y u v h rx ry _;exact fl A x y u v h rx ry
 |succ n ih=>
  intro A x y u v h rx ry hu;rcases h with h|⟨a,b,xs,ys,rfl,rfl,hc,pr⟩
  ·exact fl A x y u v h rx ry
  cases rx;cases ry;by_cases ne:a=b
  ·subst ne;exact SeqAt.EqAt.same _
  have e9:A.in1.units+n<cLine:=by have:A.in1.units=A.units+1:=rfl;lia
  have cn:A.units<cLine:=by lia
  have hl:=Zr pr;refine SeqAt.EqAt.of_refs ne ?_;rcases hc with⟨h1,h2⟩|⟨h1,h2⟩
  ·obtain⟨a7,r,pl,_⟩:=I.list (X:=X) (HL h1);obtain⟨aQ,r2,hJ,_⟩:=I.list (X:=X) (HL h2);have l1:=r.length;have l2:=r2.length;have:=SeqAt.RcAt.lists (A:=A) (s:=s) (e:=λ_=>true) pl.isList hJ.isList (by rw[Qv,Qv];lia) cn (zf3 r r2 pr λx y u v q1 q2 q3=>ih A.in1 x y u v q1 q2 q3 e9);rw[show(List.range a7.toArray.size).all (λ_=>true)=true by simp]at this;exact this
  obtain⟨a7,r,pl,_⟩:=I.tuple (X:=X) (Rx h1);obtain⟨aQ,r2,hJ,_⟩:=I.tuple (X:=X) (Rx h2);have l1:=r.length;have l2:=r2.length;have:=SeqAt.RcAt.tuples (A:=A) (s:=s) (e:=λ_=>true) pl hJ cn (zf3 r r2 pr λx y u v q1 q2 q3=>ih A.in1 x y u v q1 q2 q3 e9);rw[show((Sv (min a7.toArray.size aQ.toArray.size)).all (λ_=>true)&&a7.toArray.size==aQ.toArray.size)=true by simp;lia]at this;exact this
end
end L2
namespace K21
open PySem L2 Wb
theorem same_strs(H:Hp)(n:Nat):∀zs:List Str,Paired (KM n) Sj Sj
 |[]=>.nil
 |z::t=>by
  refine .cons ?_ (same_strs H n t);cases n with
  |zero=>exact⟨rfl,rfl⟩
  |succ n=>exact .inl ⟨rfl,rfl⟩
def ze9(h:zc4 x=true):KM n x x:=by
 cases n with
 |zero=>exact⟨h,rfl⟩
 |succ n=>exact .inl ⟨h,rfl⟩
def same_sw(h:Vg w)(k:GJ H b w):KM 2 Sg EK:=by obtain⟨l,_,h1,h2⟩:=h;obtain⟨l',_,k1,k2⟩:=k;exact .inr ⟨a,b,_,_,rfl,rfl,SJ ⟨h1,k1⟩,PX (.inr ⟨l,l',_,_,rfl,rfl,Rq ⟨h2,k2⟩,same_strs H 0 _⟩)⟩
theorem zew{α:Type}{R R':Addr→α→Prop}{S:V→V→Prop}(f:∀a b w,R a w→R' b w→S Sg EK):∀{as bs:No} {L:List α},J9 as L→Paired R' bs L→Paired S E8 (bs.map V.ref)
 |_,_,_,.nil,.nil=>.nil
 |_,_,_,.cons h t,.cons h' t'=>.cons (f _ _ _ h h') (zew f t t')
def same_sws{B B' H:Hp}{a b:Nb}{L:List Swap}(h:zdv B H a L)(k:zdv B' H b L):KM 3 Sg EK:=by obtain⟨as,_,h1,h2⟩:=h;obtain⟨bs,_,k1,k2⟩:=k;exact .inr ⟨a,b,_,_,rfl,rfl,Rq ⟨h1,k1⟩,zew (R:=SwAt B H) (R':=GJ H) (λ_ _ _ h k=>same_sw h k) h2 k2⟩
def same_st(h:Vh H a q)(k:StAt B' H b q):KM 4 Sg EK:=by obtain⟨l,h1,h2⟩:=h;obtain⟨l',k1,k2⟩:=k;exact .inr ⟨a,b,_,_,rfl,rfl,SJ ⟨h1,k1⟩,PX (same_sws h2 k2)⟩
def chH_so(c:Str→Prop):(chH c).Pairwise leS:=by
 unfold chH;split
 ·rename_i h;exact(Jp h).2.1
 exact .nil
def chH_iff{c:Str→Prop}{ks:Ng}(nd:ks.Nodup)(h:∀ y,c y→y∈ks){y:Str}:y∈chH c↔c y:=by
 classical
 let le:Str→Str→Bool:=λa b=>decide (a.cps.toList≤b.cps.toList);have e:((ks.filter λy=>decide (c y)).mergeSort le)=chH c:=by
  have pm:=List.mergeSort_perm (ks.filter λy=>decide (c y)) le;refine chH_eq (pm.nodup_iff.mpr (nd.sublist Jg)) ?_ λz=>?_
  ·refine (List.pairwise_mergeSort (le:=le) (λa b c h1 h2=>?_) (λa b=>?_) _).imp λ{a b} h=>?_
   ·exact decide_eq_true (List.le_trans (Tn h1) (Tn h2))
   ·rw[Ke];exact(List.le_total a.cps.toList b.cps.toList).imp decide_eq_true decide_eq_true
   have h':=of_decide_eq_true h;exact λz=>absurd z (List.not_lt.mpr h')
  rw[pm.mem_iff,Zf,decide_eq_true_eq];exact⟨λq=>q.2,λq=>⟨h z q,q⟩⟩
 rw[←e,(List.mergeSort_perm _ le).mem_iff,Zf,decide_eq_true_eq];exact⟨λz=>z.2,λz=>⟨h y z,z⟩⟩
structure WRt(r:Nq)(hs:List (Str×Int))(w:Swap):Prop where
 s:w.1∈hs.map (·.1)
 lo:0≤w.2.1
 hi:w.2.1<4
 ne:w.2.1≠Z8 w.1
 ch:w.2.2=chN r hs (w.1,w.2.1)
def SwsOk(r:Nq):List Re→List Swap→Prop
 |_,[]=>True
 |hs,w::t=>Fm w∧SwsOk r xG t
structure SRt(r:Nq)(hs:List (Str×Int))(q:Step):Prop where
 sw:MY q.2.2
 nw:q.1∉hs.map (·.1)
 lo:0≤q.2.1
 hi:q.2.1<4
 fr:q.2.1∉BH yR q.1
def stN(hs:List Re)(q:Step):List Re:=q.2.2.foldl exN hs++[(q.1,q.2.1)]
def RdOk(r:Nq):List Re→List Step→Prop
 |_,[]=>True
 |hs,q::t=>SRt r hs q∧RdOk r (KA q) t
def wrt_sw(h:q∈JM x):Fm zE:=by
 have hi:q.2<4:=by unfold trN at h;obtain⟨s,_,h2⟩:=Xu.mp h;obtain⟨o,h3,rfl⟩:=Qe.mp h2;have:=(O1 h3).1;simp only[Qi,Jx,or_false]at this;show o<4;lia
 obtain⟨h1,h2,h3,_⟩:=zh1 h;exact⟨h1,h3,hi,h2,rfl⟩
def fs_ok(h:(YO m).1=some L):MY L:=by
 unfold fsN at h;split at h
 ·cases h;exact trivial
 rcases ho:YN m with⟨_|L1,n⟩
 ·rw[ho]at h;have h':(Q7 (m-n)).1=some L:=h;have h2:Q7 (m-n)=(HW L,(Q7 (m-n)).2):=Wx h' rfl;unfold twN at h2;obtain⟨g,hg,b,k,e⟩:=zhk h2;obtain⟨q,hq,rfl⟩:=Qe.mp hg;have e1:(ZY b).1.map (swN r hs q::·)=some L:=congrArg Prod.fst e;cases dH:(ZY b).1 with
  |none=>rw[dH]at e1;cases e1
  |some L2=>rw[dH]at e1;obtain⟨q',cZ,rfl,hm⟩:=zhc dH;cases e1;exact⟨wrt_sw hq,wrt_sw cZ,trivial⟩
 rw[ho]at h;have h1:some L1=some L:=h;cases h1;obtain⟨q,hq,rfl,hm⟩:=zhc (L:=L) (show(YN m).1=some L by rw[ho]);exact⟨wrt_sw hq,trivial⟩
def st_keys(hs:List Re)(q:Step):(KA q).map (·.1)=hs.map (·.1)++[q.1]:=by unfold stN;rw[Qp,zby];rfl
theorem fp_ok:∀{xs:Ng} {hs:List Re} {m s:Nat} {P:List Step},(hs.map (·.1)++xs).Nodup→(NH s).1=some P→Hw P∧P.map (·.1)=xs
 |[],hs,m,s,P,_,h=>by have h':some []=some P:=h;cases h';exact⟨trivial,rfl⟩
 | x::t,hs,m,s,P,nd,h=>by
  cases e:YO (m-s) with
  | mk a n=>
   cases a with
   |none=>rw[zjq e]at h;cases h
   |some L1=>
    rw[zjp e]at h;have h':XM (GK (s+n)).1=some P:=h;obtain⟨P2,e2,rfl⟩:=Kl.mp h';have e1:(YO (m-s)).1=some L1:=by rw[e]
    have nx:x∉hs.map (·.1):=λz=>(Zb.mp nd).2.2 x z x Qc rfl;have hc:BI L1=KA (x,(mex (BH (L1.foldl exN hs) x):Int),L1):=rfl;rw[hc]at e2;obtain⟨h1,h2⟩:=fp_ok (by rw[st_keys,Qw];exact nd) e2;have a3:=(fs_some e1).2;refine⟨⟨⟨fs_ok e1,nx,Int.natCast_nonneg _,by show(mex _:Int)<4;lia,(mex_is _).1⟩,h1⟩,by rw[Qn,h2]⟩
theorem rd_at:∀{P:List Step} {hs:List Re},Hw P→∀i (h:i<P.length),SRt r ((P.take i).foldl stN hs) P[i]
 |q::t,hs,k,0,_=>k.1
 |q::t,hs,k,i+1,h=>rd_at k.2 i (Ul h)
theorem sws_at:∀{L:List Swap} {hs:List Re},MY L→∀i (h:i<L.length),WRt r ((yF i).foldl exN hs) L[i]
 |q::t,hs,k,0,_=>k.1
 |q::t,hs,k,i+1,h=>sws_at k.2 i (Ul h)
theorem zg5:∀(P:List Step) (hs:List Re),(V' hs).map (·.1)=hs.map (·.1)++P.map (·.1)
 |[],hs=>by rw[Jj,Zt];rfl
 |q::t,hs=>by rw[Jm,zg5 t,st_keys,Qw];rfl
structure RowIs(r:Nq)(hs:List (Str×Int))(w:Swap):Prop where
 nd:w.2.2.Nodup
 so:w.2.2.Pairwise leS
 st:w.1∈w.2.2
 ke:∀y∈w.2.2,y∈hs.map (·.1)
 tm:∀y∈w.2.2,U' C5 w.2.1 y=true
 cl:∀y∈w.2.2,∀z∈r y,U' C5 w.2.1 z=true→z∈w.2.2
def tw_self(nd:(hs.map (·.1)).Nodup)(h:s∈hs.map (·.1))(o:Int):U' (Z8 s) o s=true:=by
 have hm:=zdo nd h;have:Mv s=.int (Z8 s):=by unfold hueV;rw[Gf hm];rfl
 unfold tw;rw[this];exact(zf5 (zs:=[Z8 s,o])).trans (RE Qc)
def WRt.row{r:Nq}{hs:List Re}(nd:(hs.map (·.1)).Nodup)(W:Fm w):RowIs r hs w:=by
 have hk:∀y,Conn (λz=>(r z).filter (U' C5 w.2.1)) w.1 y→U' C5 w.2.1 y=true:=λy c=>by
  induction c with
  |refl=>exact tw_self nd W.s _
  |step _ h _=>exact(O1 h).2
 have hi:∀y,y∈w.2.2↔Conn (λz=>(r z).filter (U' C5 w.2.1)) w.1 y:=λy=>by rw[W.ch];exact chH_iff nd λz c=>tw_key (hk z c)
 refine⟨by rw[W.ch];exact chH_nd _,by rw[W.ch];exact chH_so _,(hi _).mpr .refl,λy hy=>tw_key (hk y ((hi y).mp hy)),λy hy=>hk y ((hi y).mp hy),λy hy z hz ht=>(hi z).mpr (.step ((hi y).mp hy) (Pj ⟨hz,ht⟩))⟩
end K21
namespace L2
open PySem PySem.Spec PyProof.Rows
section
variable{X:Cx}
def zb5:YJ (.builtin "isinstance") (λxs H Q=>Ex4 λ(x:V) (T:String) (t:Value) (b:Bool)=>Aj4 (xs=[x,.ty T]) (TyOf X.K H x t) (DY CY=some b) (Iu b)):=by intro a5 s σ H xs us Q I r h;obtain⟨x,T,t,b,rfl,ty,e,q⟩:=h;obtain⟨u,w',rfl,rx,e2⟩:=vals2 r;have e':w'=Value.type T:=e2;subst e';exact isinst_ok I rx ty e λtk=>⟨xg,H,Su,rfl,q⟩
def kit_ii{K:Na}:XC (.type "int") (.type "int")=some true:=by rfl
def kit_ib{K:Na}:XC (.type "int") (.type "bool")=some false:=by rfl
def kit_dd{K:Na}:XC (.type "dict") (.type "dict")=some true:=by rfl
def kit_tt{K:Na}:XC (.type "tuple") (.type "tuple")=some true:=by rfl
variable{M:Ng}{ix:Nr}{sc:Scope}{tg elt iter bV bj:Expr}{ifs:Nv}{pos py spos:Pos}{g1 g:TG}{wi fO:TI}{tc:TT}{te:TE}{i:Nat}{y:Str}
def ps_lc2(hN:X.N.Nodup)(ap:X.N[i]?=some y)(hy:X.env.scope.names.lookup y=some .local)(B:YM ix)(hc:X.calm=true)(hi:YI wi)(oW:∀C a5 ex s H,UO tg g1)(am:∀C a5 ex s H,Ml fO)(hg:∀C a5 ex s H,UO bV g)(ht:∀C a5 ex s H,YV tc)(he:∀C a5 ex s H,UP elt te)(i5:swapsWith RU wd spos.line X.env=pure true)(hs:∀x,foldedSetIterable iter X.env x=pure x:=by intro _;rfl)(cq:∀C x,foldedSetIterable bj Ex x=pure x:=by intro _ _;rfl):KO (.Assign [Tu] RU spos) (tAsg (DO te) Iq):=
 ps_comp (V4 he) hN ap hy B.g hi hs rfl (λ_=>rfl) i5
end
end L2
namespace K21
open PySem L2 Wb
abbrev sIsHue:Stmt:=top 34
abbrev sClosed:Stmt:=top 35
abbrev sLIsHue:Stmt:=top 63
inductive IspIsHue(vs:List V)(H:Hp)(Q:VK):Prop
 |mk(n m:Int)(h0:vs=[.int n,.int m])(h1:0≤n)(h2:n<m)(h3:Q (.bl true) H)
def spIsHue:Sp:=λvs H Q _=>IspIsHue vs H Q
inductive IspLIsHue(vs:List V)(H:Hp)(Q:VK):Prop
 |mk(n:Int)(h0:vs=[.int n])(h1:0≤n)(h2:n<4)(h3:Q (.bl true) H)
def zgn:Sp:=λvs H Q _=>IspLIsHue vs H Q
inductive IspClosed(C:Nb)(vs:List V)(H:Hp)(Q:VK):Prop
 |mk (x dx d u l t:Nb) (es:List Ent) (hs:List (Str×Int)) (zs:Ng) (a b:Int) (h0:vs=[.ref x,.ref u,.ref l,.ref t]) (h1:WAt H C x dx d es) (h2:WOk es) (h3:HAt H u hs) (h4:H l=some (.lst (zs.map V.str))) (h5:H t=some (.tup [.int a,.int b])) (h6:zs.length≤16) (h7:∀z∈zs,z∈es.map (·.1)) (h7':∀z∈zs,z∈hs.map (·.1)) (h8:∀z∈zs,tw hs a b z=true) (h9:∀y∈zs,∀z∈row (rsOf es) y,tw hs a b z=true→z∈zs)
  (hq:∀H',Keep [] H H'→Q S2 H'):Hx Q
def spClosed(C:Nb):Sp:=λvs H Q _=>Hx Q
def ndCa:(["place", "other", "hues", "two", "web"]:List Str).Nodup:=by decide+kernel
def ndCb:(["place", "hues", "two"]:List Str).Nodup:=by decide+kernel
def ndCc:(["other", "places"]:List Str).Nodup:=by decide+kernel
def tw_eq(nd:(hs.map (·.1)).Nodup)(h:y∈hs.map (·.1))(a b:Int):inV (Rv (Z8 y)) [Rv a,xE]=U' a b y:=by unfold tw hueV;rw[Gf (e:=(y,Z8 y)) (zdo nd h)];rfl
def zf9(n:Nat):(B8 true).all id=true:=by rw[Ur];intro x hx;exact(Xk hx)
section
variable{P:Nk}{w:Nl}{K:Na}{mg:Nd}{base:Nn}
def scIsHue:zam ["thing", "many"] ["thing", "many"] (zah sIsHue):=fsk
def ok_ishue(F:QD "is_hue" "is_hue" sIsHue f fd)(bd:mg "isinstance" = none)(hint:mg "int" = none)(cS:mg "bool" = none):ZB 1 f fd ["thing", "many"] spIsHue:=by
 refine F.okL scIsHue HN;obtain⟨n,m,rfl,h1,h2,kq⟩:=h;refine⟨_,zaf (zas (zgc (Aj (zfe (T:= "int") rfl hint PyProof.Rows.boot_int))
  (zgc (pe_not (Aj (zfe (T:= "bool") rfl cS PyProof.Rows.boot_bool)))
  (pe_one (MZ Rz))))),?_⟩
 refine⟨vG,_,_,_,vG,Rv n,kit_ii,vG,WX ⟨vG,_,_,_,vG,Rv n,kit_ib,vG,vG,WX ⟨vG,_,vG,rfl,vG,NX ⟨vG,_,vG,rfl,?_⟩⟩⟩⟩;rw[decide_eq_true h2];exact kq
def scLIsHue:zam ["_law_thing"] ["_law_thing"] (zah sLIsHue):=fsk
def ok_lishue(F:QD "_law_is_hue" "_law_is_hue" sLIsHue f fd)(bd:mg "isinstance" = none)(hint:mg "int" = none)(cS:mg "bool" = none):ZB 1 f fd ["_law_thing"] zgn:=by
 refine F.okL scLIsHue HN;obtain⟨n,rfl,h1,h2,kq⟩:=h;refine⟨_,zaf (zas (zgc (Aj (zfe (T:= "int") rfl hint PyProof.Rows.boot_int))
  (zgc (pe_not (Aj (zfe (T:= "bool") rfl cS PyProof.Rows.boot_bool)))
  (pe_one (MZ zai))))),?_⟩
 refine⟨vG,_,_,_,vG,Rv n,kit_ii,vG,WX ⟨vG,_,_,_,vG,Rv n,kit_ib,vG,vG,WX ⟨vG,_,vG,rfl,vG,NX ⟨_,vG,rfl,?_⟩⟩⟩⟩;rw[decide_eq_true h2];exact kq
def ze8:zam ["web", "hues", "places", "two", "beside"] ["web", "hues", "places", "two"] (zah sClosed):=fsk
def ok_closed(F:QD "is_closed" "is_closed" sClosed f fd)(cW:KW C)(mR:BF "round_of" fr)(bR:WE fdr ["self", "place"] [])(GR:ZB 1 fr fdr ["self", "place"] OG)(ak:mg "all" = none):ZB 2 f fd ["web", "hues", "places", "two"] (spClosed C):=by
 refine F.okL ze8 HN;obtain⟨x,dx,d,u,l,t,es,hs,zs,a,b,rfl,wt,W,hh,hl,ht,bW,cU,dE,kj,cO,kq⟩:=h;have aq:=zb7 hr;have ar:=sizeLine_eq;refine⟨_,zad (ps_lc2 (i:=4) (M:=["place", "other", "hues", "two", "web"]) (ix:=[none,none,AG,HW 3,yX]) ze8.nd rfl rfl (mkB ze8) rfl (EU Ss) (λC a5 ex s H=>YX ndCa)
    (λC' a5 ex s H=>pi_listK (K:=K) rfl (zev (pl:=_) Sy (RY cW) (RY mR) GR (RY hr) bR .nil zcv Ta)) (λC a5 ex s H=>zal 1 ndCa)
    (λC a5 ex s H=>zcp (xb (zbr (zff L0 Rz Ss)) (zfz (zap (zc0 (K:=K) rfl) (zbi L0 Ss Rz) Sn rfl)))) (Eh pv 1) rfl)
  (zaf (zas (zgc (J3 Rg ak Ww (zaa (zdu (M:=["place", "hues", "two"]) (ix:=[none,AG,HW 3]) (mkB ze8) rfl (EU Ss) (λC a5 ex s H=>YX ndCb)
    (λC a5 ex s H=>zb1) (λC a5 ex s H=>zdn (zc0 (K:=K) rfl) Io Ss rfl)) zae))
   (pe_one (J3 Rg ak Ww (zaa (zdu (M:=["other", "places"]) (ix:=[none,HW 2]) (mkB ze8) rfl (EU Sy) (λC a5 ex s H=>YX ndCc)
    (λC a5 ex s H=>zb1) (λC a5 ex s H=>zdn (zc0 (K:=K) rfl) RQ Rz rfl)) zae)))))),?_⟩
 have wk:∀{H':Hp},Keep [] H H'→WJ es:=λkk=>wt.keep kk HA HA λ_ _=>by simp
 refine⟨_,rfl,l,rfl,⟨_,HL hl⟩,λi m ys τ H'=>Aj5 (m=zs.length-i) (i≤zs.length) (Ex2 λx0 x1=>τ=[x0,x1,Cv,AL,IL]) Cz (Ex1 λus:List Str=>Aj3 (ys=us.map V.str) (us.length≤16*i) (∀y∈us,y∈zs)),
  ⟨zs.length,rfl,SW,⟨none,none,rfl⟩,Keep.refl,[],rfl,SW,λy hy=>(by cases hy)⟩,?_⟩
 rintro i m ys τ H3 ⟨rfl,hi,⟨x0,x1,rfl⟩,k3,us,rfl,hul,jf⟩;have g3:=k3 _ _ hl HA;by_cases ad:i<zs.length
 ·refine .inr ⟨⟨_,.str zs[i],Av,by rw[Qk,xN];rfl⟩,?_⟩;rintro v H4 ⟨rfl,hv⟩;have aK:=hv _ Av;rw[Qk,Qb ad]at aK;obtain rfl:V.str zs[i]=v:=Qo aK;have hz:=Qq ad;obtain⟨e,he,ee⟩:=Qe.mp (cU _ hz);have lC:e.1=zs[i]:=ee;rw[←lC]at hz ⊢;have cF:ZJ e.1=e.2.1:=Bi he;have bM:=X8 he;refine⟨vG,x,dx,vG,(wk k3).ob,rfl,vG,x,dx,d,es,e,rfl,wk k3,he,λq hq=>?_⟩;have k4:Keep [] H (QQ q HQ):=k3.trans Iw;have g4:(QQ q HQ) q=some HQ:=zab;generalize QQ q HQ=H5 at k4 g4;refine⟨q,rfl,⟨_,HL g4⟩,λj m2 ys τ H'=>Aj6 (m2=e.2.1.length-j) (j≤e.2.1.length) (Ex1 λx1=>τ=[EW,x1,Cv,AL,IL]) Cz (H' q=some HQ) (Ex1 λus:List Str=>Aj3 (ys=us.map V.str) (us.length≤16*i+j) (∀y∈us,y∈zs)),
   ⟨_,rfl,SW,⟨_,rfl⟩,k4,g4,us,rfl,hul,jf⟩,?_⟩
  rintro j m2 ys τ H6 ⟨rfl,hj,⟨x1',rfl⟩,k6,g6,qk,rfl,hul2,ki⟩;by_cases bp:j<e.2.1.length
  ·refine .inr ⟨⟨_,.str e.2.1[j],HL g6,by rw[Qk,Qb bp];rfl⟩,by rw[Qa];lia,?_⟩;rintro v H7 ⟨rfl,hv⟩;have aK:=hv _ (HL g6);rw[Qk,Qb bp]at aK;obtain rfl:V.str e.2.1[j]=v:=Qo aK;have hy:e.2.1[j]∈ZJ e.1:=by rw[cF];exact Qq bp
   generalize e.2.1[j]=y at hy;have gy:=(Lh k6).hf.get (SF y);refine⟨vG,vG,u,vG,gy,vG,?_⟩;have no:∃m',m'<e.2.1.length-j∧(λj m2 ys τ H'=>Aj6 (m2=e.2.1.length-j) (j≤e.2.1.length) (Ex1 λx1=>τ=[HW (V.str e.1),x1,Cv,AL,IL]) Cz (H' q=some HQ) (Ex1 λus:List Str=>Aj3 (ys=us.map V.str) (us.length≤16*i+j) (∀y∈us,y∈zs))) (j+1) m' (qk.map V.str) [HW (V.str e.1),S4 y,Cv,AL,IL] H7:=⟨_,Ra,rfl,bp,⟨_,rfl⟩,k6,g6,qk,rfl,HB,ki⟩;rcases valH_is hs y with hn|⟨n,hn⟩
   ·rw[hn];exact iteF (iteF no)
   rw[hn]at gy ⊢;refine iteT ⟨_,rfl,_,rfl,u,_,rfl,gy,_,rfl,t,_,rfl,OQ (k6 _ _ ht HA),rfl,rfl,_,rfl,?_⟩;have e2:(if false=true then !Bh [Rv a,xE] else Bh [Rv a,xE])=U' a b y:=by unfold tw hueV;rw[hn];rfl
   rw[e2];cases iJ:U' a b y with
   |false=>exact iteF no
   |true=>
    refine iteT ⟨_,rfl,_,Ra,rfl,bp,⟨_,rfl⟩,k6,g6,qk++[y],by rw[Qp];rfl,by rw[Za];show _+1≤_;lia,λz dq=>?_⟩;rcases Qm.mp dq with q|q
    ·exact ki z q
    rw[Qd.mp q];exact cO _ hz y hy iJ
  have ej:j=e.2.1.length:=by lia
  subst ej;exact .inl ⟨⟨_,HL g6,AK⟩,_,Ra,rfl,ad,⟨_,_,rfl⟩,k6,qk,rfl,HB,ki⟩
 have bw:i=zs.length:=by lia
 subst bw;refine .inl ⟨⟨_,Av,AK⟩,λbl di=>?_⟩;have k4:Keep [] H (Q4 bl Lx):=k3.trans (HV di);have g4:(Q4 bl Lx) bl=some Lx:=zab;generalize Q4 bl Lx=H4 at k4 g4;have l4:=k4 _ _ hl HA;refine⟨vG,l,rfl,⟨_,HL l4⟩,lc_map (xs:=zs.map V.str) (λ τ=>∃x0,τ=[x0,Cv,AL]) (λ_=>.bl true) (HL l4) SY ⟨none,rfl⟩ ?_ (λD hD=>?_)⟩
 ·rintro v hv τ ⟨x0,rfl⟩ kk hk;obtain⟨z,hz,rfl⟩:=Qe.mp hv;have gz:=(Lh k4).hf.get ES;have np:=dE z hz;rw[W6 (e:=(z,Z8 z)) (UR np)]at gz;refine⟨vG,vG,u,vG,gz,vG,t,vG,OQ (k4 _ _ ht HA),rfl,rfl,?_⟩;have e2:(if false=true then !GM [Rv a,xE] else GM [Rv a,xE])=true:=(tw_eq hh.nd np a b).trans (kj z hz);rw[e2];exact hk _ ⟨_,rfl⟩
 have em:(zs.map V.str).map (λ_=>V.bl true)=(UY true).map V.bl:=by rw[Zg,Ji,Jo];exact⟨Qa _,λb hb=>by obtain⟨_,_,rfl⟩:=Qe.mp hb;rfl⟩
 rw[em];refine⟨D,vG,Ls,vG,zbj (zf9 _) ?_⟩;have k5:Keep [] H (zu D ((UY true).map V.bl)):=k4.trans Pt;have g5:(zu D ((UY true).map V.bl)) bl=some Lx:=by rw[zag (yp g4 hD)];exact g4
 generalize QQ D (HR ((UY true).map V.bl))=H5 at k5 g5;refine⟨vG,bl,rfl,⟨_,HL g5⟩,lc_map (xs:=us.map V.str) (λ τ=>∃x0,τ=[x0,CW]) (λ_=>.bl true) (HL g5) SY ⟨none,rfl⟩ ?_ (λD2 dj=>?_)⟩
 ·rintro v hv τ ⟨x0,rfl⟩ kk hk;obtain⟨z,hz,rfl⟩:=Qe.mp hv;refine⟨vG,vG,l,vG,Sr (IN hl),rfl,PH,?_⟩;have e2:(if false=true then !VC Sj else VC Sj)=true:=zdb.trans (RE (jf z hz));rw[e2];exact hk _ ⟨_,rfl⟩
 have em2:(us.map V.str).map (λ_=>V.bl true)=(List.replicate us.length true).map V.bl:=by rw[Zg,Ji,Jo];exact⟨Qa _,λb hb=>by obtain⟨_,_,rfl⟩:=Qe.mp hb;rfl⟩
 rw[em2];refine⟨D2,vG,Ls,?_⟩;rw[zf9];exact kq _ (CD (HV dj))
end
end K21
namespace SetX
open PySem PyProof.Rows PySem.Spec Tm
section
variable{prog:Nk}{w:Nl}{A:Np}{E:Nc}{s:Ni}{a:Nb}{zs:Ng}
def hint_set(hT:s.TypeIs (HK r) "set")(h:Q false s):ZE A IK Q E s:=by
 unfold Builtin.List.listLengthHint;refine wpAny_bind (Bq PySem.F.slot_set_len.lookup ?_);generalize oP:("set.__len__" : String)=id0
 wp_delta
 rw[show splitId id0=some ("set", "__len__") from by subst oP;decide+kernel];subst oP;refine wpAny_bind (wpAny_isInstance (T:= "set") (b:=true) hT (by rw[isSubtype_type];kernel_rfl) (wpAny_ite_split (λfc=>absurd fc HH) (λ_=>wpAny_ite_split (λ_=>?_) (λfc=>absurd (by decide+kernel) fc))));exact wpAny_bind (wpAny_typeOf hT (RK h))
def collect_set(hh:A.handled=none)(hx:AJ)(nd:zs.Nodup)(h:∀(g:Nn) (tk:Nat) (d:Drawn) (vs:Nj) (ws:Ng),HS→s.heap.objs.size≤g.objs.size→ws.Perm zs→L2.Vals (ws.map L2.V.str) vs→R vs {s with heap:=g,toks:=tk,drawn:=d}) :
  wpAny Rb A (collect Sg) R E s:=by
 have hn:zs.length≤sizeLine:=by obtain⟨_,es,_,_,_,_,_,_,_,hb,_,hn,_⟩:=hx;rw[←hn];exact fits_of_scanBound hb
 have aT:a<s.heap.objs.size:=by obtain⟨_,_,_,_,e,_⟩:=hx;exact Qx e
 have hT:∀{s':Ni},YF s'.heap a zs→s'.TypeIs Sg "set" :=λx=>by obtain⟨o,_,_,_,e,q,_⟩:=x;exact⟨o,e,q.1⟩
 unfold collect;refine wpAny_bind (wpAny_runValue (codeAny_builtin entry_proto_collect' ?_));rw[VM _];show ZV A.in1 (newList [] >>= λl=>again (.builtin "list.__iadd__" ⟨[l,Sg],[]⟩)) _ _ s;refine wpAny_bind (IG ⟨CS Kj,codeAny_builtin entry_list_iadd' ?_⟩);rw[Yf Kj _];generalize uS:s.heap.objs.size=S;have il:(s.heap.push {cls:=.type "list",data:=.seq ([]:List Value).toArray}).get? S=some {cls:=.type "list",dict:=none,data:=.seq #[] 0,slots:=#[]}:=by rw[←uS];exact U5 rfl
 have k0:∀b o,s.heap.get? b=some o→(s.heap.push {cls:=.type "list",data:=.seq ([]:List Value).toArray}).get? b=some o:=λb o e=>WF e;have z0:(s.heap.push {cls:=.type "list",data:=.seq ([]:List Value).toArray}).objs.size=S+1:=by rw[←uS];exact Wj ..
 generalize s.heap.push {cls:=.type "list",data:=.seq ([]:List Value).toArray}=h0 at il k0 z0;have nE:YF h0 a zs:=hx.at λo e=>k0 _ o e;show ZV A.in1 (Builtin.List.listExtendWith OH Sg OH) _ _ _;unfold Builtin.List.listExtendWith;refine wpAny_bind (wpAny_typeOf (hT (s':={s with heap:=h0}) nE) ?_);have h1:Builtin.List.listSameRef OH Sg=false:=by simp[Builtin.List.listSameRef];lia
 have e1:(Value.type "set" == Value.type "list")=false:=by decide
 have e2:(Value.type "set" == Value.type "tuple")=false:=by decide
 simp only[h1,e1,e2,Bool.or_false,Ut,if_false];refine wpAny_bind (iter_of (s:={s with heap:=h0}) nE nd λg d it tp L x hL hp na nt kg le hit fZ tj=>?_);have hxg:YF g a zs:=nE.at λo e=>kg _ o e;refine wpAny_bind (wpAny_holding (hint_set (hT (s':={s with heap:=g,drawn:=d}) hxg) (wpAny_ite_split (λ_=>?_) (λfc=>absurd (by decide) fc))));have rD:g.get? S=some {cls:=.type "list",dict:=none,data:=.seq #[] 0,slots:=#[]}:=kg _ _ il;refine wpAny_bind (wpAny_rule (wpAny_bind ?_));show ZV _ (updateSeq S (·.push .none) >>= λ_=>updateSeq S (·.pop)) _ _ _;refine wpAny_bind (wpAny_updateSeq (s:={s with heap:=g,drawn:=d}) rD rfl ?_);have rC:=Wq (Obj.mapSeq (·.push Value.none)) rD rfl;refine wpAny_updateSeq (hz:=by seq_fits) rC rfl ?_;have rB:=Wq (Obj.mapSeq (·.pop)) rC rfl;have oth:∀b o,b≠S→g.get? b=some o→((g.update S (Obj.mapSeq (·.push Value.none))).update S (Obj.mapSeq (·.pop))).get? b=some o:=λb o hb e=>(X0 Pq).trans ((X0 Pq).trans e);have hsz:((g.update S (Obj.mapSeq (·.push Value.none))).update S (Obj.mapSeq (·.pop))).objs.size=g.objs.size:=by rw[Heap.size_update,Heap.size_update]
 generalize(g.update S (Obj.mapSeq (·.push Value.none))).update S (Obj.mapSeq (·.pop))=g3 at rB oth hsz;have nS:S∉[it,a,tp]:=by
  simp only[Qi,Jx,or_false,not_or];refine⟨?_,?_,?_⟩
  ·lia
  ·lia
  rcases tj with z|z<;>lia
 have jD:L.length=zs.length:=by have:=hp.length_eq;rwa[Qa]at this
 have x3:ItX w g3 it a tp L 0:=x.frame λb hb o e=>oth b o (λz=>nS (z▸hb)) e;refine wpAny_pure ⟨EX,codeAny_extend_loopS (walks (A:=A.in1) (show A.in1.handled=none from hh) na nt).toS (HP jD hn) S nS OH L.length 0 _ #[] _ rfl SW ⟨SW,x3⟩ rB (ItemsOf.nil _) λs' ag c' hm cv dB=>?_⟩;rw[Moved.eq_with hm];show ZV A (load S >>= _) _ _ _;refine wpAny_bind (wpAny_load cv (wpAny_pure (h s'.heap s'.toks d ag.toList (L.map keyOf) (λb o e=>?_) ?_ hp ?_)))
 ·have hb:b < S:=by rw[← uS];exact Qx e
  have uK:b≠it:=by lia
  refine hm.heap b o (λhmem=>?_) (oth b o (Zj hb) (kg b o (k0 b o e)));rcases Qi.mp hmem with e'|e'
  ·lia
  exact uK (CI e')
 ·have:=Qx cv;lia
 have g1:∀ (l:S1 (Int×Value)) (vs:Nj),vs.length=l.length→(∀ e∈l,∃ t,e.2=.str AU t)→(∀ (i:Nat) v,vs[i]?=some v→∃ e,l[i]?=some e∧v=e.2)→L2.Vals ((l.map keyOf).map L2.V.str) vs:=by
  intro l;induction l with
  |nil=>intro vs hv _ _;have:vs=[]:=Ug.mp hv;subst this;exact .nil
  |cons e t ih=>
   intro vs hv hk hi;cases vs with
   |nil=>cases hv
   |cons v vs=>obtain⟨e',e1,e2⟩:=hi 0 v rfl;cases e1;obtain⟨tk,e3⟩:=hk e Qc;exact .cons ⟨tk,by rw[e2,e3]⟩ (ih vs (Nat.succ.inj hv) (λe he=>hk e (QR he)) λi v h=>hi Rm v h)
 refine g1 L ag.toList (by rw[Zz];exact dB.1) hL λi v e=>dB.2 i v (by rw[←Yx];exact e)
end
end SetX
namespace L2
open PySem PySem.Spec PyProof.Rows Tm
section
variable{X:Cx}
def zhq(hc:X.calm=true):YJ (.builtin "sorted") (λxs H Q=>Ex2 λ(d:Nb) (zs:Ng)=>Aj4 (xs=[C0]) (H d=some (U1 d zs)) zs.Nodup (∀(l:Nb) (ws:Ng),H l=none→ws.Perm zs→(zs.length<64→ws.Pairwise leS)→Q SO (ZR l Se))):=by
 intro a5 s σ H xs us Q I r h;obtain⟨d,zs,rfl,hq,nd,q⟩:=h;obtain⟨u,rfl,rx⟩:=vals1 r;cases rx;obtain⟨hx,_⟩:=(show Z1 H s.heap d (U1 d zs) from Ha hq);have hz:zs.length≤sizeLine:=by obtain⟨_,es,_,_,_,_,_,_,_,hb,_,hn,_⟩:=hx;rw[←hn];exact fits_of_scanBound hb
 have hp:∀{a7:Nj},(∃ws:List Str,ws.Perm zs∧Ft a7)→a7.length=zs.length:=λ⟨ws,p,r⟩=>by rw[←r.length,Qa,p.length_eq]
 refine zg2 (G:=λa7 _=>∃ws:List Str,ws.Perm zs∧Ft a7) (λE' R hR=>SetX.collect_set (show X.A.in1.handled=none from I.ok.hd hc) hx nd λg tk d vs ws k le p r=>hR g tk d vs k le ⟨ws,p,r⟩)
  (λa7 _ g=>by rw[hp g];exact hz) (λa7 _ g A' E' s' _ _=>by obtain⟨ws,_,r⟩:=g;exact zdi (zdx r)) λa7 ws l g tk e d' gg p1 p2 le k he=>?_
 have aH:=hp gg;obtain⟨ws0,p0,r⟩:=gg;obtain⟨j6,q1,q2⟩:=Dd r;obtain⟨ts,rfl,p3⟩:=zgz q1;have I':=I.laid (t':=tk) k le (show Z1 _ g l (HR (ts.map V.str)) from⟨by rw[Qa,p3.length_eq,p0.length_eq];exact hz,ws,e,q2,he⟩);exact⟨SO,_,⟨I'.ok,I'.os,I'.bare,I'.base,I'.loc,I'.cell,I'.free,I'.freeC,I'.pin,I'.hok,I'.len⟩,rfl,q l ts wq (p3.trans p0) λmB=>zit r q2 p2 (by rw[p0.length_eq];exact mB)⟩
end
end L2
namespace K21
open PySem L2 Wb
abbrev sSwRt:Stmt:=top 36
abbrev sIsFree:Stmt:=top 37
abbrev sRead:Stmt:=top 38
inductive IspSwRt(C:Nb)(vs:List V)(H:Hp)(Q:VK):Prop
 |mk (B:Hp) (x dx d u a:Nb) (m:Int) (es:List Ent) (hs:List (Str×Int)) (w:Swap) (h0:vs=[.ref x,.ref u,.int m,.ref a]) (h1:WAt H C x dx d es) (h2:WOk es) (h3:HAt H u hs) (h4:SwAt B H a w) (h5:WRt (row (rsOf es)) hs w) (h6:4≤m) (h7:∀y∈hs.map (·.1),y∈es.map (·.1))
  (hq:∀H',Keep [] H H'→Q S2 H'):IspSwRt C vs H Q
def spSwRt(C:Nb):Sp:=λvs H Q _=>IspSwRt C vs H Q
inductive IspIsFree(C:Nb)(vs:List V)(H:Hp)(Q:VK):Prop
 |mk (x dx d u:Nb) (m n:Int) (es:List Ent) (hs:List (Str×Int)) (e:Ent) (h0:vs=[.ref x,.ref u,.int m,.str e.1,.int n]) (h1:WAt H C x dx d es) (h2:WOk es) (h3:HAt H u hs) (h4:e∈es) (h5:e.1∉hs.map (·.1)) (h6:0≤n) (h7:n<m) (h8:n∉usN (row (rsOf es)) hs e.1)
  (hq:∀H',Keep [] H H'→Q S2 H'):Hy Q
def spIsFree(C:Nb):Sp:=λvs H Q _=>Hy Q
def ndSr:(["place", "hues"]:List Str).Nodup:=by decide+kernel
section
variable{P:Nk}{w:Nl}{K:Na}{mg:Nd}{base:Nn}
def scSwRt:zam ["web", "hues", "many", "swap", "start", "other", "places"] ["web", "hues", "many", "swap"] (zah sSwRt):=fsk
def ok_swrt(F:QD "is_swap_right" "is_swap_right" sSwRt f fd)(GH:ZI "is_hue" ["thing", "many"] 1 spIsHue)(GC:ZI "is_closed" ["web", "hues", "places", "two"] 2 (spClosed C))(ak:mg "all" = none)(aD:mg "sorted" = none)(kr:mg "set" = none):ZB 3 f fd ["web", "hues", "many", "swap"] (spSwRt C):=by
 refine F.okL scSwRt HN;obtain⟨B,x,dx,d,u,a,m,es,hs,sw,rfl,wt,W,hh,⟨l,_,ha,hl⟩,wr,hm,cK,kq⟩:=h;have aq:=zb7 hr;have cn:=hr.units0;have aj:BY _:=hr.mono HH;have ar:=sizeLine_eq;have R:=wr.row hh.nd;have aW:sw.2.2.length≤16:=Zi (zcn R.nd λy hy=>cK y (R.ke y hy)) (by rw[Qa];exact W.few);refine⟨_,zad (zdf Sn (Ei (Vy scSwRt.nd) (zaj (BA scSwRt.nd) (Te (X5 scSwRt.nd)))))
  (zad (AF (zcc aq Ib Rz) (Et (VY aj (QP SR))) (zd0 (BP OV (BZ Ib) Pu)))
  (zad (zbg (PW.pt (zde (KK Sy LI rfl) (zde (zc2 (zcw (J3 Rg ak Ww (zaa (zdu (M:=["place", "hues"]) (ix:=[none,AG]) (mkB scSwRt) rfl (EU LI) (λC a5 ex s H=>YX ndSr)
    (λC a5 ex s H=>zb1) (λC a5 ex s H=>pe_cmp (zff L0 RQ Rz))) zae))))
   (zd0 (zap (zg9 cn) LI (PR (zhq rfl) (Ix CC)) Sw))))) L' zao)
  (zaf (zas (Ek GC hr (ZS (W1 (Sa (zbq (zaa (BZ Ib) PM)))))))))),?_⟩
 have g1:=hh.hf.get Ip;rw[W6 (e:=(sw.1,TU)) (UR wr.s)]at g1;refine⟨vG,a,vG,Rx ha,rfl,_,vG,_,vG,_,vG,rfl,vG,vG,u,vG,g1,vG,Z2 ⟨vG,vG,_,vG,wr.lo,Int.lt_of_lt_of_le wr.hi hm,vG,Z2 ⟨vG,vG,vG,u,vG,g1,rfl,vG,?_⟩⟩⟩;rw[decide_eq_false (λe=>wr.ne (by injection e))];refine Z2 ⟨vG,vG,l,vG,Sr hl,rfl,PH,vG,?_⟩;have e2:(if true=true then !XR SU else XR SU)=false:=by rw[if_pos rfl,zdb,decide_eq_true R.st];rfl
 rw[e2];refine Z2 ⟨vG,l,rfl,⟨_,HL hl⟩,lc_map (xs:=sw.2.2.map V.str) (λ τ=>∃x0,τ=[x0,Cv]) (λ_=>.bl true) (HL hl) SY ⟨none,rfl⟩ ?_ (λD hD=>?_)⟩
 ·rintro v hv τ ⟨x0,rfl⟩ kk hk;obtain⟨z,hz,rfl⟩:=Qe.mp hv;have gz:=hh.hf.get ES;rw[W6 (e:=(z,Z8 z)) (UR (R.ke z hz))]at gz;exact⟨vG,vG,u,vG,gz,hk _ ⟨vG⟩⟩
 have em:(sw.2.2.map V.str).map (λ_=>V.bl true)=(Bd true).map V.bl:=by rw[Zg,Ji,Jo];exact⟨Qa _,λb hb=>by obtain⟨_,_,rfl⟩:=Qe.mp hb;rfl⟩
 rw[em];refine⟨D,vG,Ls,vG,?_⟩;rw[zf9];refine Z2 ?_;have k1:Keep [] H (Lc D ((Bd true).map V.bl)):=Keep.new hD;generalize ZR D (HR ((Bd true).map V.bl))=H1 at k1;have l1:=k1 _ _ hl HA;refine⟨vG,vG,l,sw.2.2,rfl,HL l1,R.nd,HB,λS hS=>⟨S,sw.2.2,rfl,zab,R.nd,λl2 ws av hp lU=>?_⟩⟩;have ews:ws=sw.2.2:=Wb.sorted_one hp (lU HB) R.so;subst ews;have k2:Keep [] H (Vl wV):=(TX (HV hS)).trans (HV av);have g2:(Vl wV) l2=some wV:=zab;refine⟨l,l2,sw.2.2,rfl,rfl,HL (Ce hl),HL g2,vG,Z2 ?_⟩;have g3:=(Lh k2).hf.get Ip;rw[W6 (e:=(sw.1,TU)) (UR wr.s)]at g3;refine⟨vG,vG,vG,vG,vG,u,vG,g3,vG,Tg,λt ht=>?_⟩;have k3:=k2.trans (Keep.new (xs:=[]) (o:=.tup [xQ,SZ]) ht);refine⟨x,dx,d,u,l,t,es,hs,sw.2.2,TU,sw.2.1,rfl,wt.keep k3 HA HA RA,W,Lh k3,Pg hl,zab,aW,λz hz=>cK z (R.ke z hz),R.ke,R.tm,R.cl,λH' k'=>kq H' (LC k')⟩
def scIsFree:zam ["web", "hues", "many", "place", "hue"] ["web", "hues", "many", "place", "hue"] (zah sIsFree):=fsk
def ok_isfree(F:QD "is_free" "is_free" sIsFree f fd)(cW:KW C)(nW:Mp "rounds")(mR:BF "round_of" fr)(bR:WE fdr ["self", "place"] [])(GR:ZB 1 fr fdr ["self", "place"] OG)(GH:ZI "is_hue" ["thing", "many"] 1 spIsHue):ZB 2 f fd ["web", "hues", "many", "place", "hue"] (spIsFree C):=by
 refine F.okL scIsFree HN;obtain⟨x,dx,d,u,m,n,es,hs,e,rfl,wt,W,hh,he,uC,me,bB,hnf,kq⟩:=h;have aq:=zb7 hr;have ar:=sizeLine_eq;refine⟨_,zad (Em (zbr (NI P9)) (zde (EG aq Cn) (zd0 (Et (VY hr (QV SR))))))
  (zaf (zas (zdn zbm Sy (zdu (M:=["other", "hues"]) (ix:=[none,AG]) (mkB scIsFree) rfl (EU (zev (pl:=_) RQ cW mR GR hr bR .nil zcv Tw)) (λC a5 ex s H=>YX ndFr)
    (λC a5 ex s H=>zcp (EG L0 RQ)) (λC a5 ex s H=>zbi L0 Rz RQ)) rfl))),?_⟩
 have g2:Bp d Si Pi:=by have:=DGet.k (k:=Sum.inr e.1) wt.ta.dc;rw[zcb wt.ta.nd he]at this;exact this
 have g1:=hh.hf.get SK;rw[zcx uC]at g1;refine⟨vG,vG,x,C,dx,_,vG,wt.ob,cW,nW,rfl,d,vG,g2,vG,Z2 ?_⟩;refine⟨vG,vG,u,vG,g1,vG,Z2 ?_⟩;refine⟨vG,vG,_,vG,me,bB,vG,Z2 ?_⟩;refine⟨vG,vG,x,dx,vG,wt.ob,rfl,vG,x,dx,d,es,e,rfl,wt,he,λq hq=>?_⟩;have bM:=X8 he;have cF:ZJ e.1=e.2.1:=Bi he;have k1:Keep [] H (ZR q HQ):=Keep.new hq;have bX:(ZR q HQ) q=some HQ:=zab;generalize ZR q HQ=H1 at k1 bX;have cg:=hh.keep k1 HA;refine⟨q,rfl,⟨_,Au⟩,λi m ys τ H'=>Aj5 (m=e.2.1.length-i) (i≤e.2.1.length) (Ex1 λx0=>τ=[x0,Cv]) (H'=H1) (ys=(((e.2.1.take i).filter λz=>decide (z∈hs.map (·.1))).map OX).map V.int),
  ⟨e.2.1.length,rfl,SW,⟨none,rfl⟩,rfl,rfl⟩,?_⟩
 rintro i m' ys τ H' ⟨rfl,hi,⟨x0,rfl⟩,rfl,rfl⟩;by_cases ad:i<e.2.1.length
 ·have gO:=Wh (λz=>decide (z∈hs.map (·.1))) (e.2.1.take i);rw[Zo]at gO;refine .inr ⟨⟨_,.str e.2.1[i],Au,by rw[Qk,Qb ad];rfl⟩,by rw[Qa,Qa];lia,?_⟩;rintro v H3 ⟨rfl,hv⟩;have aK:=hv _ Au;rw[Qk,Qb ad]at aK;obtain rfl:V.str e.2.1[i]=v:=Qo aK;have g:=cg.hf.get (Sum.inr e.2.1[i]);by_cases hz:e.2.1[i]∈hs.map (·.1)
  ·rw[W6 (e:=(e.2.1[i],Z8 e.2.1[i])) (UR hz)]at g;refine⟨vG,vG,u,vG,g,vG,WX ⟨vG,vG,u,vG,g,e.2.1.length-Rm,Ra,rfl,ad,⟨vG⟩,rfl,?_⟩⟩;rw[Qh ad,Yp,Zp Iy,Wk,Qp,Qp];rfl
  rw[zcx hz]at g;refine⟨vG,vG,u,vG,g,vG,Z2 ⟨e.2.1.length-Rm,Ra,rfl,ad,⟨vG⟩,rfl,?_⟩⟩;rw[Qh ad,Yp,Zq Iy,Wk,Zt]
 have bw:i=e.2.1.length:=by exact zar3 ‹_› ‹_›
 subst bw;refine .inl ⟨⟨_,Au,AK⟩,λL hL=>?_⟩;rw[Qr Rf];refine⟨L,vG,Sr zab,rfl,flat_ints _,?_⟩;have e2:(if true=true then !Bh (((e.2.1.filter λz=>decide (z∈hs.map (·.1))).map OX).map V.int) else Bh (((e.2.1.filter λz=>decide (z∈hs.map (·.1))).map OX).map V.int))=true:=by rw[if_pos rfl,zf5,decide_eq_false (by rw[←cF];exact hnf)];rfl
 rw[e2];exact kq _ (TX (HV hL))
end
end K21
namespace L2
open PySem PySem.Spec PyProof.Rows
structure FunD(K:Na)(x qual:Str)(st:Stmt)(f:Nb)(fd:Nu)(T:Nb)(a7:Array Value):Prop where
 ex:∃(oc:Value) (od:Option Addr) (kV doc pm:Value) (an:Option Addr) (cdv ct:Value) (osl:Array Tr),
  fd=QK TM (HK T) kV doc pm an cdv ct∧K.lookup f=some ⟨oc,od,.func fd,osl⟩∧JX cdv qual=true
 dt:∃(c:Value) (d:Option Addr) (n:Nat) (sl:Array Tr),K.lookup T=some ⟨c,d,.seq a7 n,sl⟩
 kp:W4 Ld=true
section
variable{P:Nk}{w:Nl}{K:Na}{mg:Nd}{base:Nn}{x qual:Str}{st:Stmt}{f T:Nb}{fd:Nu}{a7:Array Value}{N ps:Ng}{k:Nat}{sp:Sp}
def FunD.okL(F:yZ)(S:Vs TM)(bz:∀ (cdv:Value) (A:Np) (outer:List Env) (s:Ni) (H:Hp) (vs:List V) (Q:VK) (E:XK),Y4 S'→sp vs H Q E →
   ∃t,PSs (WQ E).nox yh t∧t {nx:=λ_ H'=>Q .non H',rt:=Q} On H)(len:∀vs H Q E,sp vs H Q E→vs.length=ps.length:=by intro _ _ _ _ h;cases h;subst_vars;rfl):ZB (k+1) f fd ps sp:=by
 obtain⟨oc,od,kV,doc,pm,an,cdv,ct,osl,rfl,lk,az⟩:=F.ex;refine fn_of lk az S len λA outer s H vs Q E hr bA=>?_;obtain⟨t,h,q⟩:=bz cdv A outer s H vs Q E hr bA;exact⟨t,h.nox,q⟩
def FunD.to(F:yZ)(X:K.In s.heap)(h:∀(kV doc pm:Value) (an:Option Addr) (cdv ct:Value),∃k:Option (Array Value)→Sem (S1 (Str×Value)),bindArgs (QK TM (HK T) kV doc pm an cdv ct) args=(seqItems? (HK T) >>= k)∧k (HW a7)=pure bs):UN args bs:=by obtain⟨oc,od,kV,doc,pm,an,cdv,ct,osl,rfl,lk,az⟩:=F.ex;obtain⟨c,d,n,sl,lt⟩:=F.dt;obtain⟨k,h1,h2⟩:=h kV doc pm an cdv ct;exact BindsTo.of_defaults (T:=T) rfl (X T _ lt) rfl h1 h2
end
end L2
namespace K21
open PySem L2 Wb
inductive IspRead(C:Nb)(vs:List V)(H:Hp)(Q:VK):Prop
 |mk (B:Hp) (x dx d l:Nb) (m:Int) (as:No) (es:List Ent) (P:List Step) (h0:vs=[.ref x,.ref l,.int m]) (h1:WAt H C x dx d es) (h2:WOk es) (h3:H l=some (.lst (as.map V.ref))) (h4:Paired (StAt B H) as P) (h5:RdOk (row (rsOf es)) [] P) (h6:4≤m) (h7:(P.map (·.1)).Perm (es.map (·.1)))
  (hq:∀u H',JZ u (V' [])→Keep [] H H'→Q (HK u) H'):IspRead C vs H Q
def spRead(C:Nb):Sp:=λvs H Q _=>IspRead C vs H Q
section
variable{P:Nk}{w:Nl}{K:Na}{mg:Nd}{base:Nn}
def zdz:zam ["web", "paper", "many", "hues", "at", "place", "hue", "swaps", "swap", "start", "other", "places"] ["web", "paper", "many"] (zah sRead):=fsk
def ok_read(F:M0 "read_paper" "read_paper" sRead f fd T a7)(cW:KW C)(mP:BF "places" fp)(bP:WE fdp ["self"] [])(GP:ZB 1 fp fdp ["self"] wA)(GW:ZI "is_swap_right" ["web", "hues", "many", "swap"] 3 (spSwRt C))(GF:ZI "is_free" ["web", "hues", "many", "place", "hue"] 2 (spIsFree C))(GE:ZI "exchanged_in" ["hues", "places", "one", "other"] 1 spExIn)(ae:mg "len" = none)(gP:mg "enumerate" = none):ZB 4 f fd ["web", "paper", "many"] (spRead C):=by
 refine F.okL zdz HN;obtain⟨B,x,dx,d,l,m,as,es,Pp,rfl,wt,W,hl,pa,ok,hm,dG,kq⟩:=h;have aq:=zb7 hr;have aj:BY _:=hr.mono HH;have bh:VS _:=hr.mono HH;have ar:=sizeLine_eq;refine⟨_,zad (Xz zdz.nd zei)
  (zad (ZX (pi_enumL rfl gP SQ) (W2 (zaj (Vy zdz.nd) (zaj (Ei (BA zdz.nd) (zaj (X5 zdz.nd) (Te (Gv zdz.nd)))) zba)))
   (zad (ZX (EU LK) (Gz zdz.nd)
    (zad (Sb (Et (Ek GW hr (QC (ZU (Gg zae))))))
    (zad (zdf CB (Ei (zal 9 zdz.nd) (zaj (zal 10 zdz.nd) (Te (zal 11 zdz.nd)))))
    (zaf (Xz zdz.nd (pcl GE aj (QC (zaa PB (zaa (zbi aq Sn OW) (Sa (pv 10)))))))))))
   (zad (Sb (Et (Ek GF bh (QC (ZU vF)))))
   (zaf (zb2 aq Sn SE LI rfl)))))
  (zad (vp (NP (zak call_lenD Rg ae Yd Tw) (PN (Sa (zjb (pl:=_) RQ cW mP GP aj bP .nil zcv))) Sw) L')
  (zaf (zas Sn)))),?_⟩
 have aH:Pp.length=es.length:=by have:=dG.length_eq;rwa[Qa,Qa]at this
 have aT:as.length=Pp.length:=Zr pa;have aE:(Pp.map (·.1)).Nodup:=dG.nodup_iff.mpr wt.ta.nd;have wk:∀{H':Hp},Keep [] H H'→WJ es:=λkk=>wt.keep kk HA HA λ_ _=>by simp
 have kys:∀i,(((Cg i).foldl stN []).map (·.1))=(Pp.map (·.1)).take i:=λi=>by rw[zg5,Jj,Wp,Je]
 have kin:∀i,∀y∈((Cg i).foldl stN []).map (·.1),y∈es.map (·.1):=λi y hy=>dG.mem_iff.mp (Ue (kys i▸hy));refine λu0 cn=>?_;have k0:Keep [] H (ZR u0 (.dK [])):=Keep.new cn;have h0:HAt (ZR u0 (.dK [])) u0 []:=⟨zab,Zk⟩;generalize ZR u0 (.dK [])=H0 at k0 h0;refine⟨_,rfl,l,rfl,⟨_,HL (k0 _ _ hl HA)⟩,for_enumL (xs:=as.map V.ref) (λi σ H'=>Ex1 λu:Addr=>Aj4 (Ex5 λx4 x5 x6 x7 x8=>Ex3 λx9 bU jG=>σ=[IL,CW,SL m,Cv,x4,x5,x6,x7,x8,x9,bU,jG]) (H u=none) Cz (JZ u ((Cg i).foldl stN [])))
  ⟨u0,⟨_,_,_,_,_,_,_,_,rfl⟩,cn,k0,h0⟩ (λi σ H' _ hh=>by obtain⟨_,_,_,z,_⟩:=hh;exact z _ _ hl HA) ?_ ?_⟩
 ·rintro i v t σ H1 hv ⟨u,⟨x4,x5,x6,x7,x8,x9,bU,jG,rfl⟩,fu,k1,h1⟩ ht;have hi:i<as.length:=by have:=(TJ hv).1;rwa[Qa]at this
  rw[Qk,Qb hi]at hv;cases hv;obtain⟨ap,hq⟩:=zat pa hi;have R:=rd_at ok i ap;have tk:(Cg Rm).foldl stN []=stN ((Cg i).foldl stN []) Pp[i]:=by rw[Qh ap,Km];rfl
  have aw:Pp[i].1∈es.map (·.1):=dG.mem_iff.mp (TW ⟨_,OO,rfl⟩);have kX:=kin i;generalize Pp[i]=q at hq R tk aw;generalize(Cg i).foldl stN []=hs at h1 R kX tk;obtain⟨e,he,ee⟩:=Qe.mp aw;have lC:e.1=q.1:=ee;obtain⟨lw,o4,bs,_,di,cR⟩:=hq;have k2:Keep [] H (QA t (.tup [E2,.ref as[i]])):=k1.trans Lw;have pI:bs.length=q.2.2.length:=Zr cR;refine⟨t,vG,Rx zab,rfl,_,vG,_,vG,as[i],vG,Rx (Ce o4),rfl,_,vG,_,vG,_,vG,rfl,rfl,?_⟩;have h2:=h1.keep (Keep.new (xs:=[]) (o:=.tup [E2,.ref as[i]]) ht) HA;generalize QA t (.tup [E2,.ref as[i]])=H2 at k2 h2;refine⟨_,rfl,lw,rfl,⟨_,HL (Ce di)⟩,za2 (xs:=bs.map V.ref) (λj σ H'=>Ex1 λu:Addr=>Aj4 (Ex4 λx8 x9 bU jG=>σ=[IL,CW,SL m,Cv,HW (.int (i:Int)),HW L5,HW Tz,HC lw,x8,x9,bU,jG]) (H u=none) Cz (JZ u ((Lf j).foldl exN hs)))
   ⟨u,⟨_,_,_,_,rfl⟩,fu,k2,h2⟩ (λi σ H' _ hh=>SqL.of (by obtain⟨_,_,_,z,_⟩:=hh;exact z _ _ di HA)) ?_ ?_⟩
  ·rintro j v σ H3 hv ⟨u3,⟨x8,x9,bU,jG,rfl⟩,uZ,k3,h3⟩;have hj:j<bs.length:=by have:=(TJ hv).1;rwa[Qa]at this
   rw[Qk,Qb hj]at hv;cases hv;obtain⟨eT,hw⟩:=zat cR hj;have wr:=sws_at R.sw j eT;have fk:(Lf (j+1)).foldl exN hs=exN ((Lf j).foldl exN hs) q.2.2[j]:=by rw[Qh eT,Km];rfl
   have cM:∀y∈((Lf j).foldl exN hs).map (·.1),y∈es.map (·.1):=by rw[zby];exact kX
   generalize q.2.2[j]=sw at hw wr fk;generalize(Lf j).foldl exN hs=hs3 at h3 wr fk cM;refine⟨vG,vG,vG,vG,B,x,dx,d,u3,bs[j],m,es,hs3,sw,rfl,wk k3,W,h3,hw.keep k3,wr,hm,cM,λH4 k4=>⟨_,rfl,Z2 ?_⟩⟩;have qA:=k3.trans k4;have h4:=h3.keep k4 HA;obtain⟨lr,_,tI,jk⟩:=hw;refine⟨vG,bs[j],vG,Rx (qA _ _ tI HA),rfl,_,vG,_,vG,_,vG,rfl,?_⟩;have g:=h4.hf.get Ip;rw[zbf h4.nd (e:=(sw.1,hu hs3 sw.1)) (zdo h4.nd wr.s)]at g;exact⟨vG,vG,vG,vG,u3,vG,g,vG,u3,lr,hs3,sw.2.2,hu hs3 sw.1,sw.2.1,rfl,h4.hf,qA _ _ jk HA,(wr.row h4.nd).ke,Zi (zie W h4.nd cM) HH,λt H5 ht5 h5 k5=>⟨t,⟨_,_,_,vG⟩,zav qA ht5 HA,qA.trans k5,HP fk h5⟩⟩
  rintro σ H3 ⟨u3,⟨x8,x9,bU,jG,rfl⟩,uZ,k3,h3⟩;rw[Qa,pI,Qr Rf]at h3;have i8:=Hz hs;refine⟨vG,vG,vG,vG,vG,x,dx,d,u3,m,q.2.1,es,_,e,by rw[lC];rfl,wk k3,W,h3,he,by rw[lC,i8];exact R.nw,R.lo,Int.lt_of_lt_of_le R.hi hm,by rw[lC];exact R.fr,λH4 k4=>⟨_,rfl,Z2 ?_⟩⟩;have h4:=h3.keep k4 HA;have df:=zie W h4.nd (HP i8 kX);exact⟨vG,vG,vG,u3,vG,DPut.k (k:=Sum.inr q.1) h4.dc SY,u3,⟨_,_,_,_,_,_,_,vG⟩,uZ,(LC k4).fr uZ,by rw[tk];exact h4.new q.2.1 (by rw[i8];exact R.nw)⟩
 rintro σ H1 ⟨u,⟨x4,x5,x6,x7,x8,x9,bU,jG,rfl⟩,fu,k1,h1⟩;rw[Qa,aT,Qr Rf]at h1;refine⟨vG,u,vG,h1.dc,vG,x,dx,vG,(wk k1).ob,rfl,x,dx,d,es,rfl,wk k1,λpl aH=>?_⟩;have k2:=k1.trans (Keep.new (xs:=[]) (o:=.lst ((es.map (·.1)).map V.str)) aH);refine⟨pl,vG,Sr zab,_,vG,rfl,vG,zau (decide_eq_false ?_) ⟨vG,kq u _ (h1.keep (Keep.new (xs:=[]) aH) HA) k2⟩⟩;have e1:=congrArg List.length (zg5 Pp []);rw[Qa,Jj,Wp,Qa]at e1;rw[Qa,Qa,Qa];lia
def rd_b3(F:M0 "read_paper" "read_paper" sRead f fd T #[Ao 5]):WE fd ["web", "paper", "many"] []:=λs us X hl=>F.to X λ_ _ _ _ _ _=>by rcases us with _|⟨a,_|⟨b,_|⟨c,_|⟨_,_⟩⟩⟩⟩<;>first|(cases hl;done)|exact⟨vG,rfl⟩
def rd_b2(F:M0 "read_paper" "read_paper" sRead f fd T #[Ao 5]):WE fd ["web", "paper", "many"] [Ao 5]:=λs us X hl=>F.to X λ_ _ _ _ _ _=>by rcases us with _|⟨a,_|⟨b,_|⟨c,_⟩⟩⟩<;>first|(cases hl;done)|(exfalso;simp at hl;done)|exact⟨vG,rfl⟩
end
theorem rd_bk(F:FunD K "read_paper" "read_paper" sRead f fd T #[.int 5 tk]):KBinds K fd ["web", "paper", "many"] ["many"] (λus ws=>match us,ws with | [a,b],[c]=>[a,b,c] | _,_=>[]) (λus ws=>match us,ws with | [a,b],[c]=>[a,b,c] | _,_=>[]) where
 to:=λs us ws X hl=>F.to X λ_ _ _ _ _ _=>by rcases us with _|⟨a,_|⟨b,_|⟨c,_⟩⟩⟩<;>rcases ws with _|⟨e,_|⟨_,_⟩⟩<;>first|(cases hl;done)|exact⟨vG,rfl⟩
 rel:=λ{vs us zs ws} r q=>by
  cases r with
  |nil=>exact .nil
  | cons a r=>cases r with
   |nil=>exact .nil
   | cons b r=>cases r with
    |cons _ _=>exact .nil
    | nil=>cases q with
     |nil=>exact .nil
     |cons c q=>cases q with
      |nil=>exact .cons a (EJ b (SA c))
      |cons _ _=>exact .nil
abbrev sLSwd:Stmt:=top 64
def RowIs.to(R:RowIs r hs w)(h:∀y z,z∈r' y→z∈r y):RowIs r' hs w:=⟨R.nd,R.so,R.st,R.ke,R.tm,λy hy z hz ht=>R.cl y hy z (h y z hz) ht⟩
def flat_hue(hs:List Re)(z:Str):zc4 (Mv z)=true:=by rcases hueV_is hs z with e|⟨v,e⟩<;>rw[e]<;>rfl
def tw_two(nd:(hs.map (·.1)).Nodup)(he:e∈hs)(h:U' a b e.1=true):a+b-e.2=if e.2=a then b else a:=by unfold tw hueV at h;rw[Gf he]at h;have h':decide (e.2∈[a,b])=true:=(zf5 (zs:=[a,b])).symm.trans h;have h2:=of_decide_eq_true h';simp only[Qi,Jx,or_false]at h2;split<;>lia
inductive IspLSwd(vs:List V)(H:Hp)(Q:VK):Prop
 |mk (B:Hp) (d u a:Nb) (es:List Ent) (hs:List (Str×Int)) (w:Swap) (h0:vs=[.ref d,.ref u,.ref a]) (h1:RF H d es) (h2:es.length≤16) (h3:HAt H u hs) (h4:SwAt B H a w) (h5:RowIs (row (rsOf es)) hs w) (h6:0≤w.2.1) (h6':w.2.1<4) (h6'':w.2.1≠hu hs w.1) (h7:∀y∈hs.map (·.1),y∈es.map (·.1)) (h8:hs.length≤16) (h9:∀e∈es,e.2.1.length≤16)
  (hq:∀t H',H t=none→JZ t xG→Keep [] H H'→Q Ll H'):IspLSwd vs H Q
def spLSwd:Sp:=λvs H Q _=>IspLSwd vs H Q
section
variable{P:Nk}{w:Nl}{K:Na}{mg:Nd}{base:Nn}
def ze7:zam [qR, "_law_hues", "_law_swap", "_law_start",qO, "_law_row_of", "_law_two", "_law_place",qB, "_law_found"] [qR, "_law_hues", "_law_swap"] (zah sLSwd):=fsk
def ok_lswd(F:QD "_law_swapped" "_law_swapped" sLSwd f fd)(GH:ZI "_law_is_hue" ["_law_thing"] 1 zgn)(aO:mg "dict" = none):ZB 2 f fd [qR, "_law_hues", "_law_swap"] spLSwd:=by
 refine F.okL ze7 HN;obtain⟨B,d,u,a,es,hs,sw,rfl,R,aS,hh,⟨l,_,ha,hl⟩,aX,lo,hi,ne,cK,gG,aW,kq⟩:=h;have aq:=zb7 hr;have ar:=sizeLine_eq;have i0:∀x y:V,atI [x,y] ((0:Nat):Int)=some x:=λx y=>za0 rfl;have i1:∀x y:V,atI [x,y] ((1:Nat):Int)=some y:=λx y=>za0 rfl;refine⟨_,zad (zdf Ss (Ei (NO ze7.nd) (zaj (Vy ze7.nd) (Te (BA ze7.nd)))))
  (zad (AF (NI Rz) (Et (VY hr TQ)) (zde (JH (BZ Cn) Pu) (zd0 (KK Cn OV rfl))))
  (zad (NT ze7.nd (PV (BZ Sn) TQ))
  (zad (ZX wT (Gv ze7.nd)
   (zad (Sb (KK (zjc aq Rz LK ⟨rfl,rfl,rfl,rfl⟩) LI rfl))
   (zaf (ZX (EU (NG LK)) (Gz ze7.nd)
    (zaf (Sb (xb (zap op_in_seq (zjc aq Rz CB ⟨rfl,rfl,rfl,rfl⟩) LI rfl) (zfz (KK CB OV rfl)))))))))
  (zad (zax 9 ze7.nd (yM SQ))
  (zad (ZX wT (Gv ze7.nd)
   (zaf (zb2 aq OW LK (Bg (YT Cb Cb) (BZ LK)) rfl)))
  (zaf (zas OW))))))),?_⟩
 have qK:=aX.ke _ aX.st;have g1:=hh.hf.get Ip;rw[W6 (e:=(sw.1,TU)) (UR qK)]at g1;have hRl:sw.2.2.length≤16:=Zi (zcn aX.nd aX.ke) (y8 gG);refine⟨vG,a,vG,Rx ha,rfl,_,vG,_,vG,_,vG,rfl,vG,vG,u,vG,g1,vG,Z2 ⟨vG,vG,lo,hi,vG,Z2 ⟨vG,vG,vG,u,vG,g1,rfl,vG,?_⟩⟩⟩;rw[decide_eq_false (λe=>ne (by injection e))];refine Z2 ⟨vG,vG,l,vG,Sr hl,rfl,PH,vG,?_⟩;have e2:(if true=true then !XR SU else XR SU)=false:=by rw[if_pos rfl,zdb,decide_eq_true aX.st];rfl
 rw[e2];refine Z2 ?_;refine⟨vG,vG,u,vG,g1,vG,Tg,λt ht=>?_⟩;have k1:Keep [] H (ZR t (.tup [xQ,SZ])):=Keep.new ht;have g2:(ZR t (.tup [xQ,SZ])) t=some (.tup [xQ,SZ]):=zab;generalize ZR t (.tup [xQ,SZ])=H1 at k1 g2;have aI:=k1 _ _ hl HA;have cg:=hh.keep k1 HA;have R1:=R.keep k1;refine⟨_,rfl,l,rfl,⟨_,HL aI⟩,za2 (xs:=sw.2.2.map V.str) (λi σ H'=>Aj2 (Ex2 λx7 x8=>σ=[Lb,Cv,HC a,HW CN,HW SZ,CW,AL,x7,x8,none]) (H1=H'))
  ⟨⟨_,_,rfl⟩,rfl⟩ (λi σ H' _ hh=>SqL.of (by obtain⟨_,rfl⟩:=hh;exact aI)) ?_ ?_⟩
 ·rintro i v σ _ hv ⟨⟨x7,x8,rfl⟩,rfl⟩;obtain⟨z,hz,rfl⟩:=Qe.mp (Yb hv);refine⟨vG,u,rfl,Rq ⟨_,cg.hf.dc⟩,vG,_,cg.hf.get ES,vG,t,vG,OQ g2,flat_hue hs z,rfl,vG,zau (show(!U' TU sw.2.1 z)=false by rw[aX.tm z hz];rfl) ?_⟩;obtain⟨e,he,ee,ge⟩:=R1.inn (cK z (aX.ke z hz));refine⟨_,rfl,_,rfl,d,_,rfl,ge,e.2.2,rfl,⟨_,HL (R1.ro e he)⟩,za2 (xs:=e.2.1.map V.str) (λi σ H'=>Aj2 (Ex1 λx8=>σ=[Lb,Cv,HC a,HW CN,HW SZ,CW,AL,S4 z,x8,none]) (H1=H'))
   ⟨⟨_,rfl⟩,rfl⟩ (λi σ H' _ hh=>SqL.of (by obtain⟨_,rfl⟩:=hh;exact R1.ro e he)) ?_ ?_⟩
  ·rintro j v σ _ hv ⟨⟨x8,rfl⟩,rfl⟩;obtain⟨y,hy,rfl⟩:=Qe.mp (Yb hv);have bf:y∈ZJ z:=by rw[←ee,zay R.nd he];exact hy
   refine⟨vG,u,rfl,Rq ⟨_,cg.hf.dc⟩,vG,_,cg.hf.get (SF y),vG,t,vG,OQ g2,flat_hue hs y,rfl,vG,?_⟩;by_cases iJ:U' TU sw.2.1 y=true
   ·refine zbj iJ ⟨_,rfl,_,rfl,l,_,rfl,Sr aI,rfl,PH,_,rfl,zau ?_ ⟨⟨_,rfl⟩,rfl⟩⟩;show(!inV (EB y) SU)=false;rw[zdb,decide_eq_true (aX.cl z hz y bf iJ)];rfl
   exact zau (Bool.eq_false_iff.mpr iJ) (Z2 ⟨⟨_,rfl⟩,rfl⟩)
  rintro σ _ ⟨⟨x8,rfl⟩,rfl⟩;exact⟨⟨_,vG⟩,rfl⟩
 rintro σ _ ⟨⟨x7,x8,rfl⟩,rfl⟩;refine⟨vG,u,vG,cg.hf.dc,λfo iU=>?_⟩;have k2:Keep [] H (QA fo Ln):=k1.trans (HV iU);have ffo:H fo=none:=FY iU HA;have uy:HAt (QA fo Ln) fo (ex (sw.2.2.take 0) TU sw.2.1 hs):=⟨by rw[zab,Kz,ex_nil],by rw[zhm];exact hh.nd⟩;have g3:(QA fo Ln) t=some (.tup [xQ,SZ]):=by rw[zag (yp g2 iU)];exact g2
 generalize QA fo Ln=H2 at k2 uy g3;have ntf:t≠fo:=λz=>by rw[z]at g3;exact absurd (g3.symm.trans uy.dc) HJ
 refine⟨_,rfl,l,rfl,⟨_,HL (Ce hl)⟩,za2 (xs:=sw.2.2.map V.str) (λi σ H'=>Aj4 (Ex2 λx7 x8=>σ=[Lb,Cv,HC a,HW CN,HW SZ,CW,AL,x7,x8,HC fo]) (JZ fo (K0 hs)) Cz (H' t=some (.tup [xQ,SZ])))
  ⟨⟨_,_,rfl⟩,uy,k2,g3⟩ (λi σ H' _ q=>SqL.of (q.3 _ _ hl HA)) ?_ ?_⟩
 ·rintro i v σ H3 hv ⟨⟨x7,x8,rfl⟩,r8,k3,g4⟩;have ap:i<sw.2.2.length:=by have:=(TJ hv).1;rwa[Qa]at this
  have nM:v=.str sw.2.2[i]:=by rw[Qk,Qb ap]at hv;exact(Qo hv).symm
  subst nM;have hz:=Qq ap;obtain⟨e,he,ez⟩:=Qe.mp (aX.ke _ hz);have qa:e.1=sw.2.2[i]:=ez;have tk:sw.2.2.take Rm=sw.2.2.take i++[e.1]:=by rw[qa];exact Qh ap
  have kj:=aX.tm _ hz;rw[←qa]at kj ⊢;have hg:=(Lh k3).hf.get SK;rw[W6 he]at hg;have ae:((K0 hs).map λe=>HI).length<sizeLine:=by unfold ex;rw[List.length_map,List.length_map];lia
  refine⟨vG,t,_,_,vG,rfl,Rx g4,C9,vG,t,_,_,vG,rfl,Rx g4,LD,_,vG,rfl,vG,vG,u,vG,hg,_,vG,rfl,vG,vG,fo,vG,DPut.k (k:=Sum.inr e.1) r8.dc ae,?_⟩;rw[tw_two hh.nd he kj];refine⟨⟨_,vG⟩,⟨by rw[zab,ex_put hh.nd he,tk],by rw[zhm];exact hh.nd⟩,k3.fr ffo,HZ ntf g4⟩
 rintro σ H3 ⟨⟨x7,x8,rfl⟩,r8,k3,g4⟩;rw[Qa,Qr Rf]at r8;exact⟨vG,kq fo H3 ffo r8 k3⟩
end
end K21
namespace L2
open PySem PySem.Spec PyProof.Rows
section
variable{X:Cx}
def any_range(bs:List Bool):(List.range bs.length).any (λi=>bs.getD i true)=bs.any id:=by
 rw[Wd,Yi,Yi];constructor
 ·rintro⟨i,hi,h⟩;have ap:=Yz.mp hi;simp[List.getD,ap]at h;exact⟨_,OO,h⟩
 rintro⟨x,hx,h⟩;obtain⟨i,hi,e⟩:=Zu hx;refine⟨i,Yz.mpr hi,?_⟩;simp[List.getD,hi,e];exact h
def call_any(hc:X.calm=true):YJ (.builtin "any") (λxs H Q=>Ex2 λ(p:Nb) (bs:List Bool)=>Aj3 (xs=[TB]) (Q9 p IM) (Iu (bs.any id))):=by
 intro a5 s σ H xs us Q I r h;obtain⟨p,bs,rfl,hq,q⟩:=h;obtain⟨u,rfl,rx⟩:=vals1 r;cases rx;refine call_any_walk (MG hq λa7 It h1 rv W st lt keep=>⟨It,_,_,_,_,_,λi=>bs.getD i true,rfl,W,st,λi v s' Q' E' e q'=>?_,λh' tk k=>⟨.bl (bs.any id),H,K' k,?_,q⟩⟩)
 ·have e':=zfs rv i v OR;subst e';exact wpAny_truthy_bool q'
 have av:=rv.length;rw[Qa]at av;show Value.bool _=Value.bool _;rw[Qv,←av,any_range]
end
end L2
namespace K21
open PySem L2 Wb
abbrev sLRead:Stmt:=top 65
def hue_new(nd:((hs++[(x,n)]).map (·.1)).Nodup)(h:y≠x):hueV (hs++[(x,n)]) y=Mv y:=by
 have jL:(hs.map (·.1)).Nodup:=by rw[Qp,Zb]at nd;exact nd.1
 unfold hueV;by_cases hy:y∈hs.map (·.1)
 ·have hm:=zdo jL hy;rw[zbf jL (e:=(y,Z8 y)) hm,Gf (e:=(y,Z8 y)) (YG hm)]
 rw[zcx hy,zcx (by rw[Qp,Qm];rintro(z|z);exact hy z;exact h (CI z))]
def eq_no(R:SRt r hs q)(nd:((KA q).map (·.1)).Nodup)(hy:y∈r q.1)(au:y≠q.1):Fv y≠.int q.2.1:=by
 unfold stN at nd ⊢;have jL:((q.2.2.foldl exN hs).map (·.1)).Nodup:=by rw[Qp,Zb]at nd;exact nd.1
 rw[hue_new nd au];unfold hueV;by_cases hk:y∈(q.2.2.foldl exN hs).map (·.1)
 ·rw[zbf jL (e:=(y,XD y)) (zdo jL hk)];intro z;have z':XD y=q.2.1:=by injection z
  refine R.fr ?_;rw[←z'];exact Qe.mpr ⟨y,Pj ⟨hy,RE hk⟩,rfl⟩
 rw[zcx hk];intro z;cases z
inductive IspLRead(vs:List V)(H:Hp)(Q:VK):Prop
 |mk (B:Hp) (r:Nq) (d l:Nb) (as:No) (es:List Ent) (P:List Step) (h0:vs=[.ref d,.ref l]) (h1:RF H d es) (h2:es.length≤16) (h2':∀e∈es,e.2.1.length≤16) (h3:H l=some (.lst (as.map V.ref))) (h4:Paired (StAt B H) as P) (h5:RdOk r [] P) (h6:∀y z,z∈row (rsOf es) y→z∈r y) (h6':∀y,y∉r y) (h7:(P.map (·.1)).Perm (es.map (·.1)))
  (hq:∀u H',JZ u (V' [])→Keep [] H H'→Q (HK u) H'):IspLRead vs H Q
def spLRead:Sp:=λvs H Q _=>IspLRead vs H Q
def ndLR:([qO, "_law_hues", "_law_hue"]:List Str).Nodup:=by decide+kernel
def any_rep(n:Nat):(B8 false).any id=false:=by rw[List.any_eq_false];intro x hx;rw[Xk hx];exact Zh
section
variable{P:Nk}{w:Nl}{K:Na}{mg:Nd}{base:Nn}
def zdk:zam [qR, "_law_paper", "_law_hues", "_law_place", "_law_hue", "_law_swaps", "_law_swap"] [qR, "_law_paper"] (zah sLRead):=fsk
def ok_lread(F:QD "_law_read" "_law_read" sLRead f fd)(GS:ZI "_law_swapped" [qR, "_law_hues", "_law_swap"] 2 spLSwd)(GH:ZI "_law_is_hue" ["_law_thing"] 1 zgn)(aO:mg "dict" = none)(f9:mg "any" = none):ZB 3 f fd [qR, "_law_paper"] spLRead:=by
 refine F.okL zdk HN;obtain⟨B,r,d,l,as,es,Pp,rfl,R,aS,aW,hl,pa,ok,jl,hir,dG,kq⟩:=h;have aq:=zb7 hr;have aj:BY _:=hr.mono HH;have ar:=sizeLine_eq;refine⟨_,zad (zfd (i:=2) zdk.nd rfl S8 zei)
  (zad (ZX wM (Ei (NO zdk.nd) (zaj (zi8 (i:=4) zdk.nd rfl S8) (Te (BA zdk.nd))))
   (zad (ZX wT (X5 zdk.nd)
    (zad (zfd (i:=2) zdk.nd rfl S8 (Hu (ZP (ZU CC))))
    (zaf (Sb (zbr (pc_isN Ia))))))
   (zad (AF (NI RQ) (zbr (zff aq Cn Ia)) (zd0 (Et (VY aj TQ))))
   (zad (zfd (i:=2) zdk.nd rfl S8 (yM SR))
   (zad (zb2 aq Ss Sn Sy rfl)
   (zaf (zbg (zcw (zak (call_any rfl) Rg f9 PyProof.Rows.boot_any (zaa (zdu (M:=[qO, "_law_hues", "_law_hue"]) (ix:=[none,HW 2,HW 4]) (mkB zdk) rfl (EU (NG Sn)) (λC a5 ex s H=>YX ndLR)
    (λC a5 ex s H=>zb1) (λC a5 ex s H=>zdn zhb (zjc L0 Rz RQ ⟨rfl,rfl,rfl,rfl⟩) Ss Sw)) zae))) L' zao)))))))
  (zaf Ad)),?_⟩
 have aH:Pp.length=es.length:=by have:=dG.length_eq;rwa[Qa,Qa]at this
 have aT:as.length=Pp.length:=Zr pa;have aE:(Pp.map (·.1)).Nodup:=dG.nodup_iff.mpr R.nd;have kys:∀i,(((Cg i).foldl stN []).map (·.1))=(Pp.map (·.1)).take i:=λi=>by rw[zg5,Jj,Wp,Je]
 have kin:∀i,∀y∈((Cg i).foldl stN []).map (·.1),y∈es.map (·.1):=λi y hy=>dG.mem_iff.mp (Ue (kys i▸hy));have ae:∀{hs:List Re},(hs.map (·.1)).Nodup→(∀y∈hs.map (·.1),y∈es.map (·.1))→hs.length≤16:=λ{hs} nd h=>by have:=zcn nd h;rw[Qa,Qa]at this;lia
 refine λu0 cn=>?_;have k0:Keep [] H (ZR u0 (.dK [])):=Keep.new cn;have h0:HAt (ZR u0 (.dK [])) u0 []:=⟨zab,Zk⟩;generalize ZR u0 (.dK [])=H0 at k0 h0;refine⟨_,rfl,l,rfl,⟨_,HL (k0 _ _ hl HA)⟩,za2 (xs:=as.map V.ref) (λi σ H'=>Ex1 λu:Addr=>Aj3 (Ex4 λx3 x4 x5 x6=>σ=[Lb,CW,Cv,x3,x4,x5,x6]) Cz (JZ u ((Cg i).foldl stN [])))
  ⟨u0,⟨_,_,_,_,rfl⟩,k0,h0⟩ (λi σ H' _ hh=>SqL.of (by obtain⟨_,_,z,_⟩:=hh;exact z _ _ hl HA)) ?_ ?_⟩
 ·rintro i v σ H1 hv ⟨u,⟨x3,x4,x5,x6,rfl⟩,k1,h1⟩;have hi:i<as.length:=by have:=(TJ hv).1;rwa[Qa]at this
  rw[Qk,Qb hi]at hv;cases hv;obtain⟨ap,hq⟩:=zat pa hi;have Rt:=rd_at ok i ap;have tk:(Cg Rm).foldl stN []=stN ((Cg i).foldl stN []) Pp[i]:=by rw[Qh ap,Km];rfl
  have aw:Pp[i].1∈es.map (·.1):=dG.mem_iff.mp (TW ⟨_,OO,rfl⟩);have kX:=kin i;generalize Pp[i]=q at hq Rt tk aw;generalize(Cg i).foldl stN []=hs at h1 Rt kX tk;obtain⟨lw,o4,bs,_,di,cR⟩:=hq;have pI:bs.length=q.2.2.length:=Zr cR;refine⟨as[i],vG,Rx (w8 o4),rfl,_,vG,_,vG,_,vG,rfl,?_⟩;refine⟨_,rfl,lw,rfl,⟨_,HL (w8 di)⟩,za2 (xs:=bs.map V.ref) (λj σ H'=>Ex1 λu:Addr=>Aj3 (Ex1 λx6=>σ=[Lb,CW,Cv,HW L5,HW Tz,HC lw,x6]) Cz (JZ u ((Lf j).foldl exN hs)))
   ⟨u,⟨_,rfl⟩,k1,h1⟩ (λi σ H' _ hh=>SqL.of (by obtain⟨_,_,z,_⟩:=hh;exact z _ _ di HA)) ?_ ?_⟩
  ·rintro j v σ H3 hv ⟨u3,⟨x6,rfl⟩,k3,h3⟩;have hj:j<bs.length:=by have:=(TJ hv).1;rwa[Qa]at this
   rw[Qk,Qb hj]at hv;cases hv;obtain⟨eT,hw⟩:=zat cR hj;have wr:=sws_at Rt.sw j eT;have fk:(Lf (j+1)).foldl exN hs=exN ((Lf j).foldl exN hs) q.2.2[j]:=by rw[Qh eT,Km];rfl
   have cM:∀y∈((Lf j).foldl exN hs).map (·.1),y∈es.map (·.1):=by rw[zby];exact kX
   generalize q.2.2[j]=sw at hw wr fk;generalize(Lf j).foldl exN hs=hs3 at h3 wr fk cM;exact⟨vG,vG,vG,B,d,u3,bs[j],es,hs3,sw,rfl,R.keep k3,aS,h3,hw.keep k3,(wr.row h3.nd).to jl,wr.lo,wr.hi,wr.ne,cM,ae h3.nd cM,aW,λt H5 ht5 h5 k5=>⟨vG,vG,Z2 ⟨t,⟨vG⟩,LC k5,HP fk h5⟩⟩⟩
  rintro σ H3 ⟨u3,⟨x6,rfl⟩,k3,h3⟩;rw[Qa,pI,Qr Rf]at h3;have i8:=Hz hs;obtain⟨e,he,ee,ge⟩:=(R.keep k3).inn aw;have g1:=h3.hf.get Cy;rw[zcx (by rw[i8];exact Rt.nw)]at g1;refine⟨vG,vG,d,vG,ge,vG,Z2 ⟨vG,vG,u3,vG,g1,vG,Z2 ⟨vG,vG,Rt.lo,Rt.hi,vG,Z2 ⟨vG,u3,vG,h3.hf.dc,λu4 hu4=>?_⟩⟩⟩⟩;have k4:Keep [] H (Q4 u4 (.dK ((q.2.2.foldl exN hs).map λe=>HI))):=k3.trans (HV hu4);have fu4:H u4=none:=zav k3 hu4 HA;have h4:HAt (Q4 u4 (.dK ((q.2.2.foldl exN hs).map λe=>HI))) u4 yR:=⟨zab,h3.nd⟩;generalize Q4 u4 (.dK ((q.2.2.foldl exN hs).map λe=>HI))=H4 at k4 h4;have df:=ae h4.nd (HP i8 kX);refine⟨vG,vG,vG,u4,vG,DPut.k (k:=Sum.inr q.1) h4.dc SY,?_⟩;have h5:=h4.new q.2.1 (x:=q.1) (by rw[i8];exact Rt.nw);have k5:=k4.fr fu4 (o:=.dK (putK ((q.2.2.foldl exN hs).map λe=>HI) Cy Tz));generalize QQ u4 (.dK (putK ((q.2.2.foldl exN hs).map λe=>HI) Cy Tz))=H5 at h5 k5;have rJ:HAt H5 u4 (KA q):=h5;have R5:=R.keep k5;have g5:=R5.ro e he;have ge':DGet H5 d L5 Pi:=by rw[←ee];exact R5.get he
  refine⟨vG,vG,d,vG,ge',e.2.2,rfl,⟨_,HL g5⟩,lc_map (xs:=e.2.1.map V.str) (λ τ=>∃x0,τ=[x0,HC u4,HW Tz]) (λ_=>.bl false) (HL g5) (by rw[Qa];have:=aW e he;lia) ⟨none,rfl⟩ ?_ (λD hD=>?_)⟩
  ·rintro v hv τ ⟨x0,rfl⟩ kk hk;obtain⟨y,hy,rfl⟩:=Qe.mp hv;have bf:y∈r q.1:=jl _ _ (by rw[←ee,zay R.nd he];exact hy);have au:y≠q.1:=λz=>hir q.1 (z▸bf);refine⟨vG,u4,rfl,Rq ⟨_,rJ.hf.dc⟩,vG,_,rJ.hf.get (SF y),vG,?_,?_⟩
   ·show scal (Fv y) Tz=true;rcases hueV_is (KA q) y with e|⟨v,e⟩<;>rw[e]<;>rfl
   show kk (.bl (decide (Fv y=.int q.2.1))) _ _;rw[decide_eq_false (eq_no Rt rJ.nd bf au)];exact hk _ ⟨_,rfl⟩
  have em:(e.2.1.map V.str).map (λ_=>V.bl false)=(List.replicate e.2.1.length false).map V.bl:=by rw[Zg,Ji,Jo];exact⟨Qa _,λb hb=>by obtain⟨_,_,rfl⟩:=Qe.mp hb;rfl⟩
  rw[em];refine⟨D,vG,Ls,vG,?_⟩;rw[any_rep];exact Z2 ⟨u4,⟨_,_,_,_,rfl⟩,CD Pt,by rw[tk];exact rJ.keep (Keep.new (xs:=[]) hD) HA⟩
 rintro σ H1 ⟨u,⟨x3,x4,x5,x6,rfl⟩,k1,h1⟩;rw[Qa,aT,Qr Rf]at h1;exact⟨vG,kq u H1 h1 k1⟩
abbrev sLRt:Stmt:=top 66
def eltOf:Expr→Expr
 |.ListComp e _ _ _=>e
 |e=>e
abbrev csRA:Scope:=scOf Ak
abbrev csRB:Scope:=scOf (aOf 0 (eltOf Ak))
def csRA_o:∀y∈csRA.names,y.2=.cell→some ("_law_p" : Str)=some y.1:=by decide+kernel
def csRA_z:csRA.names.lookup ("_law_p" : Str)=some .cell:=by decide+kernel
def csRA_n:∀y∈csRA.names,y.2=.local→csRA.names.lookup y.1=some .local:=by decide+kernel
def csRA_f:∀y∈csRA.names,y.2=.free→(zah sLRt).names.lookup y.1=some .cell∨(zah sLRt).names.lookup y.1=some .free:=by decide+kernel
def csRA_l:csRA.names.lookup (qR:Str)=some NameKind.free:=by decide+kernel
def csRA_m:csRA.names.lookup ("_law_hues" : Str)=some NameKind.free:=by decide+kernel
def csRB_c:∀y∈csRB.names,y.2≠.cell:=by decide+kernel
def csRB_n:∀y∈csRB.names,y.2=.local→csRB.names.lookup y.1=some .local:=by decide+kernel
def csRB_l:csRB.names.lookup ("_law_hues" : Str)=some NameKind.free:=by decide+kernel
def csRB_m:csRB.names.lookup ("_law_p" : Str)=some NameKind.free:=by decide+kernel
def csRB_f(h:env.scope=zah sLRt):∀y∈csRB.names,y.2=.free→(relabel csRA env).names.lookup y.1=some .cell∨(relabel csRA env).names.lookup y.1=some .free:=by
 unfold relabel Env.kindOf;rw[h]
 decide+kernel
def ndRA:(["_law_p",qR, "_law_hues"]:List Str).Nodup:=by decide+kernel
def ndRB:(["_law_q", "_law_hues", "_law_p"]:List Str).Nodup:=by decide+kernel
def ndRC:(["_law_p", "_law_hues"]:List Str).Nodup:=by decide+kernel
end
def call_allK(hK:X.K=K)(hc:X.calm=true):YJ (.builtin "all") (λxs H Q=>Ex2 λ(p:Nb) (bs:List Bool)=>Aj3 (xs=[TB]) (YH p IM) (Iu yn)):=hK▸zdr hc
inductive IspLRt(vs:List V)(H:Hp)(Q:VK):Prop
 |mk (d u:Nb) (es:List Ent) (hs:List (Str×Int)) (h0:vs=[.ref d,.ref u]) (h1:RAt H d es) (h2:HAt H u hs) (h3:es.length≤16) (h3':∀e∈es,e.2.1.length≤16) (h4:(hs.map (·.1)).Perm (es.map (·.1))) (h5:∀e∈hs,0≤e.2∧e.2<4) (h6:∀e∈es,∀y∈e.2.1,y∈es.map (·.1)∧hu hs e.1≠hu hs y)
  (hq:∀H',Keep [] H H'→Q S2 H'):IspLRt vs H Q
def spLRt:Sp:=λvs H Q _=>IspLRt vs H Q
section
variable{P:Nk}{w:Nl}{K:Na}{mg:Nd}{base:Nn}
def scLRt:zam [qR, "_law_hues"] [qR, "_law_hues"] (zah sLRt):=fsk
def ok_lrt(F:QD "_law_right" "_law_right" sLRt f fd)(GH:ZI "_law_is_hue" ["_law_thing"] 1 zgn)(bd:mg "isinstance" = none)(aO:mg "dict" = none)(aD:mg "sorted" = none)(ak:mg "all" = none):ZB 2 f fd [qR, "_law_hues"] spLRt:=by
 refine F.okL scLRt HN;obtain⟨d,u,es,hs,rfl,R,hh,aS,aW,dG,h5,h6,kq⟩:=h;have aq:=zb7 hr;have cn:=hr.units0;have ar:=sizeLine_eq;refine⟨_,zad (zbg (PW.pt (zde (Et (Cf (ZS (Sa (zfe (T:= "dict") rfl aO Uj)))))
   (zde (zap (zg9 cn) (yG SQ) (yG Ta) Sw)
   (zd0 (zc2 (zcw (J3 Rg ak Ww (zaa (zja (zdu (M:=["_law_p", "_law_hues"]) (ix:=[none,AG]) (mkB scLRt) rfl (zd1 Rz) (λC a5 ex s H=>YX ndRC)
    (λC a5 ex s H=>zb1) (λC a5 ex s H=>VY (RY hr) (Sa Io)))) zae)))))))) L' zao)
  (zaf (zas (J3 Rg ak Ww (zaa (zja (pe_lcC (oz:=some "_law_p") (M:=["_law_p",qR, "_law_hues"]) (ix:=[none,yX,AG])
    ⟨by rfl,csRA_o,λ_ _=>rfl,λ_=>rfl,λ_ h=>(by cases h;exact csRA_z),csRA_n,csRA_f,rfl,ndRA,λj i x h1 h2=>by
       match j,h1,h2 with
       |0,_,h2=>cases h2
       |1,h1,h2=>cases h1;cases h2;exact⟨rfl,csRA_l⟩
       |2,h1,h2=>cases h1;cases h2;exact⟨rfl,csRA_m⟩
       |n+3,h1,_=>cases h1⟩ rfl OB (λC a5 ex s H=>zi8 (i:=0) ndRA rfl S8 (Or.inl Rg))
    (λC a5 ex s H=>zb1)
    (λC a5 ex s H=>zak (call_allK (K:=K) rfl rfl) Rg (RY ak) Ww (zaa (zdu (M:=["_law_q", "_law_hues", "_law_p"]) (ix:=[none,HW 2,yX]) ⟨by rfl,csRB_c,csRB_n,csRB_f rfl,rfl,ndRB,λj i x h1 h2=>by
       match j,h1,h2 with
       |0,_,h2=>cases h2
       |1,h1,h2=>cases h1;cases h2;exact⟨rfl,csRB_l⟩
       |2,h1,h2=>cases h1;cases h2;exact⟨rfl,csRB_m⟩
       |n+3,h1,_=>cases h1⟩ rfl (pi_listK (K:=K) rfl Io) (λC a5 ex s H=>YX ndRB)
       (λC a5 ex s H=>zb1) (λC a5 ex s H=>zdn op_ne (zbi L0 Rz Ss) Io Sw)) zae)))) zae)))),?_⟩
 have gG:hs.length≤16:=by have:=dG.length_eq;rw[Qa,Qa]at this;lia
 have key:∀(l:List Re),(l.map λe=>HI).map (λp=>kV p.1)=(EF (·.1)).map V.str:=λl=>by rw[Zg,Zg];rfl
 have sJ:(eWV es).map (λp=>kV p.1)=(es.map (·.1)).map V.str:=by rw[Zg,Zg];rfl
 refine⟨vG,_,_,_,vG,.dK hh.dc,kit_dd,vG,Z2 ⟨vG,u,_,hs.map (·.1),rfl,.inl hh.dc,key hs,λl1 jH aI fB so1=>?_⟩⟩;have k1:Keep [] H (Lc l1 Ew):=Keep.new aI;have g1:(Lc l1 Ew) l1=some (HR Ew):=zab;generalize ZR l1 (HR Ew)=H1 at k1 g1;refine⟨vG,d,_,es.map (·.1),rfl,Rq (k1 _ _ R.dc HA),sJ,λl2 lF av cr so2=>?_⟩;have k2:Keep [] H (QA l2 Ly):=k1.trans (HV av);have g2:(QA l2 Ly) l2=some Ly:=zab;have g1':(QA l2 Ly) l1=some (HR Ew):=by rw[zag (yp g1 av)];exact g1
 generalize QA l2 Ly=H2 at k2 g2 g1';have e12:jH=lF:=Wb.sorted_one (fB.trans (dG.trans cr.symm)) (so1 SY) (so2 SY);subst e12;refine⟨l1,l2,jH,rfl,rfl,HL g1',HL g2,vG,Z2 ?_⟩;have h2:=hh.keep k2 HA;have nfu:∀o' u',H u≠some Tl:=λo' u' z=>by rw[hh.dc]at z;cases z
 have aN:(hs.map λe=>HI).length=hs.length:=Qa ..;refine⟨_,rfl,u,_,rfl,h2.dc,λo=>⟨λi m ys τ H'=>Aj6 (m=hs.length-i) (i≤hs.length) (Ex1 λx0=>τ=[x0,Cv]) (H' u=some (TZ (.dK RC))) (Keep [u] H2 H') (ys=(VN true).map V.bl),
  ⟨hs.length,rfl,SW,⟨none,rfl⟩,zab,L4,rfl⟩,?_⟩⟩
 rintro i m ys τ H3 ⟨rfl,hi,⟨x0,rfl⟩,hz,k3,rfl⟩;by_cases ad:i<hs.length
 ·refine .inr ⟨⟨hz,by rw[aN];exact ad⟩,by rw[Qa,Uw];lia,?_⟩;rintro y H' ⟨rfl,pr,e1,rfl⟩;have gg:pr=((Sum.inr hs[i].1:Key),V.int hs[i].2):=by rw[Qk,Qb ad]at e1;exact(Qo e1).symm
  subst gg;have aU:=Qq ad;have hb:=h5 _ aU;refine⟨vG,vG,u,vG,Rq ⟨_,Sum.inr hs[i].1,SJ ⟨o,hz⟩,rfl,(W6 aU).symm⟩,vG,hb.1,hb.2,_,Ra,rfl,ad,⟨vG⟩,hz,k3,?_⟩;rw[List.replicate_succ',Qp];rfl
 have bw:i=hs.length:=by lia
 subst bw;refine .inl ⟨⟨hz,RN aN⟩,λD hD=>?_⟩;have nuD:u≠D:=VQ hD;refine⟨u,o,_,(HZ nuD hz),nfu,?_⟩;have k4:Keep [] H2 (upd (Q4 D (HR ((NJ true).map V.bl))) u Ln):=λc w' ec _=>by
  by_cases uG:c=u
  ·subst uG;rw[zab,←h2.dc];exact ec
  have:=k3 c w' ec (HE uG);rw[zag uG,zag (zac this hD)];exact this
 refine⟨D,vG,HL (by rw[zag (Zm nuD)];exact zab),vG,?_⟩;rw[zf9];refine Z2 ?_;have k5:=k2.trans k4;generalize upd (Q4 D (HR ((NJ true).map V.bl))) u Ln=H5 at k4 k5;have hh5:=hh.keep k5 HA;have R5:RAt H5 d es:=R.keep k5 HA RA;have nfd:∀o' u',H d≠some Tl:=λo' u' z=>by rw[R.dc]at z;cases z
 have nud:0<es.length→u≠d:=λhp z=>by
  have h1:=hh5.dc;rw[z,R5.dc]at h1;have h1:(eWV es)=hs.map λe=>HI:=by injection(Qo h1)
  have h2:=congrArg (λl=>l[0]?) h1;rw[Qk,Qk,Qb hp]at h2;cases h3:hs[0]? with
  |none=>rw[h3]at h2;cases h2
  |some f=>rw[h3]at h2;have h4:V.ref es[0].2.2=V.int f.2:=congrArg Prod.snd (Qo h2);cases h4
 have oB:(eWV es).length=es.length:=Qa ..;refine⟨_,rfl,d,_,rfl,R5.dc,λo2=>⟨λi m ys τ H'=>Aj6 (m=es.length-i) (i≤es.length) (Ex1 λx0=>τ=[x0,Lb,Cv]) (H' d=some (.frz o2 Ry)) (Keep [d] H5 H') (ys=(VN true).map V.bl),
  ⟨es.length,rfl,SW,⟨none,rfl⟩,zab,L4,rfl⟩,?_⟩⟩
 rintro i m ys τ H6 ⟨rfl,hi6,⟨x6,rfl⟩,iD,k6,rfl⟩;by_cases ad:i<es.length
 ·refine .inr ⟨⟨iD,by rw[oB];exact ad⟩,by rw[Qa,Uw];lia,?_⟩;rintro y H' ⟨rfl,pr,e1,rfl⟩;have gg:pr=((Sum.inr es[i].1:Key),V.ref es[i].2.2):=by rw[Qk,Qb ad]at e1;exact(Qo e1).symm
  subst gg;have aU:=Qq ad;generalize es[i]=en at aU;have du:=R5.ro en aU;have hr6:=k6 _ _ du (by simpa using za8 du R5.dc HJ);have hh6:=hh5.keep k6 (by simpa using nud HB);have aw:∀y,y∈es.map (·.1)→(y,Z8 y)∈hs:=λy hy=>UR (dG.mem_iff.mpr hy);have gn:=hh6.hf.get (Sum.inr en.1);rw[W6 (aw en.1 (TW ⟨en,aU,rfl⟩))]at gn;refine⟨vG,vG,d,.ref en.2.2,rfl,Rq ⟨_,Sum.inr en.1,SJ ⟨o2,iD⟩,rfl,(zcb R5.nd aU).symm⟩,en.2.2,rfl,⟨_,HL hr6⟩,lc_map (xs:=en.2.1.map V.str) (λ τ=>∃x0,τ=[x0,Cv,HW (.str en.1)]) (λ_=>.bl true) (HL hr6) (by rw[Qa];have:=aW en aU;lia) ⟨none,rfl⟩ ?_ (λD hD=>?_)⟩
  ·rintro v hv τ ⟨x0,rfl⟩ kk hk;obtain⟨z,nh,rfl⟩:=Qe.mp hv;obtain⟨h6a,h6b⟩:=h6 en aU z nh;have go:=hh6.hf.get ES;rw[W6 (aw z h6a)]at go;refine⟨vG,vG,u,vG,gn,vG,vG,u,vG,go,rfl,?_⟩;rw[decide_eq_false (λq=>h6b (by injection q))];exact hk _ ⟨_,rfl⟩
  have em:(en.2.1.map V.str).map (λ_=>V.bl true)=(List.replicate en.2.1.length true).map V.bl:=by rw[Zg,Ji,Jo];exact⟨Qa _,λb hb=>by obtain⟨_,_,rfl⟩:=Qe.mp hb;rfl⟩
  rw[em];refine⟨D,vG,Ls,?_⟩;rw[zf9];refine⟨_,Ra,rfl,ad,⟨vG⟩,HZ (yp iD hD) iD,OI (HV hD),?_⟩;rw[List.replicate_succ',Qp];rfl
 have bw:i=es.length:=by lia
 subst bw;refine .inl ⟨⟨iD,RN oB⟩,λD hD=>?_⟩;have ndD:d≠D:=zac iD hD;refine⟨d,o2,_,(HZ ndD iD),nfd,D,vG,HL (by rw[zag yE];exact zab),?_⟩;rw[zf9];refine kq _ (k5.trans λc w' ec _=>?_);by_cases az:c=d
 ·subst az;rw[zab,←R5.dc];exact ec
 have:=k6 c w' ec wJ;rw[zag az,zag (zac this hD)];exact this
structure Prp(r:Nq)(hs:List (Str×Int)):Prop where
 nd:(hs.map (·.1)).Nodup
 rg:∀e∈hs,0≤e.2∧e.2<4
 ne:∀x y,x∈hs.map (·.1)→y∈hs.map (·.1)→y∈r x→Z8 x≠Z8 y
def hu_ex{hs:List Re}(nd:(hs.map (·.1)).Nodup){w:Swap}{x:Str}(h:x∈hs.map (·.1)):hu xG x=if x∈w.2.2 then(if Z8 x=Z8 w.1 then w.2.1 else Z8 w.1) else Z8 x:=by have hm:=zdo nd h;exact hu_in (hs:=QW w) (HP zel nd) (e:=(x,if x∈w.2.2 then(if Z8 x=Z8 w.1 then w.2.1 else Z8 w.1) else Z8 x)) (TW ⟨_,hm,rfl⟩)
def tw_mem{hs:List Re}(nd:(hs.map (·.1)).Nodup){x:Str}(h:x∈hs.map (·.1)){a b:Int}:U' a b x=true↔Z8 x=a∨Z8 x=b:=by rw[←tw_eq nd h,show inV (Rv (Z8 x)) [Rv a,xE]=decide (Z8 x∈[a,b]) from zf5 (zs:=[a,b]),decide_eq_true_eq];simp only[Qi,Jx,or_false]
def Prp.ex{r:Nq}(sy:∀x y,y∈r x→x∈r y){hs:List Re}(h:NY hs){w:Swap}(W:Fm w):NY xG:=by
 have R:=W.row h.nd;have h0:=h.rg _ (zdo h.nd W.s);refine⟨by rw[zel];exact h.nd,λe he=>?_,λx y hx hy fm=>?_⟩
 ·obtain⟨e',bi,rfl⟩:=Qe.mp he;dsimp only;split
  ·split
   ·exact⟨W.lo,W.hi⟩
   exact h0
  exact h.rg e' bi
 rw[zel]at hx hy;rw[hu_ex h.nd hx,hu_ex h.nd hy];have hn:=h.ne x y hx hy fm;have tx:=@tw_mem hs h.nd x hx C5 w.2.1;have ty:=@tw_mem hs h.nd y hy C5 w.2.1;have wn:=W.ne;by_cases zx:x∈w.2.2<;>by_cases zy:y∈w.2.2
 ·rw[Sx zx,Sx zy];have a1:=tx.mp (R.tm x zx);have a2:=ty.mp (R.tm y zy);split<;>split<;>lia
 ·rw[Sx zx,So zy];have a2:¬(Z8 y=Z8 w.1∨Z8 y=w.2.1):=λz=>zy (R.cl x zx y fm (ty.mpr z));split<;>lia
 ·rw[So zx,Sx zy];have a2:¬(Z8 x=Z8 w.1∨Z8 x=w.2.1):=λz=>zx (R.cl y zy x (sy _ _ fm) (tx.mpr z));split<;>lia
 rw[if_neg zx,if_neg zy];exact hn
def Prp.exs(sy:∀x y,y∈r x→x∈r y)(h:NY hs)(k:MY L):NY (Z3 hs):=by
 induction L generalizing hs with
 |nil=>exact h
 |cons w t ih=>exact ih (h.ex sy k.1) k.2
def hu_app(nd:((hs++[(x,n)]).map (·.1)).Nodup):hu (hs++[(x,n)]) x=n∧∀y∈hs.map (·.1),hu (hs++[(x,n)]) y=Z8 y:=by
 have jL:(hs.map (·.1)).Nodup:=by rw[Qp,Zb]at nd;exact nd.1
 exact⟨Fl (e:=(x,n)) ER,λy hy=>Fl (e:=(y,Z8 y)) (YG (zdo jL hy))⟩
def Prp.st(sy:∀x y,y∈r x→x∈r y)(ir:∀y,y∉r y)(h:NY hs)(S:SRt r hs q):NY (KA q):=by
 have h':=h.exs sy S.sw;have hk:=Hz hs;have nd:((q.2.2.foldl exN hs++[(q.1,q.2.1)]).map (·.1)).Nodup:=by
  rw[Qp,Zb];refine⟨h'.nd,C7 ⟨HA,Zk⟩,λa ha b hb e=>?_⟩;have cu:b=q.1:=by simpa using hb
  rw[hk]at ha;exact S.nw (cu▸e▸ha)
 obtain⟨a1,a2⟩:=hu_app nd;have jf:∀y,y∈(q.2.2.foldl exN hs).map (·.1)→y∈r q.1→q.2.1≠XD y:=λy hy hr z=>S.fr (z▸Qe.mpr ⟨y,Pj ⟨hr,RE hy⟩,rfl⟩);unfold stN;refine⟨nd,λe he=>?_,λx y hx hy fm=>?_⟩
 ·rcases Qm.mp he with z|z
  ·exact h'.rg e z
  rw[Qd.mp z];exact⟨S.lo,S.hi⟩
 rw[Qp,Qm]at hx hy;rcases hx with hx|hx<;>rcases hy with hy|hy
 ·rw[a2 x hx,a2 y hy];exact h'.ne x y hx hy fm
 ·obtain rfl:y=q.1:=by simpa using hy
  rw[a2 x hx,a1];exact Zm (jf x hx (sy _ _ fm))
 ·obtain rfl:x=q.1:=by simpa using hx
  rw[a1,a2 y hy];exact jf y hy fm
 obtain rfl:x=q.1:=by simpa using hx
 obtain rfl:y=q.1:=by simpa using hy
 exact absurd fm (ir _)
end
def Prp.rd(sy:∀x y,y∈r x→x∈r y)(ir:∀y,y∉r y)(h:NY hs)(k:Hw P):NY (V' hs):=by
 induction P generalizing hs with
 |nil=>exact h
 |cons q t ih=>exact ih (h.st sy ir k.1) k.2
def on_pos(nd:(r x).Nodup)(h:¬ mex A3 < 4)(hm:0 < m)(e:YN m=(none,n)):0 < n:=by
 have h0:(0:Int)∈BH hs x:=(mex_is A3).2 0 HB;obtain⟨z,hz,_⟩:=Qe.mp h0;have dq:=Zf.mp hz;have au:JM x≠[]:=by
  have hc:z∈chH (·∈r x):=(chH_iff nd λ_ y=>y).mpr dq.1;obtain⟨o,ho⟩:∃o,o∈([0,1,2,3]:List Int).filter λo=>!decide (o=Z8 z):=by
   by_cases q:(0:Int)=Z8 z
   ·exact⟨1,Pj ⟨HA,by rw[←q];rfl⟩⟩
   exact⟨0,Pj ⟨HA,by rw[decide_eq_false q];rfl⟩⟩
  have:(z,o)∈JM x:=Xu.mpr ⟨z,Pj ⟨hc,dq.2⟩,TW ⟨o,ho,rfl⟩⟩;exact λq=>by rw[q]at this;cases this
 unfold onN at e;cases ht:JM x with
 |nil=>exact absurd ht au
 |cons q t=>
  rw[ht,Qn]at e;by_cases hq:mex zC<4
  ·rw[zgr (a:=[zE]) (n:=0) HB (by rw[Sx hq])]at e;cases e
  rw[zgs (n:=0) HB (by rw[So hq])]at e;obtain⟨R,N,_,eN⟩:=zjo (b:=0) (gs:=t.map λq _=>(if mex zC<4 then some [zE] else none,0)) (λg hg=>by obtain⟨q',_,rfl⟩:=Qe.mp hg;exact⟨_,0,Rf,λb=>by rw[if_pos (Zc b)]⟩);rw[eN m _ HB]at e;split at e<;>(injection e with _ e;lia)
def fs_pos(nd:(r x).Nodup)(hm:0<m)(e:YO m=(none,n)):0<n:=by
 unfold fsN at e;by_cases h:mex A3<4
 ·rw[if_pos h]at e;cases e
 rw[So h]at e;rcases ho:YN m with⟨_|L1,n1⟩
 ·rw[ho]at e;have:=on_pos nd h hm ho;injection e with _ e;lia
 rw[ho]at e;cases e
theorem fp_pos:∀{xs:Ng} {hs:List Re} {m s n:Nat},(∀x∈xs,(r x).Nodup)→0<m→NH s=(none,n)→0<n
 |[],_,_,_,_,_,_,e=>by cases e
 | x::t,hs,m,s,n,nd,hm,e=>by
  cases ef:YO (m-s) with
  | mk a n'=>
   cases a with
   |none=>
    rw[zjq ef]at e;injection e with _ e;by_cases h0:0<s
    ·lia
    have:=fs_pos (nd x Qc) HB ef;lia
   |some L1=>rw[zjp ef]at e;injection e with e1 e2;have fI:=Option.map_eq_none_iff.mp e1;exact fp_pos (λy hy=>nd y Cs) hm (Wx fI e2)
end K21
namespace L2
open PySem PySem.Spec PyProof.Rows
section
variable{X:Cx}{a5:Nh}{σ:St}{H:Hp}{s:Ni}
def zh7(hu:X.A.units<cLine):YQ O9 (λx y H Q=>Ex3 λa b kvs=>Aj7 (x=.ref a) (y=.ref b) (BT RO) (Rd H b RO) ((kvs.map (·.1)).Nodup) (∀p∈kvs,zc4 p.2=true) (Q S2 H)):=by intro a5 s σ H x y v u Q I rx ry h;obtain⟨a,b,kvs,rfl,rfl,h1,h2,nd,fl,q⟩:=h;cases rx;cases ry;obtain⟨vs,ja,lo,mQ,da,db,hl,gD⟩:=dict_hits (A:=X.A.in1) I h1 h2 (.refl _) nd fl;refine PySem.W.keq_eq lo mQ da db hu (λ_=>gD) ⟨S2,H,I,?_,q⟩;show Value.bool _=Value.bool true;rw[hl];simp
def op_neq_dict(hu:X.A.units<cLine):WP (λx y H Q=>Ex3 λa b kvs=>Aj7 (x=.ref a) (y=.ref b) (BT RO) (Rd H b RO) ((kvs.map (·.1)).Nodup) (∀p∈kvs,zc4 p.2=true) (Q LP H)):=by intro a5 s σ H x y v u Q I rx ry h;obtain⟨a,b,kvs,rfl,rfl,h1,h2,nd,fl,q⟩:=h;cases rx;cases ry;obtain⟨vs,ja,lo,mQ,da,db,hl,gD⟩:=dict_hits (A:=X.A.in1) I h1 h2 (.refl _) nd fl;refine PySem.W.keq_ne lo mQ da db hu (λ_=>gD) ⟨LP,H,I,?_,q⟩;show Value.bool _=Value.bool false;rw[hl];simp
def op_eq_lstD(hu:X.A.units+8<cLine):YQ O9 (λx y H Q=>Ex4 λa b xs ys=>Aj6 (x=.ref a) (y=.ref b) (H a=some Tj) (H b=some vB) (yC (KM 4) xs ys) (Q S2 H)):=by
 intro a5 s σ H x y v u Q I rx ry h;obtain⟨a,b,xs,ys,rfl,rfl,h1,h2,pr,q⟩:=h;cases rx;cases ry;obtain⟨a7,r,pl,_⟩:=I.list (X:=X) (HL h1);obtain⟨aQ,r2,hJ,_⟩:=I.list (X:=X) (HL h2);have l1:=r.length;have l2:=r2.length;have hl:=Zr pr;have e9:X.A.in1.units+4<cLine:=by have:X.A.in1.units=X.A.units+1:=rfl;lia
 refine SeqAt.RcAt.lists (e:=λ_=>true) pl.isList hJ.isList (by rw[Qv,Qv];lia) HB (zf3 r r2 pr λx y u v q1 q2 q3=>same_m I 4 X.A.in1 x y u v q1 q2 q3 e9) _ _ _ _ ⟨S2,H,I,?_,q⟩;show Value.bool _=Value.bool true;simp
end
end L2
namespace K21
open PySem L2 Wb
def mk_web{C:Nb}{H4:Hp}{rl:Nb}{as:No}{bQ:List Ent}{cs:List (S1 (Str×Str))}{a9:Nx}{Q:Addr→Hp→Prop}{E:XK}(RW:RwAt H4 rl as bQ)(hl:bQ.length≤16)(nok:∀e∈bQ,zep e.1)(Ct:Cert (bQ.map (·.1)) (Ih bQ) cs a9)(k:∀(x dx d:Nb) (ts:List Ent) (H':Hp),WJ ts→WOk ts→(ts.map (·.1)).Perm (bQ.map (·.1))→(∀y,(NE y).Perm (row (LQ bQ) y))→Cert (ts.map (·.1)) (Ih ts) cs a9→Keep [] H4 H'→Q x H') :
  ∀x dx,H4 x=none→H4 dx=none→dx≠x→spInit C [PZ,HK rl] (JN (.ins C dx [])) (λv H2=>v=.non∧Q x H2) E:=by
 intro x dx hx hdx au;have k5:Keep [] H4 (JN (.ins C dx [])):=λc u ec _=>by rw[zag (W0 hx),zag (W0 hdx)];exact ec
 have hx5:(JN (.ins C dx [])) x=some (.ins C dx []):=zab;generalize JN (.ins C dx [])=H5 at k5 hx5;refine⟨x,dx,rl,as,bQ,cs,a9,rfl,hx5,RW.keep k5,HB,nok,Ct,λd2 ts ax H6 wt bo lT k6=>⟨rfl,?_⟩⟩;have kQ:(ts.map (·.1)).Perm (bQ.map (·.1)):=by rw[zct lT];exact bo.map _
 have fM:=cert_turn Ct kQ (zft lT bo Ct.nd);have ad:ts.length≤16:=by have:=kQ.length_eq;rw[Qa,Qa]at this;lia
 have W:WOk ts:=⟨ad,λe he=>by
  have h1:e.2.1.Nodup:=by have:=fM.rn e.1;rw[zay fM.nd he]at this;exact this
  have:=zcn h1 λy hy=>fM.inn' (x:=e.1) (by rw[zay fM.nd he];exact hy);rw[Qa]at this;lia,λz y hy=>fM.inn' hy,fM.rn,fM.sy⟩
 exact k x dx d2 ts H6 wt W kQ (λy=>by obtain⟨j,e⟩:=zft lT bo Ct.nd y;rw[e];exact zi4 ..) fM λc o ec _=>k6 c o (k5 c o ec HA) (by simpa using W0 hx)
def fs_two(h:(YO m).1=some L):L.length≤2:=by
 unfold fsN at h;split at h
 ·cases h;exact Zc _
 rcases ho:YN m with⟨_|L1,n⟩
 ·rw[ho]at h;have h':(Q7 (m-n)).1=some L:=h;have h2:Q7 (m-n)=(HW L,(Q7 (m-n)).2):=Wx h' rfl;unfold twN at h2;obtain⟨g,hg,b,k,e⟩:=zhk h2;obtain⟨q,hq,rfl⟩:=Qe.mp hg;have e1:(ZY b).1.map (swN r hs q::·)=some L:=congrArg Prod.fst e;cases dH:(ZY b).1 with
  |none=>rw[dH]at e1;cases e1
  |some L2=>rw[dH]at e1;obtain⟨q',cZ,rfl,hm⟩:=zhc dH;cases e1;exact Qf 2
 rw[ho]at h;have h1:some L1=some L:=h;cases h1;obtain⟨q,hq,rfl,hm⟩:=zhc (L:=L) (show(YN m).1=some L by rw[ho]);exact(by show 1≤2;decide)
theorem fp_two:∀{xs:Ng} {hs:List Re} {m s:Nat} {P:List Step},(NH s).1=some P→∀q∈P,q.2.2.length≤2
 |[],hs,m,s,P,h=>by have h':some []=some P:=h;cases h';exact λq hq=>(by cases hq)
 | x::t,hs,m,s,P,h=>by
  cases e:YO (m-s) with
  | mk a n=>
   cases a with
   |none=>rw[zjq e]at h;cases h
   |some L1=>
    rw[zjp e]at h;have h':XM (GK (s+n)).1=some P:=h;obtain⟨P2,e2,rfl⟩:=Kl.mp h';intro q hq;rcases Qi.mp hq with z|z
    ·rw[z];exact fs_two (L:=L1) (show(YO (m-s)).1=some L1 by rw[e])
    exact fp_two e2 q z
theorem nd_inr:∀{hs:List Re},(hs.map (·.1)).Nodup→((hs.map λe=>HI).map (·.1)).Nodup
 |[],_=>Zk
 |a::t,h=>by rw[Qn,Qt]at h;rw[Qn,Qn,Qt];refine⟨λz=>h.1 ?_,nd_inr h.2⟩;obtain⟨p,hp,e⟩:=Qe.mp z;obtain⟨e',bi,rfl⟩:=Qe.mp hp;have e1:(Sum.inr e'.1:Key)=Sum.inr a.1:=e;injection e1 with e1;exact Qe.mpr ⟨e',bi,e1⟩
def fl_inr(hs:List Re):∀p∈hs.map λe=>HI,zc4 p.2=true:=λp hp=>by obtain⟨e,_,rfl⟩:=Qe.mp hp;rfl
abbrev sLaw:Stmt:=top 67
inductive IspLaw(K:Na)(vs:List V)(H:Hp)(Q:VK):Prop
 |mk(a:Nb)(ns:List Int)(h0:vs=[.ref a])(h1:SqL K H a (ns.map V.int))(h3:∀H',Q (.bl true) H')
def spLaw(K:Na):Sp:=λvs H Q _=>IspLaw K vs H Q
def sq_keep(h:YE xs)(k:RH H):SqL K H' a xs:=h.imp (λr=>r.imp (λe=>k _ _ e HA) λ⟨o,e⟩=>⟨o,O4 e⟩) id
def cut_ints(ns:List Int)(lo hi:Option Int):∃ms:List Int,cutV LW lo hi=ms.map V.int:=by unfold cutV;exact⟨(ns.drop _).take _,by rw[Je,Xj]⟩
def ndLk:(["_law_one",qO, "_law_row_of"]:List Str).Nodup:=by decide+kernel
section
variable{P:Nk}{w:Nl}{K:Na}{mg:Nd}{base:Nn}
def zfx:zam [qS,qR, "_law_cell_here",qP, "_law_k", "_law_web", "_law_found", "_law_kept", "_law_place", "_law_hue", "_law_swaps", "_law_due"] [qS] xH:=fsk
def ok_law(F:QD "law" "law" sLaw f fd)(GP:ZI "_law_pot" ["_law_cell_here"] 1 spPot)(GT:ZI "_law_take" [qP,qM] 1 zg0)(GN:ZI "_law_rounds" [qS, "_law_most"] 4 (spRounds K))(GX:ZI "_law_crossed" [qR,qP] 3 zg1)(GR:ZI "_law_rows" [qR] 1 spRows)(GA:ZI "_law_read" [qR, "_law_paper"] 3 spLRead)(GB:ZI "_law_right" [qR, "_law_hues"] 2 spLRt)(MW:Mk K C fi)(mW:mg "Web" = some Pb)(bI:WE fdi ["self", "rows"] [])(GI:ZB 4 fi fdi ["self", "rows"] (spInit C))(GO:ZI "four_paper" ["web", "most"] 7 (spFp C))(FR:M0 "read_paper" "read_paper" sRead fR fdR TR #[S5 5 tkR])(mR:mg "read_paper" = some (HK fR))(GE:ZB 4 fR fdR ["web", "paper", "many"] (spRead C))(ba:mg "range" = none)(bd:mg "isinstance" = none)(km:mg "tuple" = none)(cS:mg "bool" = none)(hint:mg "int" = none)(ae:mg "len" = none)(ao:mg "list" = none):ZB 8 f fd [qS] (spLaw K):=by
 refine F.okL zfx HN;obtain⟨a,ns,rfl,ha,kq⟩:=h;have aj:BY _:=hr.mono HH;have bh:VS _:=hr.mono HH;have lW:Room 3 _:=hr.mono HH;have jo:Room 4 _:=hr.mono HH;have hr5:Room 5 _:=hr.mono HH;have ar:=sizeLine_eq;have cn:=hr.units0;have jg:=Kf (Nat.add_le_add_left (show 8≤16*7+200 by decide) _) (Kf (Nat.le_of_eq (Nat.add_assoc ..).symm) hr.un);have i0:∀x y:V,atI [x,y] ((0:Nat):Int)=some x:=λx y=>za0 rfl;have i1:∀x y:V,atI [x,y] ((1:Nat):Int)=some y:=λx y=>za0 rfl;refine⟨_,zad (NQ zfx.nd (Ek GN jo Ty))
  (zad (ZX (EU (JI (zck zai) (zck zai))) (ML zfx.nd)
   (zad (Xz zfx.nd (pcl GP aj SR))
   (zaf (ZX (BE (Sa (YT zai (WA (QC Ty))))) (Vy zfx.nd)
    (zaf (zbn (pcl GX lW (ZS Tw))))))))
  (zad (NS zfx.nd (pe_make MW GI hr5 rfl mW bI .nil zcv (Sa (pcl GR aj vy))))
  (zad (NT zfx.nd (pcl GO hr (QP (Sa yH))))
  (zad (zbg (PW.pt (zde (Et (Cf (W1 (Sa (zfe (T:= "tuple") rfl km PyProof.Rows.boot_tuple)))))
   (zde (XB (PN CC) zai Sw)
   (zde (zcw (KN Rg bd Yl (zaa Cb (Sa (zfe (T:= "bool") rfl cS PyProof.Rows.boot_bool)))))
   (zd0 (Et (KN Rg bd Yl (zaa Cb (Sa (zfe (T:= "int") rfl hint PyProof.Rows.boot_int)))))))))) L' zao)
  (zad (EC (pc_isN Cb) (zas (zdn op_gt Cb zai Sw)))
  (zad (zax 7 zfx.nd Tq)
  (zad (ZX (zan (Z6 (λ_ _=>rfl))) (Ei (Gz zfx.nd) (zaj (zal 9 zfx.nd) (Te (zal 10 zfx.nd))))
   (zaf (zbn (WD LK (zaa (zbq (Gg (zaa OW (zaa (zdu (M:=["_law_one",qO, "_law_row_of"]) (ix:=[none,none,none]) (mkB zfx) rfl (EU (pv 10)) (λC a5 ex s H=>zi7 (K:=K) (n:=3) rfl rfl (zaj (YX ndLk) (zaj (zal 1 ndLk) (Te (ML ndLk)))))
    (λC a5 ex s H=>zb1) (λC a5 ex s H=>zbq (ZP (ZS (Sa (zbc (zfo (K:=K) rfl) Rg (RY ao) Wl SR)))))) zae)))) zae)))))
  (zad (zax 11 zfx.nd (pcl GA lW (ZS Ae)))
  (zad (vp (PW.pt (zde (zbr (pc_isN PB)) (zd0 (Et (pcl GB bh (ZS (Sa (pv 11)))))))) L')
  (zad (vp (zap (op_neq_dict cn) (pe_callK GE jo rfl mR FR.kp (rd_bk FR) zcv (QP (Sa Cb)) (pk_cons zai pk_nil)) PB Sw) L')
  (zaf (zas (zgc (zdn (zh7 cn) (DF (rd_b3 FR) .nil zcv (QP (zaa (Z6 (λ_ _=>rfl)) Ty))) PB Sw)
   (zgc (zdn (zh7 cn) (DF (rd_b2 FR) (dvs:=[Rv 5]) (SA ⟨_,rfl⟩) zcv (QP (Sa Cb))) PB Sw)
   (pe_one (zdn (op_eq_lstD jg) Cb LK Sw)))))))))))))))),?_⟩
 refine⟨vG,a,ns,16,rfl,ha,HH,HH,λd es H1 fd D1 nok k1=>?_⟩;have ha1:=sq_keep ha k1;refine⟨vG,vG,vG,a,vG,ha1,λsl jk=>?_⟩;obtain⟨ms,hms⟩:=cut_ints ns AG (HW 13);rw[hms];have k2:Keep [] H1 (QA sl Cr):=Keep.new jk;have g2:(QA sl Cr) sl=some Cr:=zab;generalize QA sl Cr=H2 at k2 g2;have nsd:sl≠d:=Zm (zac D1.ra.dc jk);refine⟨sl,rfl,⟨_,HL g2⟩,za2 (xs:=ms.map V.int) (λi σ H'=>Aj3 (Ex3 λx2 x3 x4=>σ=[HC a,Lb,x2,x3,x4,none,none,none,none,none,none,none]) (Keep [d] H2 H') (Ex1 λai:List Ent=>Fj (ai.map (·.1)=es.map (·.1))))
  ⟨⟨_,_,_,rfl⟩,Keep.refl,es,D1.k0 k2,rfl⟩ (λi σ H' _ hh=>SqL.of (C4 g2 (HE nsd))) ?_ ?_⟩
 ·rintro i v σ H3 hv ⟨⟨x2,x3,x4,rfl⟩,k3,dO,D3,n3⟩;obtain⟨c,_,rfl⟩:=Qe.mp (Yb hv);refine⟨vG,c,rfl,λp b m H4 fp4 bK k4=>⟨vG,p,b,m,3,rfl,bK,HH,HH,λd5 b5 m5 H5 pX pW aY jb=>?_⟩⟩;have k5:=zbu jb;have D5:=(D3.k0 k4).pot bK k5;refine⟨_,vG,rfl,1+d5,rfl,HB,HB,?_⟩;have kd:∀{H':Hp},Keep [d,p] H5 H'→Keep [d] H2 H':=λkk c o ec nc=>by have ec3:=k3 c o ec nc;have ncp:c≠p:=zac ec3 fp4;exact kk c o (k5 c o (k4 c o ec3 HA) (HE ncp)) (by simp;exact⟨HE nc,ncp⟩)
  refine zc3 (lo:=0) (λi σ H'=>Aj3 (Ex1 λx4=>σ=[HC a,Lb,SL c,zK,x4,none,none,none,none,none,none,none]) (Keep [d,p] H5 H') (Ex3 λ(ai:List Ent) (b' m':Int)=>YA (ai.map (·.1)=es.map (·.1))))
   ⟨⟨_,rfl⟩,Keep.refl,dO,b5,m5,D5,aY,n3⟩ ?_ ?_
  ·rintro j σ H6 hj ⟨⟨x4,rfl⟩,k6,v4,b6,m6,D6,bo,n6⟩;exact⟨vG,vG,p,d,b6,m6,v4,rfl,bo,D6,λb7 m7 qb H7 bn D7 n7 k7=>⟨⟨vG⟩,OI k7,qb,b7,m7,D7,bn,n7.trans n6⟩⟩
  rintro σ H6 ⟨⟨x4,rfl⟩,k6,v4,b6,m6,D6,bo,n6⟩;exact⟨⟨_,_,vG⟩,kd k6,v4,D6,n6⟩
 rintro σ H3 ⟨⟨x2,x3,x4,rfl⟩,k3,dO,D3,n3⟩;have fV:Keep [] H H3:=λc o ec _=>k3 c o (k2 c o CH HA) (by simpa using W0 fd);obtain⟨cs,a9,C3⟩:=D3.cert;have sB:∀y∈dO.map (·.1),zep y:=λy hy=>nok y (n3▸hy);refine⟨vG,d,dO,rfl,D3,λrl as bQ H4 RW cD frl k4=>?_⟩;have md:bQ.map (·.1)=dO.map (·.1):=by rw[←zbw,cD,zbw]
 have Ct:Cert (bQ.map (·.1)) (Ih bQ) cs a9:=by rw[md,cD];exact C3
 have df:bQ.length≤16:=by have:=congrArg List.length md;rw[Qa,Qa]at this;rw[this];exact D3.few
 refine mk_web RW df (λe he=>sB _ (md▸Qe.mpr ⟨e,he,rfl⟩)) Ct λx dx d2 ts H6 wt W bo tQ fM k6=>?_;have gl:(ts.map (·.1)).Perm (dO.map (·.1)):=md▸bo;have hrT:∀y,(NE y).Perm (row (LQ dO) y):=λy=>(tQ y).trans (by rw[cD]);refine⟨vG,_,vG,rfl,⟨HH,HH,HH⟩,x,dx,d2,ts,1000000,rfl,wt,W,λt7 T H7 O p7 k7=>?_⟩;have fT:Keep [] H3 H7:=(CG k6).trans k7;have wt7:=wt.keep k7 HA HA RA;obtain⟨v7,kh⟩:∃v,H7 t7=some (.tup [v,Rv ((J' [] 1000000 0).2:Nat)]):=by
  rcases p7 with⟨h0,h1⟩|⟨l,as,B,L,h0,h1,h2,h3⟩
  ·exact⟨_,h1⟩
  exact⟨_,h1⟩
 refine⟨vG,_,_,_,vG,.tup kh,kit_tt,vG,Z2 ⟨vG,t7,vG,OQ kh,rfl,vG,Z2 ⟨vG,t7,_,_,vG,rfl,Rx kh,LD,_,_,_,vG,Rv _,kit_ib,vG,Z2 ⟨vG,t7,_,_,vG,rfl,Rx kh,LD,_,_,_,vG,Rv _,kit_ii,vG,Z2 ?_⟩⟩⟩⟩;have hTn:T.reverse.Nodup:=(Uz T).nodup_iff.mpr O.nd;rcases p7 with⟨h0,h1⟩|⟨pl,fj,B,Pp,h0,h1,h2,h3⟩
 ·refine⟨_,rfl,t7,_,_,_,rfl,rfl,Rx h1,C9,_,rfl,WX ⟨vG,t7,_,_,vG,rfl,Rx h1,LD,_,vG,rfl,?_⟩⟩;have dw:=fp_pos (r:=row (LQ ts)) (xs:=T.reverse) (hs:=[]) (m:=1000000) (s:=0) (n:=(J' [] 1000000 0).2) (λy _=>W.rn y) HH (Wx h0 rfl);rw[decide_eq_true HB];exact kq _
 refine⟨_,rfl,t7,_,_,_,rfl,rfl,Rx h1,C9,_,rfl,Z2 ?_⟩;obtain⟨rok,hPx⟩:=fp_ok (hs:=[]) (RY hTn) h0;have pR:(Pp.map (·.1)).Perm (ts.map (·.1)):=by rw[hPx];exact(Uz T).trans O.pm
 have aT:fj.length=Pp.length:=Zr h3;have hPl:Pp.length≤16:=by have:=pR.length_eq;rw[Qa,Qa]at this;rw[this];exact W.few
 refine⟨Cm,λkl eS=>?_⟩;have k8:Keep [] H7 (UL kl RM):=Keep.new eS;have g8:(UL kl RM) kl=some (HR (([]:List Addr).map V.ref)):=zab;have npk:pl≠kl:=zac h2 eS;generalize UL kl RM=H8 at k8 g8;have pl8:=k8 _ _ h2 HA;have t8:=k8 _ _ h1 HA;have s8:Paired (Vh H8) fj Pp:=Paired.imp' (λ_ _ z=>z.keep k8) h3;refine⟨_,rfl,t7,_,_,_,rfl,rfl,SqT.of t8,i0 _ _,pl,rfl,⟨_,HL pl8⟩,za2 (xs:=fj.map V.ref) (λi σ H'=>Ex1 λcs':List Addr=>Aj4 (Ex3 λx8 x9 bU=>σ=[HC a,Lb,x2,x3,x4,IL,HC t7,HC kl,x8,x9,bU,none]) (Keep [kl] H8 H') (H' kl=some (HR (cs'.map V.ref))) (yC (StAt H8 H') cs' (Cg i)))
  ⟨[],⟨_,_,_,rfl⟩,Keep.refl,g8,.nil⟩ (λi σ H' _ hh=>SqL.of (by obtain⟨_,_,z,_⟩:=hh;exact z _ _ pl8 (HE npk))) ?_ ?_⟩
 ·rintro i v σ H9 hv ⟨cs',⟨x8,x9,bU,rfl⟩,k9,g9,lK⟩;have hi:i<fj.length:=by have:=(TJ hv).1;rwa[Qa]at this
  rw[Qk,Qb hi]at hv;cases hv;obtain⟨ap,hq⟩:=zat h3 hi;have tk:Pp.take Rm=Pp.take i++[Pp[i]]:=Qh ap;have cb:=fp_two h0 _ OO;have cO:cs'.length≤16:=by rw[Zr lK,Zo];lia
  generalize Pp[i]=q at hq tk cb;have iC:Keep [] H7 H9:=λc o ec _=>k9 c o (k8 c o ec HA) (by simpa using W0 eS);obtain⟨lw,o4,bs,_,di,cR⟩:=hq;have pI:bs.length=q.2.2.length:=Zr cR;refine⟨fj[i],vG,Rx (iC _ _ o4 HA),rfl,_,vG,_,vG,_,vG,rfl,?_⟩;have hb9:=iC _ _ di HA;refine⟨_,rfl,.inl ⟨rfl,_,HL g9⟩,_,rfl,_,rfl,_,rfl,lw,rfl,⟨_,HL hb9⟩,λj m ys τ H'=>Ex1 λds:List Addr=>Aj6 (m=bs.length-j) (j≤bs.length) (Ex3 λx0 x1 x2=>τ=[x0,x1,x2]) (ys=ds.map V.ref) (RH H9) (yC (SwAt H8 H') ds (Lf j)),
   ⟨_,[],rfl,SW,⟨_,_,_,rfl⟩,rfl,Keep.refl,.nil⟩,?_⟩
  rintro j m ys τ dD ⟨ds,rfl,hj,⟨y0,y1,y2,rfl⟩,rfl,dW,iw⟩;have vh:=dW _ _ hb9 HA;have jQ:=dW _ _ g9 HA;have jS:Keep [kl] H8 dD:=k9.trans (dW.sub HA);have lg:ds.length≤j:=by rw[Zr iw,Zo];lia
  by_cases ad:j<bs.length
  ·refine .inr ⟨⟨_,.ref bs[j],HL vh,by rw[Qk,xN];rfl⟩,by rw[Qa];lia,?_⟩;rintro v H' ⟨rfl,hv⟩;have aK:=hv _ (HL vh);rw[Qk,Qb ad]at aK;obtain rfl:V.ref bs[j]=v:=Qo aK;obtain⟨eT,hw⟩:=zat cR ad;have fk:q.2.2.take (j+1)=q.2.2.take j++[q.2.2[j]]:=Qh eT;generalize q.2.2[j]=sw at hw fk;obtain⟨lr,_,tI,jk⟩:=hw;have kk:=iC.trans dW;refine⟨bs[j],vG,Rx (kk _ _ tI HA),rfl,_,vG,_,vG,_,vG,rfl,vG,vG,vG,lr,vG,Sr (kk _ _ jk HA),λn hn=>⟨zw,λt ht=>?_⟩⟩;have dU:Keep [] H' (Y8 (.tup [CN,SZ,HK n])):=(HV hn).trans Lw;have lG:(Y8 (.tup [CN,SZ,HK n])) t=some (.tup [CN,SZ,HK n]):=zab;have sF:(Y8 (.tup [CN,SZ,HK n])) n=some wV:=by rw[zag (zac (o:=_) zab ht)];exact zab
   refine⟨_,Ra,ds++[t],rfl,ad,⟨_,_,vG⟩,by rw[Qp];rfl,dW.trans dU,?_⟩;rw[fk];exact za1 (Paired.imp' (λ_ _ z=>z.keep dU) iw) (SA ⟨n,zav jS hn (by simpa using Zm (yp jQ hn)),lG,sF⟩)
  have hje:j=bs.length:=by lia
  subst hje;rw[pI,Qr Rf]at iw;refine .inl ⟨⟨_,HL vh,AK⟩,λD hD=>⟨zw,λt ht=>?_⟩⟩;have dU:Keep [] dD (WT (.tup [L5,Tz,Td])):=(HV hD).trans Lw;have lG:(WT (.tup [L5,Tz,Td])) t=some (.tup [L5,Tz,Td]):=zab;have rW:(WT (.tup [L5,Tz,Td])) D=some (HR (ds.map V.ref)):=by rw[zag (zac (o:=_) zab ht)];exact zab
  generalize WT (.tup [L5,Tz,Td])=lD at dU lG rW;have jP:=dU _ _ jQ HA;have sj:StAt H8 lD t q:=⟨D,lG,ds,zav jS hD (by simpa using Zm (yp jQ hD)),rW,Paired.imp' (λ_ _ z=>z.keep dU) iw⟩;refine⟨kl,_,vG,rfl,jP,SY,?_⟩;have jd:Keep [kl] lD (upd lD kl (HR (cs'.map V.ref++[LZ t]))):=Keep.wr Qc;refine⟨cs'++[t],⟨_,_,vG⟩,(jS.trans (dU.sub HA)).trans jd,by rw[zab,Qp];rfl,?_⟩;rw[tk];exact za1 (Paired.imp' (λ_ _ z=>(z.keep (dW.trans dU)).kb jd g8 jP) lK) (SA (sj.kb jd g8 jP))
 rintro σ H9 ⟨cs',⟨x8,x9,bU,rfl⟩,k9,g9,lK⟩;rw[Qa,aT,Qr Rf]at lK;have iC:Keep [] H7 H9:=λc o ec _=>k9 c o (k8 c o ec HA) (by simpa using W0 eS);have D9:=D3.k0 (fT.trans iC);have wt9:=wt7.keep iC HA HA RA;have s9:Paired (Vh H9) fj Pp:=Paired.imp' (λ_ _ z=>z.keep iC) h3;have rE:(Pp.map (·.1)).Perm (dO.map (·.1)):=pR.trans gl;refine⟨vG,vG,H8,Ih ts,d,kl,cs',dO,Pp,rfl,D9.rf,D3.few,D9.row,g9,lK,rok,λy z hz=>(hrT y).mem_iff.mpr hz,fM.ir,rE,λu1 dD fG dW=>?_⟩;have pr:=Prp.rd fM.sy fM.ir (P:=Pp) (hs:=[]) ⟨Zk,λe he=>(by cases he),λx y hx=>(by cases hx)⟩ rok;have i7:(Pp.foldl stN []).map (·.1)=Pp.map (·.1):=by rw[zg5];rfl
 have D10:=D9.k0 dW;refine⟨vG,vG,Z2 ⟨vG,vG,d,u1,dO,Pp.foldl stN [],rfl,D10.ra,fG,D3.few,D10.row,HP i7 rE,pr.rg,λe he y hy=>?_,λlD dU=>?_⟩⟩
 ·have bf:y∈row (LQ dO) e.1:=by rw[zay C3.nd he];exact hy
  have nz:=C3.inn' bf;exact⟨nz,pr.ne e.1 y (by rw[i7];exact rE.mem_iff.mpr (TW ⟨e,he,rfl⟩)) (by rw[i7];exact rE.mem_iff.mpr nz) ((hrT _).mem_iff.mpr bf)⟩
 refine⟨vG,Z2 ?_⟩;have mZ:=dW.trans dU;have rd:∀{H':Hp},Keep [] H9 H'→WAt H' C x dx d2 ts∧H' pl=some (HR (fj.map V.ref))∧Paired (Vh H') fj Pp∧H' t7=some (.tup [HK pl,Rv ((J' [] 1000000 0).2:Nat)]):=λkk=>⟨wt9.keep kk HA HA RA,kk _ _ (iC _ _ h2 HA) HA,Paired.imp' (λ_ _ z=>z.keep kk) s9,kk _ _ (iC _ _ h1 HA) HA⟩;obtain⟨w1,p1,q1,r1⟩:=rd mZ;refine⟨vG,vG,t7,_,_,vG,rfl,PJ,C9,B,x,dx,d2,pl,4,fj,ts,Pp,rfl,w1,W,p1,q1,rok,HH,pR,λu2 H12 h12 jd=>?_⟩;have mY:=mZ.trans jd;refine⟨vG,u2,u1,vG,rfl,.inl h12.dc,.inl (fG.keep (dU.trans jd) HA).dc,nd_inr h12.nd,fl_inr _,vG,Z2 ?_⟩;obtain⟨w1,p1,q1,r1⟩:=rd mY;refine⟨vG,vG,t7,_,_,vG,rfl,PJ,C9,B,x,dx,d2,pl,4,fj,ts,Pp,rfl,w1,W,p1,q1,rok,HH,pR,λu3 H13 h13 sN=>?_⟩;have mX:=mY.trans sN;refine⟨vG,u3,u1,vG,rfl,.inl h13.dc,.inl (fG.keep ((dU.trans jd).trans sN) HA).dc,nd_inr h13.nd,fl_inr _,vG,WX ?_⟩;obtain⟨w1,p1,q1,r1⟩:=rd mX;refine⟨vG,vG,t7,_,_,vG,rfl,PJ,C9,B,x,dx,d2,pl,5,fj,ts,Pp,rfl,w1,W,p1,q1,rok,HH,pR,λu4 H14 h14 k14=>?_⟩;have jR:=mX.trans k14;refine⟨vG,u4,u1,vG,rfl,.inl h14.dc,.inl (fG.keep (((dU.trans jd).trans sN).trans k14) HA).dc,nd_inr h14.nd,fl_inr _,vG,WX ?_⟩;obtain⟨w1,p1,q1,r1⟩:=rd jR;refine⟨vG,t7,_,_,vG,rfl,PJ,C9,vG,pl,kl,_,vG,rfl,p1,jR _ _ g9 HA,zew (R:=Vh H14) (R':=StAt H8 H14) (λ_ _ _ h k=>same_st h k) q1 (Paired.imp' (λ_ _ z=>z.keep jR) lK),kq _⟩
end
end K21
namespace L2
open PySem
def Nf(K:Na)(x:Str)(st:Stmt):Prop:=∃f fd,ZK x=some P5∧QD x x st f fd
def Nm(K:Na)(C:Nb)(x q:Str)(st:Stmt):Prop:=∃f fd,Z4 x=some P5∧XZ Ld=true∧W4 Ld=true∧QD x q st f fd
def zeo{K:Na}{x q:Str}{st:Stmt}{f:Nb}{fd:Nu}{ps:Ng}(F:QD x q st f fd)(h:∀(kV doc pm:Value) (an:Option Addr) (cdv ct:Value) (us:Nj),us.length=ps.length→bindArgs (PySem.W.fnOf x q (zc5 st) yh TM .none kV doc pm an cdv ct) ⟨us,[]⟩=pure LL:=by(intro _ _ _ _ _ _ us hl;rcases us with _|⟨_,_|⟨_,_|⟨_,_|⟨_,_|⟨_,_|⟨_,_⟩⟩⟩⟩⟩⟩<;>first|rfl|cases hl)):WE fd ps []:=F.binds h
def nf{P:Nk}{w:Nl}{K:Na}{h:Nn}{mg:Nd}{base:Nn}(X:K.In h)(G:Ob){x:Str}{st:Stmt}{ps:Ng}{k:Nat}{sp:Sp}(N:YK x st)(T:∀f fd,QD x x st f fd→ZB k f fd ps sp)(b:∀(kV doc pm:Value) (an:Option Addr) (cdv ct:Value) (us:Nj),us.length=ps.length→bindArgs Oc ⟨us,[]⟩=pure LL:=by(intro _ _ _ _ _ _ us hl;rcases us with _|⟨_,_|⟨_,_|⟨_,_|⟨_,_|⟨_,_|⟨_,_⟩⟩⟩⟩⟩⟩<;>first|rfl|cases hl)):ZI x ps k sp:=
 let⟨f,fd,a,F⟩:=N
 .mk F (F.binds b) (M3 a) (T f fd F)
def nfo{P:Nk}{w:Nl}{K:Na}{h:Nn}{mg:Nd}{base:Nn}(X:K.In h)(G:Ob){x:Str}{st:Stmt}{ps:Ng}{k:Nat}{sp:Sp}(N:YK x st)(T:∀f fd,QD x x st f fd→ZB k f fd ps sp)(b:∀(kV doc pm:Value) (an:Option Addr) (cdv ct:Value) (us:Nj),us.length=ps.length→bindArgs Oc ⟨us,[]⟩=pure LL:=by(intro _ _ _ _ _ _ us hl;rcases us with _|⟨_,_|⟨_,_|⟨_,_|⟨_,_|⟨_,_|⟨_,_⟩⟩⟩⟩⟩⟩<;>first|rfl|cases hl)):∃f fd,QD x x st f fd∧WE fd ps []∧mg x=some Ld∧ZB k f fd ps sp:=
 let⟨f,fd,a,F⟩:=N
 ⟨f,fd,F,F.binds b,M3 a,T f fd F⟩
end L2
namespace K21
open PySem L2 Wb PyProof.Rows
theorem all_mk{l:PySem.W.OpenLaw}{w:Nl}{K:Na}{h:Nn}{mg:Nd}{fa C:Nb}(X:K.In h)(G:Ob)(hfa:mg "law" = some Oo)(aC:ZK "Web" = some (HC C))(h_free_hue:YK "free_hue" sFree)(h_steps_behind:YK "steps_behind" sSteps)(h_faces_of:YK "faces_of" sFaces)(h_piece_from:YK "piece_from" zh2)(h_pieces_of:YK "pieces_of" zi1)(h_chain:YK "chain" zh3)(h_exchanged_in:YK "exchanged_in" sExIn)(h_order:YK "order" sOrder)(h_swap_of:YK "swap_of" sSwapOf)(h_swapped:YK "swapped" ziz)(h_come_back:YK "come_back" sBack)(h_tries:YK "tries" sTries)(h_by_one:YK "by_one" sOne)(h_by_two:YK "by_two" sTwo)(h_four_swaps:YK "four_swaps" sFs)(h_four_paper:YK "four_paper" sFp)(h_is_name:YK "is_name" zi3)(h_refuse_no_names:YK "refuse_no_names" zgo)(h_refuse_twice:YK "refuse_twice" zem)(h_refuse_one_way:YK "refuse_one_way" zi2)(h_refuse_not_flat:YK "refuse_not_flat" sFlat)(h_from_least:YK "from_least" sLeast)(h__law_cell:YK "_law_cell" sCell)(h__law_pot:YK "_law_pot" sPot)(h__law_take:YK "_law_take" sTake)(h__law_names:YK "_law_names" sNames)(h__law_behind:YK "_law_behind" sBehind)(h__law_face:YK "_law_face" sFace)(h__law_put:YK "_law_put" sPut)(h__law_grown:YK "_law_grown" sGrown)(h__law_crossed:YK "_law_crossed" sCross)(h__law_filled:YK "_law_filled" sFilled)(h__law_two_rings:YK "_law_two_rings" sRings)(h__law_untied:YK "_law_untied" sUntied)(h__law_rounds:YK "_law_rounds" sRounds)(h__law_rows:YK "_law_rows" sRows)(h_is_hue:YK "is_hue" sIsHue)(h_is_closed:YK "is_closed" sClosed)(h_is_swap_right:YK "is_swap_right" sSwRt)(h_is_free:YK "is_free" sIsFree)(h__law_is_hue:YK "_law_is_hue" sLIsHue)(h__law_swapped:YK "_law_swapped" sLSwd)(h__law_read:YK "_law_read" sLRead)(h__law_right:YK "_law_right" sLRt)(g___init__:Nm K C "__init__" "Web.__init__" sInit)(g_places:Nm K C "places" "Web.places" sPlaces)(g_round_of:Nm K C "round_of" "Web.round_of" zi0){fL:Nb}{od an:Option Addr}{sl:Array Tr}{oc kV dc pm cd ct:Value}(aL:ZK "law" = some (HC fL))(lL:K.lookup fL=some ⟨oc,od,.func (PySem.W.fnOf "law" "law" (zc5 sLaw) (zch sLaw) xH .none kV dc pm an cd ct),sl⟩)(cL:JX cd "law" = true)(kL:W4 (HK fL)=true)(pg:UD Str.empty=true)(ic:Be C=true)(po:KQ C=true)(sa:Z4 "__setattr__" = some (HW (.builtin "object.__setattr__")))(mk:Vp C=true)(kc:W4 Pb=true)(nR:Z4 "rounds" = some none){tkM tkF:Tok}(aM:ZK "MOST_LETTERS" = some (HW (S5 8 tkM)))(aF:ZK "FOUR" = some (HW (S5 4 tkF)))(h_read:∃(f:Nb) (fd:Nu) (T:Nb) (tk:Tok),ZK "read_paper" = some P5∧M0 "read_paper" "read_paper" sRead f fd T #[Ao 5])(z_len:ZK "len" = some none)(z_sorted:ZK "sorted" = some none)(z_range:ZK "range" = some none)(z_min:ZK "min" = some none)(z_max:ZK "max" = some none)(z_abs:ZK "abs" = some none)(z_divmod:ZK "divmod" = some none)(z_tuple:ZK "tuple" = some none)(z_list:ZK "list" = some none)(z_dict:ZK "dict" = some none)(z_set:ZK "set" = some none)(z_isinstance:ZK "isinstance" = some none)(z_str:ZK "str" = some none)(z_all:ZK "all" = some none)(z_sum:ZK "sum" = some none)(z_enumerate:ZK "enumerate" = some none)(z_reversed:ZK "reversed" = some none)(z_int:ZK "int" = some none)(z_bool:ZK "bool" = some none)(z_any:ZK "any" = some none) :
  ∃fd:FuncData,(∀(s:Ni) (v:Value),UN ⟨[v],[]⟩ [("_law_script",v)])∧∀base:Heap,K.In base→base.Ns mainGlobals mg→FnOk l.prog w K mg base CX0 8 fa fd ["_law_script"] (spLaw K):=by
 have e:=hfa.symm.trans (M3 aL);cases e;have FL:=fun_mk (st:=sLaw) lL cL kL;have cW:KW C:=⟨pg,ic,po,sa⟩;have mC:=M3 aC;have y_len:=UA z_len;have y_sorted:=UA z_sorted;have y_range:=UA z_range;have y_min:=UA z_min;have y_max:=UA z_max;have y_abs:=UA z_abs;have y_divmod:=UA z_divmod;have y_tuple:=UA z_tuple;have y_list:=UA z_list;have y_dict:=UA z_dict;have y_set:=UA z_set;have y_isinstance:=UA z_isinstance;have y_str:=UA z_str;have y_all:=UA z_all;have y_sum:=UA z_sum;have y_enumerate:=UA z_enumerate;have y_reversed:=UA z_reversed;have y_int:=UA z_int;have y_bool:=UA z_bool;have y_any:=UA z_any;obtain⟨q0,_,ag0,ig0,kg0,FG0⟩:=g___init__;obtain⟨q1,_,vk,sQ,sI,sd⟩:=g_places;obtain⟨q2,_,mH,lQ,lN,lE⟩:=g_round_of;refine⟨PySem.W.fnOf "law" "law" (zc5 sLaw) (zch sLaw) xH .none kV dc pm an cd ct,λs v=>.of_eq rfl,λbase _ _=>?_⟩;have cl:=@nf l.prog w K h mg base X G;have cm:=@nfo l.prog w K h mg base X G;have mM:=M3 aM;have mF:=M3 aF;have GTake:=cl h__law_take λ_ _ F=>ok_take F y_divmod;have GPot:=cl h__law_pot λ_ _ F=>ok_pot F y_max y_abs;have GCell:=cl h__law_cell λ_ _ F=>ok_cell F y_len;have GBehind:=cl h__law_behind λ_ _ F=>ok_behindS F y_len;have GFace:=cl h__law_face λ_ _ F=>ok_face F GBehind;have GPut:=cl h__law_put λ_ _ F=>ok_put F;have GCross:=cl h__law_crossed λ_ _ F=>ok_cross F GTake GFace GPut y_len;have GFilled:=cl h__law_filled λ_ _ F=>ok_filled F GFace GPut y_list;have GGrown:=cl h__law_grown λ_ _ F=>ok_grown F GTake GPut y_len y_list;have GUntied:=cl h__law_untied λ_ _ F=>ok_untied F GTake y_len;have GNames:=cl h__law_names λ_ _ F=>ok_names F GTake y_range y_divmod;have GRings:=cl h__law_two_rings λ_ _ F=>ok_rings F y_range y_list y_reversed;have GRounds:=cl h__law_rounds λ_ _ F=>ok_rounds F GPot GCell GTake GNames GRings GUntied GGrown GCross GFilled y_range;have GRows:=cl h__law_rows λ_ _ F=>ok_rows F y_list;have GPlaces:=ok_places (P:=l.prog) (w:=w) (mg:=mg) (base:=base) sd cW nR y_list;have GRoundOf:=ok_roundof (P:=l.prog) (w:=w) (mg:=mg) (base:=base) lE cW nR y_list;have GPieceL:=cl h_piece_from λ_ _ F=>ok_pieceL F y_sorted;have GChain:=cl h_chain λ_ _ F=>ok_chain F cW nR ⟨vk,sQ,sI⟩ (zeo sd) GPlaces ⟨mH,lQ,lN⟩ OJ GRoundOf GPieceL;have GExIn:=cl h_exchanged_in λ_ _ F=>ok_exin F y_dict;have GOrder:=cl h_order λ_ _ F=>ok_order F cW ⟨vk,sQ,sI⟩ (zeo sd) GPlaces ⟨mH,lQ,lN⟩ OJ GRoundOf y_len y_min;have GFree:=cl h_free_hue λ_ _ F=>ok_free F cW ⟨mH,lQ,lN⟩ OJ GRoundOf y_range;have GSwapOf:=cl h_swap_of λ_ _ F=>ok_swapof F GChain;have GSwapped:=cl h_swapped λ_ _ F=>ok_swapped F GExIn;have GTries:=cl h_tries λ_ _ F=>ok_tries F cW ⟨mH,lQ,lN⟩ OJ GRoundOf y_sorted y_range mF;have GOneS:=cl h_by_one λ_ _ F=>ok_one F GTries GSwapOf GSwapped GFree mF;have GTwo:=cl h_by_two λ_ _ F=>ok_two F GTries GSwapOf GSwapped GOneS;have GFs:=cl h_four_swaps λ_ _ F=>ok_fs F GFree GOneS GTwo mF;have GBack:=cl h_come_back λ_ _ F=>ok_back F GSwapped GFree y_dict;have GFp:=cl h_four_paper λ_ _ F=>ok_fp F GOrder GFs GBack mF;have GIsHue:=cl h_is_hue λ_ _ F=>ok_ishue F y_isinstance y_int y_bool;have GClosed:=cl h_is_closed λ_ _ F=>ok_closed F cW ⟨mH,lQ,lN⟩ OJ GRoundOf y_all;have GSwRt:=cl h_is_swap_right λ_ _ F=>ok_swrt F GIsHue GClosed y_all y_sorted y_set;have GIsFree:=cl h_is_free λ_ _ F=>ok_isfree F cW nR ⟨mH,lQ,lN⟩ OJ GRoundOf GIsHue;obtain⟨fR,fdR,TR,tkR,aR,FR⟩:=h_read;have GRead:=ok_read (P:=l.prog) (w:=w) (mg:=mg) (base:=base) FR cW ⟨vk,sQ,sI⟩ (zeo sd) GPlaces GSwRt GIsFree GExIn y_len y_enumerate;have GLH:=cl h__law_is_hue λ_ _ F=>ok_lishue F y_isinstance y_int y_bool;have GLSwd:=cl h__law_swapped λ_ _ F=>ok_lswd F GLH y_dict;have GLRead:=cl h__law_read λ_ _ F=>ok_lread F GLSwd GLH y_dict y_any;have GLRt:=cl h__law_right λ_ _ F=>ok_lrt F GLH y_isinstance y_dict y_sorted y_all;obtain⟨_,_,F0,b0,m0,G0⟩:=cm h_is_name λ_ _ F=>ok_isname F mM y_isinstance y_str y_len y_all;obtain⟨_,_,F1,b1,m1,G1⟩:=cm h_refuse_no_names λ_ _ F=>ok_nonames F F0 b0 m0 G0;obtain⟨_,_,F2,b2,m2,G2⟩:=cm h_refuse_twice λ_ _ F=>ok_twice F y_len y_set;obtain⟨_,_,F3,b3,m3,G3⟩:=cm h_refuse_one_way λ_ _ F=>ok_oneway F y_dict;obtain⟨_,_,F4,b4,m4,G4⟩:=cm h_from_least λ_ _ F=>ok_least F y_min y_tuple;obtain⟨_,_,F5,b5,m5,G5⟩:=cm h_steps_behind λ_ _ F=>ok_steps F y_enumerate;obtain⟨_,_,F6,b6,m6,G6⟩:=cm h_faces_of λ_ _ F=>ok_faces F F5 b5 m5 G5 y_sorted;obtain⟨_,_,F7,b7,m7,G7⟩:=cm h_piece_from λ_ _ F=>ok_piece F y_sorted;obtain⟨_,_,F8,b8,m8,G8⟩:=cm h_pieces_of λ_ _ F=>ok_pieces F F7 b7 m7 G7 y_sorted;obtain⟨_,_,F9,b9,m9,G9⟩:=cm h_refuse_not_flat λ_ _ F=>ok_flat F F6 b6 m6 G6 F8 b8 m8 G8 y_len y_sum;have GInit:=ok_init (P:=l.prog) (w:=w) (mg:=mg) (base:=base) FG0 cW nR F1 b1 m1 G1 F2 b2 m2 G2 F3 b3 m3 G3 F4 b4 m4 G4 F9 b9 m9 G9 y_sorted;exact ok_law FL GPot GTake GRounds GCross GRows GLRead GLRt ⟨mk,ag0,ig0,kc⟩ mC (zeo FG0) GInit GFp FR (M3 aR) GRead y_range y_isinstance y_tuple y_bool y_int y_len y_list
def walk{l:PySem.W.OpenLaw}{q:Nk}{loose:Ng}{XP:(Str→Option Value)→Heap→Prop}{d:DefRec}{K:Params→PySem.W.Frag}(hn:l.most=some 63)(pq:d.params.defaults=[])(F:∀ (w:Nl) (mg:Nd) (fa:Nb) (h:Nn),(K w.params).In h→h.Ns mainGlobals mg→mg d.name=some Oo →
   ∃fd:FuncData,(∀(s:Ni) (u:Value),UN ⟨[u],[]⟩ [("_law_script",u)])∧∀base:Heap,(K w.params).In base→base.Ns mainGlobals mg→K8 CX0 8 fa fd ["_law_script"] (spLaw zb)) :
  PySem.W.WalkO q loose XP (λw h=>(K w.params).In h) l.row.toRowW d [] (λf vs=>N' vs):=
 L2.walk_of (n:=63) (k:=8) (x:= "_law_script") (CX:=λ_=>CX0) (sp:=λw=>spLaw zb) hn HH pq ⟨rfl,HH,HH,rfl⟩ (λ_ _ z=>z) F (λ_ _ a ns _ _ hS=>⟨a,ns,rfl,hS,λ_=>rfl⟩) λ_ _ _ _ _ z=>z
end K21
namespace PySem.W.Fast
def tw3066512230643120400:=0
def tw9405324714600698803:=0
def tw14851517315034249074:=0
def tw8136790529895505265:=0
def tw6518559803101361192:=0
def tw18075501955258636910:=0
def tw6413603461465388422:=0
def tw4984214896577533941:=0
def tw17416085419433036858:=0
def tw6360288452687062471:=0
def tw2159107974742075675:=0
def tw8503730485387515137:=0
def tw5761742141554247245:=0
def tw8882997822392411190:=0
def tw3111871524205303306:=0
def tw1682235137051432215:=0
def tw131209389372958972:=0
def tw8497668609277726832:=0
def tw6297414636324211661:=0
def tw7285740125434987359:=0
def tw11351564388321704098:=0
def tw10712812480152481400:=0
def tw14449753853747937943:=0
def tw15216760307282576228:=0
def tw5582672328363043647:=0
def tw13707653378840237500:=0
def tw10871736859779832245:=0
def tw2132092024185758033:=0
def tw6233798374836390742:=0
def tw3747792945205525895:=0
def tw11898528511582717120:=0
def tw15942469502683154703:=0
def tw8143136989303224258:=0
def tw17648230182911768874:=0
def tw7895469414510310365:=0
def tw3424201563938991515:=0
def tw11895021570818925236:=0
def tw9563968875753760434:=0
def tw12520652569883709065:=0
def tw18108793673348485437:=0
def tw11656388719880800082:=0
def tw17964499261701625207:=0
def tw5756742350636202577:=0
def tw2474920760306423488:=0
def tw4922039251690580624:=0
def tw16622036941980232505:=0
def tw10559378580433755512:=0
def tw16381923165119139438:=0
def tw8684085392973983380:=0
def tw11069383700228644665:=0
def tw13916581649597983211:=0
def tw1488908167200133879:=0
def tw18415855829729862:=0
def tw8144283287363877965:=0
def tw14168867654561224907:=0
def tw13342321227384764283:=0
def tw8763922382173601221:=0
def tw11346009022642227985:=0
def tw12889352508688999451:=0
def tw358346123801932629:=0
def tw13479883640330042174:=0
def tw4766268641397686668:=0
def tw316991086393900108:=0
def tw13916882424546765705:=0
def tw7291040204946071078:=0
def tw14588855628637944672:=0
def tw14887316691339013258:=0
def tw13452272762137979935:=0
def tw2891732391758836318:=0
def tw16952479071430824488:=0
def tw11938766237209012676:=0
def tw14682455048168282183:=0
def tw13567759086223447269:=0
def tw1741178293153979622:=0
def tw11174212273017915350:=0
def tw16280677447080534562:=0
def tw15221388113058993750:=0
def tw5656718712836665497:=0
def tw18289166180700269097:=0
def tw2583612637484743906:=0
def tw10926139422267569202:=0
def tw5818898178780188206:=0
def tw6927097738094026771:=0
def tw17867506428435290229:=0
def tw13360538561331172486:=0
def tw13559422975360019863:=0
def tw12857754040093626744:=0
def tw11402319196272437308:=0
def tw11367251536215680264:=0
def tw5407526144301379814:=0
def tw6835618685404109406:=0
def tw16277125376639440845:=0
def tw14411864429512985913:=0
def tw12089797037136803377:=0
def tw9214847150624400205:=0
def tw8228235283666427711:=0
def tw11687026132600197347:=0
def tw3809799490906336799:=0
def tw7572859122084186233:=0
def tw15276904076878095381:=0
def tw10915227043930375790:=0
def tw1437701315182645281:=0
def tw3742441146041971049:=0
def tw13074572852721238801:=0
def tw17593579608043898591:=0
def tw583954728745435468:=0
def tw15095253123128460866:=0
def tw5399701983990947820:=0
def tw16774654766764183784:=0
def tw4776332107876427895:=0
def tw3884043843840515058:=0
def tw12590651810619544140:=0
def tw7058598486992432836:=0
def tw5742898019699221663:=0
def tw1607130714373460821:=0
def tw6320110822920765017:=0
def tw14863549002682322841:=0
def tw17048779547652165489:=0
def tw764228871727450182:=0
def tw4411743727223968085:=0
def tw13754803504492124008:=0
def tw12834453541141701780:=0
def tw350598347304649594:=0
def tw9208208221388275097:=0
def tw16631591193923352036:=0
def tw10079138807607581734:=0
def tw4149927732953071617:=0
def tw1921873204612246259:=0
def tw2654607793479620806:=0
def tw7067477070894134398:=0
def tw4192213478734394203:=0
def tw5687301881441274446:=0
def tw9887468766138480219:=0
def tw14222103953749243609:=0
def tw1764587508997872154:=0
def tw5118502282367865228:=0
def tw10744943115031139377:=0
def tw16146080695162933176:=0
def tw98981112500531845:=0
def tw1134055898135266913:=0
def tw3652530885542893478:=0
def tw17409328340978884785:=0
def tw7046828386635903101:=0
def tw9992723271690488030:=0
def tw15787944220510660397:=0
def tw2904910282556327256:=0
def tw12514410707784625302:=0
def tw18300776033398504675:=0
def tw2432624708332302019:=0
def tw7181220887340990247:=0
def tw12174101996344978293:=0
def tw12638151196558854006:=0
def tw10767816979154689167:=0
def tw5006509636393511260:=0
def tw3543758402078079459:=0
def tw2093603643004368145:=0
def tw15397916104727234603:=0
def tw12145490830746644795:=0
def tw1186440685148010023:=0
def tw1945968040516559673:=0
def tw7259145390465048163:=0
def tw1313633909423001056:=0
def tw15830383812676903352:=0
def tw13713876347908299696:=0
def tw1441963902082834237:=0
def tw14945250045977611274:=0
def tw9281439550840017655:=0
def tw7444698340212439450:=0
def tw3344516191536693083:=0
def tw10260627172778154458:=0
def tw6993989730333496067:=0
def tw14981875457745106036:=0
def tw6539147775874805308:=0
def tw4898777714654488835:=0
def tw9148132949923626979:=0
def tw1764047572399663614:=0
def tw9808792114228846227:=0
def tw983779966387434834:=0
def tw3831301749725514638:=0
def tw10545704582238717557:=0
def tw13923091412407157629:=0
def tw6807934108590190717:=0
def tw11131243450221922738:=0
def tw12223722098553092850:=0
def tw17870358084375338453:=0
def tw14279832210334760601:=0
def tw4979773192755082614:=0
def tw18013068628551764720:=0
def tw6239414653559863236:=0
def tw17820983686195075807:=0
def tw11681744512161738455:=0
def tw3607171294483975223:=0
def tw14930260024804370844:=0
def tw12409802316219050981:=0
def tw14665248092748561482:=0
def tw14493925066381295891:=0
def tw11267794718873065379:=0
def tw9281028774649959830:=0
def tw14371795148013606611:=0
def tw1489226182848656742:=0
def tw15088115375433694650:=0
def tw18396154801516466514:=0
def tw6567922764815212632:=0
def tw16611814783836262796:=0
def tw16492166177495700982:=0
def tw5905949137461348769:=0
end PySem.W.Fast
set_option maxRecDepth 100000 in
set_option maxHeartbeats 0 in
theorem PySem.Challenge.cw_fivehues_k52_four_hues_read_holds : PySem.Challenge.rw_fivehues_k52_four_hues_read.Holds := by
 w_on;o_law;z_head;(case hw=>w_witness2)
 k_fill
 intro w s0 s1 mg mb G y fa o pm cd doc dV kV ho hd hcd hD hmg hg args vals as L hpre hlay hrd hwl hlo
 z_open y L KX ZH ZN ZT
 refine K21.walk (l:=PySem.Challenge.rw_fivehues_k52_four_hues_read) rfl rfl ?F w s0 s1 mg mb G KX fa o pm cd doc dV kV ho hd hcd hD hmg hg args vals as hpre hlay hrd hwl hlo
 case F =>
  clear KX ZH ZN ZT L y G hmg hg hpre hlay hrd hwl hlo ho hd hcd hD
  intro w mg fa h KX G hmg
  refine' K21.all_mk KX G hmg ?aC ?_ ?_ ?_ ?_ ?_ ?_ ?_ ?_ ?_ ?_ ?_ ?_ ?_ ?_ ?_ ?_ ?_ ?_ ?_ ?_ ?_ ?_ ?_ ?_ ?_ ?_ ?_ ?_ ?_ ?_ ?_ ?_ ?_ ?_ ?_ ?_ ?_ ?_ ?_ ?_ ?_ ?_ ?_ ?_ ?_ ?_ ?_ ?_ ?_ ?_ ?_ ?_ ?_ ?_ ?_ ?_ ?_ ?_ ?_ ?_ ?_ ?_ ?_ ?_ ?_ ?_ ?_ ?_ ?_ ?_ ?_ ?_ ?_ ?_ ?_ ?_ ?_ ?_ ?_ ?_ ?_
  (case aC=>k_is)
  all_goals(try k_is)
  all_goals(try first | exact⟨_,_,by k_is,L2.fun_mk (by k_is) (by k_is) (by k_is)⟩ | exact⟨_,_,by k_is,by k_is,by k_is,L2.fun_mk (by k_is) (by k_is) (by k_is)⟩ | exact⟨_,_,_,_,by k_is,⟨⟨_,_,_,_,_,_,_,_,_,rfl,by k_is,by k_is⟩,⟨_,_,_,_,by k_is⟩,by k_is⟩⟩ | k_is | kit_is | kts_exm | k_exc)
end
