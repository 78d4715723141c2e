import PyProof.Rows.All
import KE.KDictOf
import KE.KDictSum
import KE.KEqDict
import KE.KSortTup
import KE.KTryMore
import Lean
import OpenK.AllK
import PyProof.EqAt
import PyProof.EqKinds
import PyProof.NsDelKeeps
import PyProof.Rows.StrMadeLen
import PyProof.SliceStr2
import PyProof.StrLaws
import PyProof.TupleCall
import Wide.All
import Wide.FinOn
import PySem.Challenge.RW_fivehues_k53_fewer_steps
set_option Elab.async false
set_option linter.all false
set_option maxRecDepth 100000
set_option maxHeartbeats 4000000
abbrev Qa:=@List.length_map
abbrev Qb:=@List.mem_cons_self
abbrev Qc:=@List.getElem?_eq_getElem
abbrev Qd:=@List.mem_singleton
abbrev Qe:=@List.mem_cons_of_mem
abbrev Qf:=@Nat.le_refl
abbrev Qg:=@List.mem_cons
abbrev Qh:=@List.mem_append_right
abbrev Qi:=@PySem.Heap.get?_push_of_some
abbrev Qj:=@List.mem_map
abbrev Qk:=@List.mem_append
abbrev Ql:=@List.take_succ_eq_append_getElem
abbrev Qm:=@List.map_cons
abbrev Qn:=@Option.some.inj
abbrev Qo:=@List.getElem?_map
abbrev Qp:=@List.mem_append_left
abbrev Qq:=@List.nodup_cons
abbrev Qr:=@List.map_append
abbrev Qs:=@List.getElem_mem
abbrev Qt:=@List.take_of_length_le
abbrev Qu:=@PySem.Heap.lt_size
abbrev Qv:=@List.length_cons
abbrev Qw:=@List.append_assoc
abbrev Qx:=@List.size_toArray
abbrev Qy:=@List.length_append
abbrev Qz:=@List.getElem?_eq_some_iff
abbrev Za:=@PySem.Heap.get?_push_size
abbrev Zb:=@List.getD_eq_getElem?_getD
abbrev Zc:=@Nat.zero_le
abbrev Zd:=@List.nodup_append
abbrev Ze:=@PySem.PassesOwn.never
abbrev Zf:=@PySem.W.mg_of
abbrev Zg:=@Nat.ne_of_lt
abbrev Zh:=@Bool.false_ne_true
abbrev Zi:=@Nat.le_trans
abbrev Zj:=@List.mem_filter
abbrev Zk:=@List.map_map
abbrev Zl:=@List.getElem_map
abbrev Zm:=@List.sum_cons
abbrev Zn:=@Ne.symm
abbrev Zo:=@List.nodup_nil
abbrev Zp:=@Int.eq_ofNat_of_zero_le
abbrev Zq:=@List.filter_cons_of_pos
abbrev Zr:=@List.filter_cons_of_neg
abbrev Zs:=@List.mem_flatten
abbrev Zt:=@List.length_take
abbrev Zu:=@Nat.lt_of_lt_of_le
abbrev Zv:=@List.getElem_of_mem
abbrev Zw:=@List.append_nil
abbrev Zx:=@PySem.W.mg_none_of
abbrev Zy:=@PySem.F.plainAttrs_list
abbrev Zz:=@List.Perm.append_left
abbrev Ya:=@PySem.Paired.length
abbrev Yb:=@List.map_congr_left
abbrev Yc:=@PySem.Heap.get?_update_other
abbrev Yd:=@List.length_pos_of_mem
abbrev Yf:=@List.length_erase_of_mem
abbrev Yh:=@List.any_eq_true
abbrev Yi:=@List.length_range
abbrev Yj:=@PySem.boot_len
abbrev Yl:=@List.append_of_mem
abbrev Ym:=@Array.perm_iff_toList_perm
abbrev Yn:=@Array.toList_append
abbrev Yo:=@List.drop_eq_getElem_cons
abbrev Yp:=@Nat.ne_of_gt
abbrev Yq:=@PySem.F.type_list_append
abbrev Yr:=@PySem.F.slot_list_append
abbrev Ys:=@Nat.lt_irrefl
abbrev Yu:=@PySem.Around.under_plainId
abbrev Yv:=@List.mem_of_getElem?
abbrev Yw:=@List.filter_append
abbrev Yx:=@List.Nodup.sublist
abbrev Yy:=@Bool.eq_iff_iff
abbrev Yz:=@Nat.lt_succ_self
abbrev Wa:=@List.getElem_inj
abbrev Wc:=@List.flatten_cons
abbrev Wd:=@Sum.inr.inj
abbrev We:=@List.take_append_drop
abbrev Wf:=@List.perm_append_comm
abbrev Wg:=@List.length_filter_le
abbrev Wh:=@List.mem_range
abbrev Wi:=@PyProof.Rows.boot_list
abbrev Wj:=@Nat.lt_trans
abbrev Wk:=@PySem.mem_of_lookup
abbrev Wl:=@List.flatten_append
abbrev Wm:=@Array.length_toList
abbrev Wn:=@List.filter_nil
abbrev Wo:=@PySem.Heap.size_push
abbrev Wp:=@PySem.F.called_set
abbrev Wq:=@Nat.le_add_right
abbrev Wr:=@List.cons_append
abbrev Ws:=@PyProof.Rows.boot_sorted
abbrev Wt:=@Nat.le_of_lt
abbrev Wu:=@List.lt_irrefl
abbrev Wv:=@Int.toNat_natCast
abbrev Ww:=@List.nil_append
abbrev Wx:=@PyProof.Rows.callWith_type1
abbrev Wy:=@List.find?_cons_of_pos
abbrev Wz:=@List.find?_cons_of_neg
abbrev Ua:=@List.drop_of_length_le
abbrev Ub:=@Array.getD_eq_getD_getElem?
abbrev Uc:=@List.lookup_cons
abbrev Ud:=@PySem.F.slot_dict_keyiterator_next
abbrev Ue:=@Prod.ext
abbrev Uf:=@List.getElem_range
abbrev Ug:=@List.mem_of_mem_erase
abbrev Uh:=@Array.getElem?_toList
abbrev Ui:=@List.length_nil
abbrev Uj:=@Nat.le_succ
abbrev Uk:=@List.take_sublist
abbrev Ul:=@List.pairwise_map
abbrev Um:=@PySem.Heap.get?_update_self
abbrev Uo:=@List.length_pos_iff
abbrev Uq:=@PySem.F.plain_min_loop
abbrev Ur:=@List.length_singleton
abbrev Us:=@List.length_replicate
abbrev Ut:=@List.getElem_take
abbrev Uu:=@PySem.SeqAt.EqAt.str_str
abbrev Uv:=@Prod.mk.inj
abbrev Uw:=@Nat.mod_lt
abbrev Ux:=@List.perm_ext_iff_of_nodup
abbrev Uy:=@List.mem_of_mem_take
abbrev Uz:=@PyProof.Rows.KeyOrd.kle_trans
abbrev Ja:=@List.all_eq_true
abbrev Jb:=@Decidable.byContradiction
abbrev Jc:=@List.perm_iff_count
abbrev Jd:=@List.filter_sublist
abbrev Je:=@List.map_take
abbrev Jf:=@PySem.F.slot_tuple_iterator_next
abbrev Jg:=@List.foldl_cons
abbrev Jh:=@List.find?_cons
abbrev Ji:=@List.filter_map
abbrev Jj:=@List.zip_cons_cons
abbrev Jk:=@List.pairwise_cons
abbrev Jl:=@List.ne_nil_of_mem
abbrev Jm:=@Bool.false_eq_true
abbrev Jn:=@Nat.lt_succ_of_lt
abbrev Jo:=@List.reverse_perm
abbrev Jp:=@List.count_append
abbrev Jq:=@Array.toList_push
abbrev Jr:=@PySem.Calls.spliced_cons
abbrev Js:=@List.getElem?_eq_none
abbrev Jt:=@Classical.choose_spec
abbrev Ju:=@Bool.and_eq_true
abbrev Jv:=@List.perm_cons_erase
abbrev Jw:=@List.getElem_toArray
abbrev Jx:=@Array.toList_reverse
abbrev Jy:=@List.count_cons
abbrev Jz:=@PyProof.Rows.KeyOrd.kle_refl
abbrev Ka:=@List.length_reverse
abbrev Kb:=@Nat.sub_self
abbrev Kc:=@Nat.lt_of_le_of_lt
abbrev Kd:=@List.getElem?_append_right
abbrev Ke:=@Int.emod_lt_of_pos
abbrev Kf:=@PyProof.Rows.KeyOrd.kle_of_klt
abbrev Kg:=@List.pairwise_iff_getElem
abbrev Kh:=@List.extract_eq_take_drop
abbrev Ki:=@Classical.byContradiction
abbrev Kj:=@Array.getElem?_eq_getElem
abbrev Kk:=@Nat.lt_of_succ_lt
abbrev Kl:=@List.filter_congr
abbrev Km:=@PySem.Heap.SameBut.update
abbrev Kn:=@Bool.not_eq_true'
abbrev Ko:=@List.map_drop
abbrev Kp:=@List.any_cons
abbrev Kq:=@List.Pairwise.imp_of_mem
abbrev Kr:=@PySem.W.KasT.kasWp_bind
abbrev Ks:=@PySem.F.type_list_index
abbrev Kt:=@PySem.F.slot_list_index
abbrev Ku:=@PySem.Obj.data_mapFields
abbrev Kv:=@Nat.succ_ne_self
abbrev Kw:=@List.perm_middle
abbrev Kx:=@List.pairwise_singleton
abbrev Ky:=@List.length_drop
abbrev Kz:=@List.ext_getElem
abbrev Xa:=@List.cons_ne_nil
abbrev Xb:=@Array.toList_map
abbrev Xc:=@PyProof.Rows.boot_dict
abbrev Xd:=@Nat.lt_of_succ_lt_succ
abbrev Xe:=@Nat.le_of_eq
abbrev Xf:=@List.map_nil
abbrev Xg:=@Nat.not_lt_zero
abbrev Xh:=@Int.emod_nonneg
abbrev Xi:=@PySem.Calls.spliced_nil
abbrev Xj:=@Bool.or_eq_true
abbrev Xk:=@PySem.W.methodCall_KW
abbrev Xl:=@PySem.F.slot_dict_get
abbrev Xm:=@List.singleton_append
abbrev Xn:=@PySem.F.slot_list_getattribute
abbrev Na:=PySem.W.Frag
abbrev Nb:=PySem.Addr
abbrev Nc:=PySem.Value→PySem.Shared→Prop
abbrev Nd:=PySem.Str→Option PySem.Value
abbrev Nf:=List PySem.Str
abbrev Ng:=List (PySem.Addr×PySem.Obj)
abbrev Nh:=PySem.Shared
abbrev Ni:=PySem.Program
abbrev Nj:=List PySem.Value
abbrev Nk:=PySem.World
abbrev Nl:=List PySem.Addr
abbrev Nm:=PySem.Heap
abbrev Nn:=PySem.Str→List PySem.Str
abbrev No:=PySem.Around
abbrev Np:=List PySem.Expr
abbrev Nq:=List (PySem.Str×PySem.Str)
abbrev Nr:=PySem.FuncData
abbrev Nt:=List (Option Nat)
abbrev Nu:=PySem.Result→PySem.Shared→Prop
abbrev Nv:=PySem.Str→PySem.Str
set_option hygiene false
local macro_rules
|`(ZA $a*)=>`(Inv X a7 σ $a*)
|`(ZB $a*)=>`(PySem.W.nsIn K mainGlobals $a*)
|`(ZC $a*)=>`(FnOk P w K mg base CX0 $a*)
|`(ZD $a*)=>`(wpAny (model X.prog X.w) X.A $a*)
|`(ZE $a*)=>`(Keep [] $a*)
|`(ZF $a*)=>`(wpAny (model prog w) A $a*)
|`(ZG $a*)=>`(row (rsOf es) $a*)
|`(ZI $a*)=>`(Cal P w K mg base $a*)
|`(ZJ $a*)=>`(zbz X sc M C a7 ex s $a*)
|`(ZK $a*)=>`(wpS (model prog w) A E s $a*)
|`(ZL $a*)=>`(swN (row (rsOf es)) hs $a*)
|`(ZM)=>`(by simp)
|`(ZO)=>`(by omega)
|`(ZP $a)=>`(some (.ref $a))
|`(ZQ)=>`(row (rsOf es))
|`(ZR $a)=>`(by simpa using $a)
|`(ZS $a)=>`(by show $a≤sizeLine;decide)
|`(ZU)=>`(by decide)
|`(ZV $a $b)=>`(zaa (pv $a) (zaa $b zae))
|`(ZW $a $b $c)=>`(upd $a $b (.lst $c))
|`(ZX)=>`(by intro z;cases z)
|`(ZY)=>`(model X.prog X.w)
|`(ZZ $a)=>`(.ref $a)
|`(Z0 $a)=>`(zaa (pv $a) zae)
|`(Z1)=>`(λcdv A outer s H vs Q E hr h=>?_)
|`(Z2 $a $b)=>`(by rw[$a:term];exact $b)
|`(Z3)=>`(((Sum.inr e.1:Key),V.int e.2))
|`(Z4 $a)=>`(SqL.of $a)
|`(Z5)=>`(e.2.1.map V.str)
|`(Z6)=>`(.ref s.heap.objs.size)
|`(Z7)=>`(PySem.W.fnOf x qual (zcu st) (zca st) (zag st) .none kV doc pm an cdv ct)
|`(Z8)=>`(model prog w)
|`(Z9 $a)=>`(V.str (nmP zs m $a))
|`(QA)=>`(.ListComp elt [⟨tg1,it1,[],0⟩,⟨target,iter,ifs,0⟩] scope pos)
|`(QB $a)=>`(some $a)
|`(QC)=>`(λ_ _=>rfl)
|`(QD $a)=>`(Keep.new $a)
|`(QE)=>`((es.map (·.1)).map V.str)
|`(QF $a $b)=>`(by rw[zaf $a:term];exact $b)
|`(QG)=>`(λcdv A outer s0 H vs Q E hr h=>?_)
|`(QH)=>`(pv 0)
|`(QI $a)=>`(.dK (cnt $a λy=>((dg r D y:Nat):Int)))
|`(QJ)=>`(Str×Int)
|`(QK)=>`(Qf _)
|`(QL)=>`(by lia)
|`(QM)=>`((∀b o,s.heap.get? b=some o→g.get? b=some o))
|`(QN)=>`(zs.map V.str)
|`(QO)=>`((∀σ' H',N σ' H'→∃m',m'<m∧W (i+1) m' σ' H'))
|`(QP)=>`(by exact zar1 ‹_›)
|`(QQ)=>`(pv 1)
|`(QR)=>`(.ListComp elt [⟨target,iter,[],0⟩,⟨cO,bA,ifs,0⟩] scope pos)
|`(QS $a)=>`(by rw[$a:term];omega)
|`(QT)=>`(ZA H s)
|`(QU)=>`(s.heap.objs.size+1)
|`(QV)=>`(usN ZQ (L.foldl exN hs) e.1)
|`(QW $a)=>`((gs++L.take $a).map λs=>(kP s,V.bl true))
|`(QX)=>`(.inl rfl)
|`(QY)=>`(i+1)
|`(QZ $a)=>`(.lst $a)
|`(Q3)=>`(.ListComp elt [⟨tg,iter,ifs,0⟩] sc pos)
|`(Q4)=>`(by rfl)
|`(Q5 $a)=>`(SortSt.mk' (kindOf au) (arrOf au) (pendingOf au) $a (failedOf au))
|`(Q6)=>`(λ_ _=>False)
|`(Q7)=>`(.dK (eWV es))
|`(Q8)=>`(pv 2)
|`(Q9)=>`((∀b∈ch,(b∈X.ex∨X.s₀.heap.objs.size≤b)∧b≠X.env.locals∧(∀x c,X.env.cells.lookup x=some c→c≠b)∧∀p∈X.pn++a7,p.1≠b))
|`(WA)=>`(wpAny_standAt (wpAny_bind (wpAny_mono (turn n s hI) (λr s₁ h₁=>?_) λ_ _ h'=>h'.elim)))
|`(WB $a)=>`(eval $a X.env)
|`(WC)=>`(forIn ifs true λc r=>if r=true then do let ok ←isTrue c env (eval c env);pure (ForInStep.yield ok) else pure (ForInStep.yield r))
|`(WD)=>`((λcs y=>if(y.2==NameKind.free)=true then(y.1,(env.cells.lookup y.1).getD 0)::cs else cs))
|`(WE)=>`(za4 (za4 (rsOf es) e1.1 (ins e1.2.1 (some u.1) e2.1)) e2.1 (ins e2.2.1 (some v.1) e1.1))
|`(WF $a)=>`(pendingOf $a)
|`(WG)=>`(beq_iff_eq.mpr z)
|`(WH)=>`(newFunctionEnv sc X.env.globals (clOf sc X.env) [] X.env.qual none .none (some X.env))
|`(WK)=>`(wpAny_mono h₁' (λ_ s₂ h₂=>wpAny_bind (wpAny_mono h₂ (λok s₃ h₃=>?_) λ_ _ h'=>h'.elim)) λ_ _ h'=>h'.elim)
|`(WL $a)=>`(pidx es[i].2.1.length $a)
|`(WN)=>`(a.toList++b.toList)
|`(WO)=>`(((Sum.inr e.1:Key),V.ref e.2.2))
|`(WP)=>`(.lst (([n1,n2,q3,0]:List Nat).map λn:Nat=>V.int (n:Int)))
|`(WQ)=>`(.lst [])
|`(WR)=>`(λ_ _=>by simp)
|`(WS)=>`(FnOk X.prog X.w X.K X.mg X.base CX k f fd ps sp)
|`(WT)=>`(x==("__debug__" : Str))
|`(WU)=>`(.DictComp kx vx [⟨tg,iter,ifs,0⟩] sc pos)
|`(WV $a)=>`(SqT.of $a)
|`(WW $a)=>`(decide_eq_true $a)
|`(WX)=>`(λn s'=>Ex6 λi τ H' ys a9 k=>Aj7 (Inv Y [] τ H' s') (tn i s'.heap) (∀b∈D::fp,H' b=none) (s'.heap.get? D=some {cls:=.type "list",data:=.seq (a9:Nj).toArray k}) (Vals ys a9) (ys.length≤sizeLine) (W i n ys τ H'))
|`(WY)=>`(EP X a7 σ Q)
|`(W0 $a)=>`(by rw[$a:term];exact Qf _)
|`(W1)=>`(T.keep _ _ _ h0 λb _ o e=>k1 b o (k2 b o e))
|`(W2)=>`((∀D C m ys H' s',ZA (ZW H' D ys) s'→Q (ZZ D) (ZW H' D ys)→s'.heap.Ns C m→upd H' D (QZ ys) C=none→s.heap.objs.size<C→RR (ZZ D) C (.ok .next) s'))
|`(W3)=>`(Ex2 λres r=>Aj2 (c=(QB res,r)) (res.toList.Perm WN))
|`(W4)=>`(as.map V.ref)
|`(W5 $a $b)=>`(pcl GT am (ZV $a $b))
|`(W6 $a)=>`(.int $a)
|`(⟨$xs,*⟩)=>do
 let mut o:Array Lean.Term:=#[]
 for x in xs.getElems do
  if x.raw.getId==`W7 then o:=(o.push (← `(_))).push (← `(rfl)) else o:=o.push x
 if o.size==xs.getElems.size then Lean.Macro.throwUnsupported else `(⟨$o,*⟩)
section
set_option Elab.async false
inductive Ex1{T0:Sort _}(P:T0→Prop):Prop
 |mk (x0:T0) (h:P x0):Ex1 P
inductive Ex2{T0:Sort _}{T1:Sort _}(P:T0→T1→Prop):Prop
 |mk (x0:T0) (x1:T1) (h:P x0 x1):Ex2 P
inductive Ex3{T0:Sort _}{T1:Sort _}{T2:Sort _}(P:T0→T1→T2→Prop):Prop
 |mk (x0:T0) (x1:T1) (x2:T2) (h:P x0 x1 x2):Ex3 P
inductive Ex4{T0:Sort _}{T1:Sort _}{T2:Sort _}{T3:Sort _}(P:T0→T1→T2→T3→Prop):Prop
 |mk (x0:T0) (x1:T1) (x2:T2) (x3:T3) (h:P x0 x1 x2 x3):Ex4 P
inductive Ex5{T0:Sort _}{T1:Sort _}{T2:Sort _}{T3:Sort _}{T4:Sort _}(P:T0→T1→T2→T3→T4→Prop):Prop
 |mk (x0:T0) (x1:T1) (x2:T2) (x3:T3) (x4:T4) (h:P x0 x1 x2 x3 x4):Ex5 P
inductive Ex6{T0:Sort _}{T1:Sort _}{T2:Sort _}{T3:Sort _}{T4:Sort _}{T5:Sort _}(P:T0→T1→T2→T3→T4→T5→Prop):Prop
 |mk (x0:T0) (x1:T1) (x2:T2) (x3:T3) (x4:T4) (x5:T5) (h:P x0 x1 x2 x3 x4 x5):Ex6 P
structure Aj2(p0 p1:Prop):Prop where
 h0:p0
 h1:p1
structure Aj3(p0 p1 p2:Prop):Prop where
 h0:p0
 h1:p1
 h2:p2
structure Aj4(p0 p1 p2 p3:Prop):Prop where
 h0:p0
 h1:p1
 h2:p2
 h3:p3
structure Aj5(p0 p1 p2 p3 p4:Prop):Prop where
 h0:p0
 h1:p1
 h2:p2
 h3:p3
 h4:p4
structure Aj6(p0 p1 p2 p3 p4 p5:Prop):Prop where
 h0:p0
 h1:p1
 h2:p2
 h3:p3
 h4:p4
 h5:p5
structure Aj7(p0 p1 p2 p3 p4 p5 p6:Prop):Prop where
 h0:p0
 h1:p1
 h2:p2
 h3:p3
 h4:p4
 h5:p5
 h6:p6
structure Aj8(p0 p1 p2 p3 p4 p5 p6 p7:Prop):Prop where
 h0:p0
 h1:p1
 h2:p2
 h3:p3
 h4:p4
 h5:p5
 h6:p6
 h7:p7
structure Aj9(p0 p1 p2 p3 p4 p5 p6 p7 p8:Prop):Prop where
 h0:p0
 h1:p1
 h2:p2
 h3:p3
 h4:p4
 h5:p5
 h6:p6
 h7:p7
 h8:p8
def zar1{a b:Nat}(h:a<b):b-(a+1)<b-a:=Nat.sub_lt_sub_left h (Yz a)
def zar3{a b:Nat}(h:a≤b)(k:¬a<b):a=b:=Nat.le_antisymm h (Nat.le_of_not_lt k)
def zar4{a b:Nat}(h:a≤b):a+1≤b+1:=Nat.succ_le_succ h
def zar6{a b c:Nat}(e:a=b)(h:c<b):c<a:=e▸h
def zar7{a b c:Nat}(e:a=b)(h:c<a):c<b:=e▸h
def zar9{a b:Nat}(h:a<b):(a:Int)<(b:Int):=Int.ofNat_lt.mpr h
def zar10{a b:Nat}(h:a<b)(k:b≤a):False:=Ys _ (Zu h k)
def zex{a b c:Nat}(h:a≤b)(e:a=c):c≤b:=e▸h
def zar16{a b:Nat}(h:a≤b):a≤b+1:=Nat.le_succ_of_le h
end
section
set_option Elab.async false
set_option linter.all false
set_option maxRecDepth 100000
namespace L2
open PySem PySem.Spec PyProof.Rows
abbrev Key:=Sum Int Str
def keyIs:Key→Value→Bool
 |.inl k,v=>Value.isInt k v
 |.inr x,v=>Value.isStrOf x v
def keyH(w:Nk):Key→Int
 |.inl k=>hashInt k
 |.inr x=>hashStr w x
theorem zbg:∀{k:Key} {v:Value},keyIs k v=true→(∃i t,k=Sum.inl i∧v=Value.int i t)∨(∃x t,k=Sum.inr x∧v=Value.str x t)
 |.inl i,v,h=>by
  obtain⟨t,e⟩:=Value.isInt_shape (k:=i) (v:=v) h
  exact .inl ⟨i,t,rfl,e⟩
 |.inr x,v,h=>by
  obtain⟨t,e⟩:=Value.isStrOf_shape (x:=x) (v:=v) h
  exact .inr ⟨x,t,rfl,e⟩
def keyIs_int(i:Int)(t:Tok):keyIs (.inl i) (.int i t)=true:=by simp[keyIs,Value.isInt]
def keyIs_str(x:Str)(t:Tok):keyIs (.inr x) (.str x t)=true:=by simp[keyIs,Value.isStrOf]
def key_ll(a b:Int):decide ((Sum.inl a:Key)=Sum.inl b)=(a==b):=by
 by_cases e:a=b
 ·subst e;simp
 ·have h:¬ (Sum.inl a:Key)=Sum.inl b:=fun q=>e (Sum.inl.inj q)
  rw[decide_eq_false h]
  exact(beq_eq_false_iff_ne.mpr e).symm
def key_rr(a b:Str):decide ((Sum.inr a:Key)=Sum.inr b)=decide (a=b):=by
 by_cases e:a=b
 ·subst e;simp
 ·have h:¬ (Sum.inr a:Key)=Sum.inr b:=fun q=>e (Wd q)
  rw[decide_eq_false h,decide_eq_false e]
def key_lr(a:Int)(b:Str):decide ((Sum.inl a:Key)=Sum.inr b)=false:=decide_eq_false (λq=>nomatch q)
def key_rl(a:Str)(b:Int):decide ((Sum.inr a:Key)=Sum.inl b)=false:=decide_eq_false (λq=>nomatch q)
def zap(prog:Ni)(w:Nk):PySem.KeyKind prog w Key where
 is:=keyIs
 hash:=keyH w
 inj:=λv a b ha hb=>by
  rcases zbg ha with⟨i,t,rfl,rfl⟩ | ⟨x,t,rfl,rfl⟩
  ·rcases zbg hb with ⟨j,u,rfl,e⟩ | ⟨y,u,rfl,e⟩
   ·injection e with e1 _;rw[e1]
   ·exact nomatch e
  ·rcases zbg hb with ⟨j,u,rfl,e⟩ | ⟨y,u,rfl,e⟩
   ·exact nomatch e
   ·injection e with e1 _;rw[e1]
 byValue:=λk v h=>by
  rcases zbg h with⟨i,t,rfl,rfl⟩ | ⟨x,t,rfl,rfl⟩<;>rfl
 pyHash:=λhv h=>by
  rcases zbg hv with⟨i,t,rfl,rfl⟩ | ⟨x,t,rfl,rfl⟩
  ·exact wpAny_pyHash_int h
  ·exact wpAny_pyHash_str h
 eqBool:=λhu hv h=>by
  rcases zbg hu with⟨i,t,rfl,rfl⟩ | ⟨x,t,rfl,rfl⟩
  ·rcases zbg hv with ⟨j,u,rfl,rfl⟩ | ⟨y,u,rfl,rfl⟩
   ·rw[key_ll]at h;exact wpAny_eqBool_int h
   ·rw[key_lr]at h;exact SeqAt.EqAt.int_str i t y u _ _ _ _ h
  ·rcases zbg hv with ⟨j,u,rfl,rfl⟩ | ⟨y,u,rfl,rfl⟩
   ·rw[key_rl]at h;exact SeqAt.EqAt.str_int x t j u _ _ _ _ h
   ·rw[key_rr]at h;exact wpAny_eqBool_str h
 «strs»:=λk x t v h=>by
  rcases zbg h with⟨i,u,rfl,e⟩ | ⟨y,u,rfl,e⟩
  ·exact nomatch e
  ·injection e with e1 _
   subst e1
   cases v<;>rfl
def mixKind_int(prog:Ni)(w:Nk)(i:Int)(t:Tok):(zap prog w).is (.inl i) (.int i t)=true:=keyIs_int i t
def zgh(prog:Ni)(w:Nk)(x:Str)(t:Tok):(zap prog w).is (.inr x) (.str x t)=true:=keyIs_str x t
end L2
namespace L2
open PySem PySem.Spec PyProof.Rows
inductive V where
 |non | bl (b:Bool) | int (i:Int) | str (x:Str) | byt (b:Array UInt8) | flt (b:UInt64) | ref (a:Nb) | ty (n:String)
 deriving DecidableEq
def RelV:V→Value→Prop
 |.non,u=>u=Value.none
 |.bl b,u=>u=Value.bool b
 |.int i,u=>∃t,u=Value.int i t
 |.str x,u=>∃t,u=Value.str x t
 |.byt b,u=>∃t,u=Value.bytes b t
 |.flt b,u=>∃t,u=Value.float b t
 |.ref a,u=>u=Value.ref a
 |.ty n,u=>u=Value.type n
abbrev Vals:List V→List Value→Prop:=Paired RelV
def Vals.length{xs:List V}{us:Nj}(r:Vals xs us):xs.length=us.length:=Ya r
theorem Vals.get:∀{xs:List V} {us:Nj} {i:Nat} {x:V},Vals xs us→xs[i]?=some x→∃u,us[i]?=some u∧RelV x u
 |_,_,_,_,.nil,e=>by simp at e
 |_,_,0,_,.cons r _,e=>by simp at e;subst e;exact⟨W7,r⟩
 |_,_,i+1,x,.cons _ t,e=>by
  obtain⟨u,h1,h2⟩:=Vals.get (i:=i) (x:=x) t (ZR e)
  exact⟨u,ZR h1,h2⟩
theorem Vals.set(r:RelV x u):∀{xs:List V} {us:Nj} (i:Nat),Vals xs us→Vals (xs.set i x) (us.set i u)
 |_,_,_,.nil=>.nil
 |_,_,0,.cons _ t=>.cons r t
 |_,_,i+1,.cons q t=>.cons q (Vals.set r i t)
theorem Vals.append:∀{xs ys:List V} {us ws:Nj},Vals xs us→Vals ys ws→Vals (xs++ys) (us++ws)
 |_,_,_,_,.nil,s=>s
 |_,_,_,_,.cons r t,s=>.cons r (Vals.append t s)
theorem Vals.take:∀{xs:List V} {us:Nj} (n:Nat),Vals xs us→Vals (xs.take n) (us.take n)
 |_,_,0,_=>.nil
 |_,_,_+1,.nil=>.nil
 |_,_,n+1,.cons r t=>.cons r (Vals.take n t)
theorem Vals.drop:∀{xs:List V} {us:Nj} (n:Nat),Vals xs us→Vals (xs.drop n) (us.drop n)
 |_,_,0,r=>r
 |_,_,_+1,.nil=>.nil
 |_,_,n+1,.cons _ t=>Vals.drop n t
def RelO:Option V→Option Value→Prop
 |some v,some u=>RelV v u
 |none,none=>True
 |_,_=>False
def KV{κ:Type}:List (κ×V)→List (κ×Value)→Prop:=Paired λ(p:κ×V) (q:κ×Value)=>p.1=q.1∧RelV p.2 q.2
def kV:Key→V
 |.inl i=>.int i
 |.inr x=>.str x
inductive HO where
 /-- a list -/
 |lst (xs:List V)
 /-- a tuple (never changes) -/
 |tup (xs:List V)
 /-- a dict whose keys are ints and texts;one whose keys are tuples of ints and texts (the empty one is both) -/
 |dK (kvs:List (Key×V)) | dT (kvs:List (List Key×V))
 /-- a set of ints: a9 members,a9 size -/
 |set (S:Int→Bool) (n:Nat)
 /-- an instance of the class at C,a9 dict at dx,a9 attributes -/
 |ins (C dx:Nb) (fs:List (Str×V))
 /-- the dict of the instance at x -/
 |own (x:Nb)
 /-- the dict of an exception -/
 |xd (fs:List (Str×V))
 /-- a bound method,f of x -/
 |met (f x:Nb)
 /-- a range object lo,lo+1,.. below hi -/
 |rng (lo hi:Int)
 /-- a thing that is known to the object (the script;a dict while a loop walks it): read,never written while it is so -/
 |frz (o:Obj) (u:HO)
 /-- a code object's table -/
 |tbl (ps:Array Value)
 /-- any other thing,by what is true of a9 one object (a def of one's own: SetO a S n:=HO.ext λh=>..) -/
 |ext (φ:Heap→Prop)
abbrev Hp:=Addr→Option HO
def upd(H:Hp)(a:Nb)(o:HO):Hp:=λb=>if b=a then some o else H b
def zac{H:Hp}{a:Nb}{o:HO}:upd H a o a=some o:=by unfold upd;rw[if_pos rfl]
def zaf{H:Hp}{a b:Nb}{o:HO}(h:b≠a):upd H a o b=H b:=by unfold upd;rw[if_neg h]
def upd_upd:upd (upd H a o) a u=upd H a u:=by
 funext b;unfold upd;split<;>rfl
def za3{H:Hp}{a b:Nb}{o u:HO}(h:H a=some o)(h':H b=some u)(d:o≠u):a≠b:=by
 intro e;subst e;rw[h]at h';exact d (Qn h')
def zab{H:Hp}{a b:Nb}{o:HO}(h:H a=some o)(h':H b=none):a≠b:=by
 intro e;subst e;rw[h]at h';cases h'
section
variable(P:Ni)(w:Nk)
def zbw(H:Hp)(h:Nm)(a:Nb):HO→Prop
 |.lst xs=>xs.length≤sizeLine∧∃(a9:Nj) (n:Nat),Vals xs a9∧h.get? a=some {cls:=.type "list",data:=.seq a9.toArray n}
 |.tup xs=>xs.length≤sizeLine∧∃a9:List Value,Vals xs a9∧IsTup h a a9.toArray
 |.dK kvs=>kvs.length≤sizeLine∧(a==sysModules)=false∧∃vs,KV kvs vs∧h.DictOf (zap P w) a vs
 | .dT kvs=>kvs.length≤sizeLine∧(a == sysModules)=false∧∃ xs:List (List Key×Addr×Value),
   Paired (λ(p:List Key×V) (q:List Key×Addr×Value)=>p.1=q.1∧H q.2.1=some (.tup (p.1.map kV))∧RelV p.2 q.2.2) kvs xs ∧
   ∃o es ep,h.get? a=some o∧o.ExactDict∧o.data=.dict es ep∧es.toList=xs.map (entryOfKey (tupleKind (zap P w)))∧(xs.map (·.1)).Nodup
 |.set S n=>h.SetOf (intKind P w) a S n
 | .ins C dx fs=>H dx=some (.own a)∧fs.length≤1000∧dx≠a∧h.get? a=some (PySem.W.instObj C dx) ∧
   ∃mA,h.Ns1 dx mA∧(∀f,RelO (fs.lookup f) (mA f))∧PySem.Within mA (fs.map (·.1))
 |.own _=>∃o,h.get? a=some o
 |.xd fs=>∃mA,h.Ns1 a mA∧∀f,RelO (fs.lookup f) (mA f)
 |.rng lo hi=>∃t u v,h.get? a=some {cls:=.type "range",data:=.fields #[.int lo t,.int hi u,.int 1 v]}
 |.frz o u=>h.get? a=some o∧zbw H h a u
 |.tbl ps=>h.get? a=some {cls:=.none,data:=.fields ps}
 |.met f x=>h.get? a=some (PySem.W.methodObj (ZZ f) (ZZ x))
 |.ext φ=>φ h∧(∃o,h.get? a=some o)∧∀h1 h2:Heap,φ h1→(∀o,h1.get? a=some o→h2.get? a=some o)→φ h2
def HOk(H:Hp)(h:Nm):Prop:=∀a o,H a=some o→zbw P w H h a o
end
section
variable{P:Ni}{w:Nk}{H H':Hp}{h h':Nm}{a:Nb}{o:HO}
def zbw.lt(x:zbw P w H h a o):a<h.objs.size:=by
 cases o with
 |lst xs=>obtain⟨_,_,_,_,e⟩:=x;exact Qu e
 |tup xs=>obtain⟨_,_,_,p⟩:=x;exact p.lt
 |dK kvs=>obtain⟨_,_,_,_,o,_,_,e,_⟩:=x;exact Qu e
 |dT kvs=>obtain⟨_,_,_,_,o,_,_,e,_⟩:=x;exact Qu e
 |set S n=>obtain⟨o,_,_,_,e,_⟩:=x;exact Qu e
 |ins C dx fs=>obtain⟨_,_,_,e,_⟩:=x;exact Qu e
 |own y=>obtain⟨_,e⟩:=x;exact Qu e
 |xd fs=>obtain⟨_,⟨_,_,_,e,_⟩,_⟩:=x;exact Qu e
 |rng lo hi=>obtain⟨_,_,_,e⟩:=x;exact Qu e
 |frz ob u=>obtain⟨e,_⟩:=x;exact Qu e
 |tbl ps=>exact Qu (show h.get? a=some _ from x)
 |met f y=>exact Qu (show h.get? a=some _ from x)
 |ext φ=>obtain⟨_,⟨_,e⟩,_⟩:=x;exact Qu e
theorem Paired.mapP{α β:Type}{F G:α→β→Prop}:∀{l₁:List α} {l₂:List β},Paired F l₁ l₂→(∀a b,F a b→G a b)→Paired G l₁ l₂
 |_,_,.nil,_=>.nil
 |_,_,.cons r t,f=>.cons (f _ _ r) (Paired.mapP t f)
def Paired.imp'{α β:Type}{F G:α→β→Prop}(f:∀a b,F a b→G a b){l₁:List α}{l₂:List β}(r:Paired F l₁ l₂):Paired G l₁ l₂:=Paired.mapP r f
def zbw.stay(x:zbw P w H h a o)(k:∀b u,(b=a∨H b=some (.own a))→h.get? b=some u→h'.get? b=some u)(ho:∀b,H b=some (.own a)→H' b=some (.own a))(ht:∀b xs,H b=some (.tup xs)→H' b=some (.tup xs)):zbw P w H' h' a o:=by
 induction o with
 |lst xs=>obtain⟨z,a9,n,r,e⟩:=x;exact⟨z,a9,n,r,k _ _ QX e⟩
 |tup xs=>obtain⟨z,a9,r,ob,e,c⟩:=x;exact⟨z,a9,r,ob,k _ _ QX e,c⟩
 |dK kvs=>obtain⟨z,y,vs,r,ob,es,ep,e,c⟩:=x;exact⟨z,y,vs,r,ob,es,ep,k _ _ QX e,c⟩
 |dT kvs =>
  obtain⟨z,y,xs,r,ob,es,ep,e,c⟩:=x
  exact⟨z,y,xs,Paired.mapP r λp q z=>⟨z.1,ht _ _ z.2.1,z.2.2⟩,ob,es,ep,k _ _ QX e,c⟩
 |set S n=>obtain⟨ob,es,ep,t,e,c⟩:=x;exact⟨ob,es,ep,t,k _ _ QX e,c⟩
 |ins C dx fs =>
  obtain⟨d,z,ne,e,mA,⟨od,es,ep,e2,c⟩,r⟩:=x
  exact⟨ho _ d,z,ne,k _ _ QX e,mA,⟨od,es,ep,k _ _ (.inr d) e2,c⟩,r⟩
 |own y=>obtain⟨ob,e⟩:=x;exact⟨ob,k _ _ QX e⟩
 |xd fs=>obtain⟨mA,⟨od,es,ep,e,c⟩,r⟩:=x;exact⟨mA,⟨od,es,ep,k _ _ QX e,c⟩,r⟩
 |rng lo hi=>obtain⟨t,u,v,e⟩:=x;exact⟨t,u,v,k _ _ QX e⟩
 |frz ob u ih=>obtain⟨e,q⟩:=x;exact⟨k _ _ QX e,ih q⟩
 |tbl ps =>
  have e:h.get? a=some {cls:=.none,data:=.fields ps}:=x
  show h'.get? a=some {cls:=.none,data:=.fields ps}
  exact k a _ QX e
 |met f y =>
  have e:h.get? a=some (PySem.W.methodObj (ZZ f) (ZZ y)):=x
  show h'.get? a=some (PySem.W.methodObj (ZZ f) (ZZ y))
  exact k a _ QX e
 |ext φ=>obtain⟨p,⟨o,e⟩,st⟩:=x;exact⟨st _ _ p λo q=>k _ _ QX q,⟨o,k _ _ QX e⟩,st⟩
def HOk.lt(x:HOk P w H h)(e:H a=some o):a<h.objs.size:=(x a o e).lt
def HOk.fresh(x:HOk P w H h)(e:h.objs.size≤a):H a=none:=by
 cases q:H a with
 |none=>rfl
 |some u=>exact absurd (Zu (x.lt q) e) (Ys _)
def HOk.kept(x:HOk P w H h)(k:∀b u,h.get? b=some u→h'.get? b=some u):HOk P w H h':=λa o e =>
 (x a o e).stay (λb u _ q=>k b u q) (λ_ q=>q) λ_ _ q=>q
def HOk.laid(x:HOk P w H h)(k:∀b u,h.get? b=some u→h'.get? b=some u)(hp:h.objs.size≤a)(new:zbw P w (upd H a o) h' a o):HOk P w (upd H a o) h':=λb u e=>by
 have hn:=x.fresh hp
 by_cases hb:b=a
 ·subst hb;rw[zac]at e;cases e;exact new
 ·rw [zaf hb] at e
  exact(x b u e).stay (λc v _ q=>k c v q) (λc q=>by rw[zaf (zab q hn)];exact q) λc xs q=>by rw[zaf (zab q hn)];exact q
end
def Rd(H:Hp)(a:Nb)(u:HO):Prop:=H a=some u∨∃o,H a=some (.frz o u)
def Rd.ok{P:Ni}{w:Nk}{H:Hp}{h:Nm}{a:Nb}{u:HO}(r:Rd H a u)(x:HOk P w H h):zbw P w H h a u:=by
 rcases r with r | ⟨o,r⟩
 ·exact x a u r
 ·obtain ⟨_,q⟩:=x a _ r
  exact q
def Mut:Option HO→Prop
 |some (.lst _)=>True
 |some (.dK _)=>True
 |some (.dT _)=>True
 |some (.set _ _)=>True
 |some (.ins _ _ _)=>True
 |some (.ext _)=>True
 |_=>False
section
variable{P:Ni}{w:Nk}{H:Hp}{h h':Nm}{x e:Nb}{o':HO}
def HOk.write(ok:HOk P w H h)(mu:Mut (H x))(he:e=x∨H e=some (.own x))(k:∀ b u,b≠e→h.get? b=some u→h'.get? b=some u)(kI:∃ u,h'.get? e=some u)(new:zbw P w (upd H x o') h' x o'):HOk P w (upd H x o') h':=λb u q=>by
 have nown:∀c y,H c=some (.own y)→c≠x:=λc y r z=>by subst z;rw[r]at mu;exact mu
 have ntup:∀c xs,H c=some (.tup xs)→c≠x:=λc xs r z=>by subst z;rw[r]at mu;exact mu
 by_cases hb:b=x
 ·subst hb;rw[zac]at q;cases q;exact new
 ·rw [zaf hb] at q
  by_cases jC:b=e
  ·have q':H b=some (.own x):=by
    rcases he with z | z
    ·exact absurd (jC.trans z) hb
    ·rw[jC];exact z
   rw[q]at q';cases q'
   obtain⟨v,hv⟩:=kI
   exact⟨v,Z2 jC hv⟩
  ·refine (ok b u q).stay (fun c v hc r=>k c v ?_ r) (fun c r=>by rw [zaf (nown c b r)];exact r) fun c xs r=>by rw [zaf (ntup c xs r)];exact r
   rcases hc with rfl | hc
   ·exact jC
   ·rintro rfl
    rcases he with z | z
    ·exact nown c b hc z
    ·rw[hc]at z;cases z;exact hb rfl
end
structure Un(fs ex:Nl)(H H':Hp)(h h':Nm):Prop where
 keep:∀b o,h.get? b=some o→H b=none→b∉fs→b∉ex→h'.get? b=some o
 slot:∀b o,h.get? b=some o→H b=none→b∈fs→b∉ex→∃sl,h'.get? b=some {o with slots:=sl}
 free:∀b o,h.get? b=some o→H b=none→b∉ex→H' b=none
 there:∀b o,h.get? b=some o→b∉ex→∃o',h'.get? b=some o'
 tups:∀b xs,H b=some (.tup xs)→H' b=some (.tup xs)
 frzs:∀b o u,H b=some (.frz o u)→H' b=some (.frz o u)
 tbls:∀b ps,H b=some (.tbl ps)→∃more,H' b=some (.tbl (ps++more))
section
variable{fs fs' ex ex':Nl}{H H1 H2:Hp}{h h1 h2 h':Nm}{a x e:Nb}{o:HO}
def Un.any(u:Un fs ex H H1 h h1){b:Nb}{ob:Obj}(q:h.get? b=some ob)(n:H b=none)(hx:b∉ex):∃sl,h1.get? b=some {ob with slots:=sl}:=by
 by_cases hb:b∈fs
 ·exact u.slot b ob q n hb hx
 ·exact⟨ob.slots,u.keep b ob q n hb hx⟩
def Un.kept(k:∀b u,h.get? b=some u→h'.get? b=some u):Un fs ex H H h h' :=
 ⟨λb ob q _ _ _=>k b ob q,λb ob q _ _ _=>⟨ob.slots,k b ob q⟩,λ_ _ _ n _=>n,λb ob q _=>⟨ob,k b ob q⟩,λ_ _ q=>q,λ_ _ _ q=>q,λ_ ps q=>⟨#[],by rw[q];simp⟩⟩
def Un.refl:Un fs ex H H h h:=Un.kept λ_ _ q=>q
theorem Un.laid(k:∀b u,h.get? b=some u→h'.get? b=some u)(hp:h.objs.size≤a)(hn:H a=none):Un fs ex H (upd H a o) h h' where
 keep:=λb u q _ _ _=>k b u q
 slot:=λb u q _ _ _=>⟨u.slots,k b u q⟩
 free:=λb u q n _=>by rw[zaf (Zg (Zu (Qu q) hp))];exact n
 there:=λb u q _=>⟨u,k b u q⟩
 tups:=λb xs q=>by rw[zaf (zab q hn)];exact q
 frzs:=λb u xs q=>by rw[zaf (zab q hn)];exact q
 tbls:=λb ps q=>⟨#[],by rw[zaf (zab q hn),q];simp⟩
def Un.write(mu:Mut (H x))(he:e=x∨H e=some (.own x))(k:∀b u,b≠e→h.get? b=some u→h'.get? b=some u)(kI:∃u,h'.get? e=some u):Un fs ex H (upd H x o) h h':=by
 have hx:∀b,H b=none→b≠x:=λb n z=>by subst z;rw[n]at mu;exact mu
 have hb:∀b,H b=none→b≠e:=λb n z=>by
  subst z
  rcases he with r | r
  ·exact hx b n r
  ·rw[n]at r;cases r
 have hm:∀b u,H b=some u→¬Mut (QB u)→b≠x:=λb u q nm z=>by subst z;rw[q]at mu;exact nm mu
 refine⟨λb u q n _ _=>k b u (hb b n) q,λb u q n _ _=>⟨u.slots,k b u (hb b n) q⟩,λb u q n _=>by rw[zaf (hx b n)];exact n,λb u q _=>?_,
  λb xs q=>by rw[zaf (hm b _ q λz=>z)];exact q,λb u xs q=>by rw[zaf (hm b _ q λz=>z)];exact q,λb ps q=>⟨#[],by rw[zaf (hm b _ q λz=>z),q];simp⟩⟩
 by_cases jC:b=e
 ·subst jC;exact kI
 ·exact⟨u,k b u jC q⟩
end
def trk(h:Nm)(H:Hp):List Addr:=(List.range h.objs.size).filter λa=>(H a).isSome
def hidT(h:Nm)(H:Hp):Heap:=PySem.W.hideAll h (trk h H)
def hidT_size(h:Nm)(H:Hp):(hidT h H).objs.size=h.objs.size:=PySem.W.hideAll_size _ _
def hidT_get{h:Nm}{H:Hp}{b:Nb}{o:Obj}(e:h.get? b=some o)(n:H b=none):(hidT h H).get? b=some o :=
 PySem.W.hideAll_get _ e λhm=>by
  have q:(H b).isSome=true:=(Zj.mp hm).2
  rw[n]at q;simp at q
def of_hidT{h:Nm}{H:Hp}{b:Nb}{o:Obj}(e:(hidT h H).get? b=some o):h.get? b=some o∧H b=none:=by
 have e':h.get? b=some o:=PySem.W.of_hideAll (trk h H) e
 refine⟨e',?_⟩
 cases q:H b with
 |none=>rfl
 |some x =>
  have hm:b∈trk h H:=Zj.mpr ⟨Wh.mpr (Qu e'),by simp[q]⟩
  have z:(hidT h H).get? b=none:=PySem.W.hideAll_none (trk h H) hm
  rw[z]at e;cases e
end L2
namespace L2
open PySem PySem.Spec PyProof.Rows
structure Mod(K:Na)(mg:Nd)(base:Nm):Prop where
 kin:K.In base
 glob:base.Ns mainGlobals mg
 blt:∃mb,base.Ns builtinsNs mb∧∀x:Str,x ≠ "__name__" → mb x=bootBuiltins x
 nolimit:base.NoLimit
structure Cx where
 prog:Program
 w:World
 K:PySem.W.Frag
 mg:Str→Option Value
 base:Heap
 A:Around
 N:List Str
 s₀:Shared
 H₀:Hp
 env:Env
 outer:List Env
 stack:List Env
 ex:List Addr
 fn:Str→Bool
 calm:Bool
 pn:List (Addr×Obj)
 xe:Value→Shared→Prop
def frs(l:List Env):List Addr:=l.filterMap (·.frame)
abbrev Cx.fs(X:Cx):List Addr:=frs X.outer
def Vis(sc:Scope)(x:Str):Prop:=sc.names.lookup x=some .local∨sc.names.lookup x=some .cell∨sc.names.lookup x=some .free
def Loc(sc:Scope)(x:Str):Prop:=sc.names.lookup x=some .local∨sc.names.lookup x=some .cell
def Look(env:Env)(h:Nm)(m:Nd)(x:Str)(u:Value):Prop :=
 (env.kindOf x=some .local∧m x=some u)∨((env.kindOf x=some .cell∨env.kindOf x=some .free)∧∃c,env.cells.lookup x=some c∧h.IsCell c (QB u))
structure Cx.Ok(X:Cx):Prop where
 mod:Mod X.K X.mg X.base
 kind:X.env.scope.kind=.function
 glob:X.env.globals=mainGlobals
 blt:X.env.builtins=builtinsNs
 above:X.s₀.heap.objs.size≤X.env.locals
 inj:∀x y c,X.env.cells.lookup x=some c→X.env.cells.lookup y=some c→x=y
 has:∀x,(X.env.kindOf x=some .cell∨X.env.kindOf x=some .free)→∃c,X.env.cells.lookup x=some c
 cab:∀x c,X.fn x=true→X.env.cells.lookup x=some c→X.s₀.heap.objs.size≤c
 hd:X.calm=true→X.A.handled=none
 frames:X.A.frames=some X.stack
 stk:X.stack=X.outer∨(X.stack=X.env::X.outer∧X.env.frame=some X.env.locals)
 exf:∀b∈X.ex,b≠X.env.locals∧∀x c,X.env.cells.lookup x=some c→c≠b
 bs:∀b o,X.base.get? b=some o→X.s₀.heap.get? b=some o∧X.H₀ b=none
 bsz:X.base.objs.size≤X.s₀.heap.objs.size
 noex:∀b o,X.base.get? b=some o→b∉X.ex
 exfs:∀b∈X.ex,b∉X.fs
 funs:X.s₀.heap.FunFrames X.base X.outer
 frf:∀b∈X.fs,X.H₀ b=none
structure Inv(X:Cx)(a7:Ng)(σ:List (Option V))(H:Hp)(s:Nh):Prop where
 ok:X.Ok
 os:s.os=X.s₀.os
 bare:AllBare s.gens
 base:Un X.fs X.ex X.H₀ H X.s₀.heap s.heap
 loc:∃m,s.heap.Ns X.env.locals m∧∀(i:Nat) (x:Str) (v:V),X.N[i]?=some x→σ[i]?=some (QB v)→Vis X.env.scope x→∃u,RelV v u∧Look X.env s.heap m x u
 cell:∀x c,X.env.cells.lookup x=some c→∃v,s.heap.IsCell c v
 free:H X.env.locals=none
 freeC:∀x c,X.env.cells.lookup x=some c→H c=none
 pin:∀p∈X.pn++a7,s.heap.get? p.1=some p.2∧H p.1=none∧p.1≠X.env.locals∧p.1∉X.fs∧∀v,p.2.data≠.cell v
 hok:HOk X.prog X.w H s.heap
 len:σ.length=X.N.length
section
variable{X:Cx}{a7:Ng}{σ:List (Option V)}{H H':Hp}{s:Nh}{h':Nm}
def Cx.Ok.nofr(ok:X.Ok)(e:X.base.get? b=some o):b∉X.fs:=λhb=>by
 have:=(ok.funs.mem hb).1
 rw[e]at this;cases this
def Inv.bs(I:QT):∀b o,X.base.get? b=some o→s.heap.get? b=some o∧H b=none:=λb o e =>
 ⟨I.base.keep b o (I.ok.bs b o e).1 (I.ok.bs b o e).2 (I.ok.nofr e) (I.ok.noex b o e),I.base.free b o (I.ok.bs b o e).1 (I.ok.bs b o e).2 (I.ok.noex b o e)⟩
def Inv.bk(I:QT):∀b o,X.base.get? b=some o→s.heap.get? b=some o:=λb o e=>(I.bs b o e).1
def Inv.mod(I:QT):Mod X.K X.mg X.base:=I.ok.mod
def Inv.kIn(I:QT):X.K.In s.heap:=I.ok.mod.kin.keeps I.bk
def Inv.lt(I:QT):X.env.locals<s.heap.objs.size:=let⟨_,hn,_⟩:=I.loc;hn.lt
def Inv.sz(I:QT):X.s₀.heap.objs.size≤s.heap.objs.size:=Zi I.ok.above (Wt I.lt)
def Inv.nofs(I:QT)(h:s.heap.objs.size≤a):a∉X.fs:=λhb=>by
 obtain⟨_,o,ho,_⟩:=I.ok.funs.mem hb
 exact absurd (Zu (Qu ho) (Zi I.sz h)) (Ys _)
def Inv.cne(I:QT):∀x c,X.env.cells.lookup x=some c→c≠X.env.locals:=λx c e z=>by
 obtain⟨v,o,ho,hd⟩:=I.cell x c e
 obtain⟨m,⟨o',es,ep,cK,gZ,_⟩,_⟩:=I.loc
 rw[z,cK]at ho;cases ho;rw[gZ]at hd;cases hd
def Inv.funs(I:QT):s.heap.FunFrames X.base X.outer:=by
 have all:∀(l:List Env),(∀b∈frs l,b∈X.fs)→X.s₀.heap.FunFrames X.base l→s.heap.FunFrames X.base l:=by
  intro l
  induction l with
  |nil=>intro _ _;trivial
  |cons env r ih =>
   intro hs hl
   obtain⟨hk,⟨L,o,hf,hn,ho,hd⟩,hr⟩:=hl
   have hL:L∈X.fs:=hs L (by unfold frs;rw[List.filterMap_cons,hf];exact List.mem_cons_self)
   obtain⟨sl,e⟩:=I.base.slot L o ho (I.ok.frf L hL) hL λz=>I.ok.exfs L z hL
   exact⟨hk,⟨L,_,hf,hn,e,hd⟩,ih (λb hb=>hs b (by unfold frs;rw[List.filterMap_cons,hf];exact List.mem_cons_of_mem _ hb)) hr⟩
 exact all X.outer (λ_ hb=>hb) I.ok.funs
def Inv.stack(I:QT):s.heap.FunFrames X.base X.stack:=by
 rcases I.ok.stk with e | ⟨e,hf⟩
 ·rw[e];exact I.funs
 ·rw [e]
  obtain⟨m,hn,_⟩:=I.loc
  refine .cons (by rw[I.ok.kind];decide) hf hn ?_ I.funs
  exact Heap.get?_none_of_le (Zi I.ok.bsz I.ok.above)
def Inv.stkSub(I:QT):∀b∈frs X.stack,b∈X.env.locals::X.fs:=λb hb=>by
 rcases I.ok.stk with e | ⟨e,hf⟩
 ·rw[e]at hb;exact Qe _ hb
 ·rw [e] at hb
  unfold frs at hb
  rw[List.filterMap_cons,hf]at hb
  exact hb
def Inv.stkFree(I:QT):∀b∈frs X.stack,H b=none:=λb hb=>by
 rcases Qg.mp (I.stkSub b hb) with e | hb
 ·rw[e];exact I.free
 ·obtain ⟨_,o,ho,_⟩:=I.ok.funs.mem hb
  exact I.base.free b o ho (I.ok.frf b hb) λz=>I.ok.exfs b z hb
def Inv.step{g':Array GenState}{t':Nat}{d':Drawn}{ch:Nl}(I:QT)(gw:Q9)(keep:∀b o,b≠X.env.locals→b∉X.fs→b∉ch→s.heap.get? b=some o→H b=none→h'.get? b=some o)(slot:∀b o,b≠X.env.locals→b∈X.fs→b∉ch→s.heap.get? b=some o→H b=none→∃sl,h'.get? b=some {o with slots:=sl})(free:∀b o,b∉ch→s.heap.get? b=some o→H b=none→H' b=none)(there:∀b o,b∉ch→s.heap.get? b=some o→∃o',h'.get? b=some o')(tups:∀b xs,H b=some (.tup xs)→H' b=some (.tup xs))(frzs:∀b o u,H b=some (.frz o u)→H' b=some (.frz o u))(tbls:∀b ps,H b=some (.tbl ps)→∃more,H' b=some (.tbl (ps++more)))(ns:∀m,s.heap.Ns X.env.locals m→h'.Ns X.env.locals m)(hok:HOk X.prog X.w H' h')(hg:AllBare g') :
  Inv X a7 σ H' {s with heap:=h',gens:=g',drawn:=d',toks:=t'}:=by
 have neL:∀b o,X.s₀.heap.get? b=some o→b≠X.env.locals:=λb o e=>Zg (Zu (Qu e) I.ok.above)
 have neC:∀b o,X.s₀.heap.get? b=some o→b∉X.ex→b∉ch:=λb o e hx hb=>by
  rcases(gw b hb).1 with z | z
  ·exact hx z
  ·exact absurd (Zu (Qu e) z) (Ys _)
 have cellK:∀x c,X.env.cells.lookup x=some c→∀v,s.heap.IsCell c v→h'.IsCell c v:=λx c e v ⟨o,ho,hd⟩=>by
  have nch:c∉ch:=λz=>(gw c z).2.2.1 x c e rfl
  by_cases hc:c∈X.fs
  ·obtain ⟨sl,q⟩:=slot c o (I.cne x c e) hc nch ho (I.freeC x c e)
   exact⟨_,q,hd⟩
  ·exact⟨o,keep c o (I.cne x c e) hc nch ho (I.freeC x c e),hd⟩
 refine⟨I.ok,I.os,hg,⟨λb o e n hb hx=>?_,λb o e n hb hx=>?_,λb o e n hx=>?_,λb o e hx=>?_,λb xs e=>tups b xs (I.base.tups b xs e),λb o xs e=>frzs b o xs (I.base.frzs b o xs e),λb ps e=>?_⟩,?_,λx c e=>?_,?_,λx c e=>?_,λp hp=>?_,hok,I.len⟩
 ·exact keep b o (neL b o e) hb (neC b o e hx) (I.base.keep b o e n hb hx) (I.base.free b o e n hx)
 ·obtain ⟨sl,e1⟩:=I.base.slot b o e n hb hx
  obtain⟨sl',e2⟩:=slot b _ (neL b o e) hb (neC b o e hx) e1 (I.base.free b o e n hx)
  exact⟨sl',e2⟩
 ·obtain ⟨o',e1⟩:=I.base.there b o e hx
  exact free b o' (neC b o e hx) e1 (I.base.free b o e n hx)
 ·obtain ⟨o',e1⟩:=I.base.there b o e hx
  exact there b o' (neC b o e hx) e1
 ·obtain ⟨m1,e1⟩:=I.base.tbls b ps e
  obtain⟨m2,e2⟩:=tbls b _ e1
  exact⟨m1++m2,by rw[e2,Array.append_assoc]⟩
 ·obtain ⟨m,hn,hl⟩:=I.loc
  refine⟨m,ns m hn,λi x v e1 e2 e3=>?_⟩
  obtain⟨u,r,l⟩:=hl i x v e1 e2 e3
  refine⟨u,r,?_⟩
  rcases l with l | ⟨k,c,e,z⟩
  ·exact .inl l
  ·exact .inr ⟨k,c,e,cellK x c e _ z⟩
 ·obtain ⟨v,z⟩:=I.cell x c e
  exact⟨v,cellK x c e v z⟩
 ·obtain ⟨m,⟨o,_,_,ho,_⟩,_⟩:=I.loc
  exact free _ o (λz=>(gw _ z).2.1 rfl) ho I.free
 ·obtain ⟨v,o,ho,hd⟩:=I.cell x c e
  exact free c o (λz=>(gw c z).2.2.1 x c e rfl) ho (I.freeC x c e)
 ·obtain ⟨e,n,ne,nf,d⟩:=I.pin p hp
  have nch:p.1∉ch:=λz=>(gw p.1 z).2.2.2 p hp rfl
  exact⟨keep p.1 p.2 ne nf nch e n,free p.1 p.2 nch e n,ne,nf,d⟩
def Inv.un{t':Nat}(I:QT)(u:Un X.fs [] H H' s.heap h')(hok:HOk X.prog X.w H' h'):ZA H' {s with heap:=h',toks:=t'}:=by
 obtain⟨m,⟨o,es,ep,ho,r⟩,_⟩:=id I.loc
 obtain⟨sl,hL⟩:=u.any ho I.free ZM
 exact I.step (g':=s.gens) (d':=s.drawn) (ch:=[]) (λ_ z=>nomatch z) (λb o _ hb _ e n=>u.keep b o e n hb ZM) (λb o _ hb _ e n=>u.slot b o e n hb ZM) (λb o _ e n=>u.free b o e n ZM) (λb o _ e=>u.there b o e ZM) u.tups u.frzs u.tbls (λm' hm=>by
  obtain⟨o',ai,ep',cK,r'⟩:=hm
  rw[ho]at cK;cases cK
  exact⟨_,ai,ep',hL,r'⟩) hok I.bare
def Inv.call{g':Array GenState}{t':Nat}{d':Drawn}{ch:Nl}(I:QT)(u:Un (frs X.stack) ch H H' s.heap h')(hok:HOk X.prog X.w H' h')(hg:AllBare g')(gw:Q9) :
  Inv X a7 σ H' {s with heap:=h',gens:=g',drawn:=d',toks:=t'}:=by
 obtain⟨m,⟨o,es,ep,ho,r⟩,_⟩:=id I.loc
 obtain⟨sl,hL⟩:=u.any ho I.free λz=>(gw _ z).2.1 rfl
 exact I.step (ch:=ch) gw (λb o hL hb hc e n=>u.keep b o e n (λz=>(Qg.mp (I.stkSub b z)).elim hL hb) hc) (λb o _ _ hc e n=>u.any e n hc) (λb o hc e n=>u.free b o e n hc) (λb o hc e=>u.there b o e hc) u.tups u.frzs u.tbls (λm' hm=>by
  obtain⟨o',ai,ep',cK,r'⟩:=hm
  rw[ho]at cK;cases cK
  exact⟨_,ai,ep',hL,r'⟩) hok hg
def Inv.turned{t':Nat}{it:Nb}(I:QT)(k:∀b o,b≠it→s.heap.get? b=some o→h'.get? b=some o)(hn:H it=none)(hL:it≠X.env.locals)(h1:it∈X.ex∨X.s₀.heap.objs.size≤it)(h2:∀x c,X.env.cells.lookup x=some c→c≠it)(h3:∀p∈X.pn++a7,p.1≠it):ZA H {s with heap:=h',toks:=t'}:=by
 have nit:∀b u,H b=some u→b≠it:=λb u e z=>by rw[z,hn]at e;cases e
 refine I.step (g':=s.gens) (d':=s.drawn) (ch:=[it]) (λb hb=>?_) (λb o _ _ hc e _=>k b o (λz=>hc (by simp[z])) e) (λb o _ _ hc e _=>⟨o.slots,k b o (λz=>hc (by simp[z])) e⟩) (λ_ _ _ _ n=>n)
  (λb o hc e=>⟨o,k b o (λz=>hc (by simp[z])) e⟩) (λ_ _ e=>e) (λ_ _ _ e=>e) (λb ps e=>⟨#[],by rw[e];simp⟩) (λm hm=>?_) (λb u e=>?_) I.bare
 ·have e:b=it:=by simpa using hb
  subst e
  exact⟨h1,hL,h2,h3⟩
 ·obtain ⟨o,es,ep,ho,r⟩:=hm
  exact⟨o,es,ep,k _ o (Zn hL) ho,r⟩
 ·refine (I.hok b u e).stay (fun c v hc q=>k c v ?_ q) (fun _ q=>q) fun _ _ q=>q
  rcases hc with z | z
  ·rw[z];exact nit b u e
  ·exact nit c _ z
def Inv.tok(I:QT)(t:Nat):ZA H {s with toks:=t}:=I.un (h':=s.heap) (t':=t) Un.refl I.hok
def Inv.kept{t':Nat}(I:QT)(k:∀b u,s.heap.get? b=some u→h'.get? b=some u):ZA H {s with heap:=h',toks:=t'}:=I.un (Un.kept k) (I.hok.kept k)
def Inv.laid(I:QT)(k:∀b u,s.heap.get? b=some u→h'.get? b=some u)(hp:s.heap.objs.size≤a)(new:zbw X.prog X.w (upd H a o) h' a o) :
  Inv X a7 σ (upd H a o) {s with heap:=h',toks:=t'}:=I.un (Un.laid k hp (I.hok.fresh hp)) (I.hok.laid k hp new)
def Inv.write(I:QT)(mu:Mut (H x))(he:e=x∨H e=some (.own x))(k:∀b u,b≠e→s.heap.get? b=some u→h'.get? b=some u)(kI:∃u,h'.get? e=some u)(new:zbw X.prog X.w (upd H x o) h' x o):ZA (upd H x o) {s with heap:=h',toks:=t'}:=I.un (Un.write mu he k kI) (I.hok.write mu he k kI new)
def Inv.pins_of(I:QT)(h:∀p∈pins',s.heap.get? p.1=some p.2∧H p.1=none∧p.1≠X.env.locals∧p.1∉X.fs∧∀v,p.2.data≠.cell v):Inv X pins' σ H s :=
 ⟨I.ok,I.os,I.bare,I.base,I.loc,I.cell,I.free,I.freeC,λp hp=>(Qk.mp hp).elim (λz=>I.pin p (Qp _ z)) (h p),I.hok,I.len⟩
def nodup_ix{N:Nf}(hN:N.Nodup){i j:Nat}{x:Str}(a:N[i]?=some x)(b:N[j]?=some x):i=j:=by
 obtain⟨h1,e1⟩:=Qz.mp a
 obtain⟨h2,e2⟩:=Qz.mp b
 exact(Wa hN).mp (e1.trans e2.symm)
def zf4{M:Model}{A:No}{E:Nc}{i:Nat}{x:Str}{v:V}{u:Value}{Q:Unit→Shared→Prop}(I:QT)(hN:X.N.Nodup)(hi:X.N[i]?=some x)(hx:Loc X.env.scope x)(r:RelV v u)(h:∀s',Inv X a7 (σ.set i (QB v)) H s'→(∃a,Heap.SameBut a s.heap s'.heap∧(a=X.env.locals∨X.env.cells.lookup x=some a))→Q () s')(hf:X.fn x=true∨X.env.scope.names.lookup x=some .local:=by first | exact .inl rfl | exact .inr rfl | assumption):wpAny M A (storeName X.env x u) Q E s:=by
 obtain⟨m,hn,hl⟩:=id I.loc
 have tG:(X.env.scope.kind==.class||(X.env.scope.kind==.module&&X.env.locals != X.env.globals))=false:=by rw[I.ok.kind];rfl
 have hiσ:i<σ.length:=by rw[I.len];exact(Qz.mp hi).1
 have cne:=I.cne
 have tracked:∀{a:Nb} {h':Nm},(∃o,s.heap.get? a=some o∧H a=none)→Heap.SameBut a s.heap h'→HOk X.prog X.w H h':=λ{a h'} ha hs b ob e=>by
  obtain⟨_,_,be⟩:=ha
  refine(I.hok b ob e).stay (λc w' hc q=>(hs.2 c ?_).trans q) (λ_ q=>q) λ_ _ q=>q
  rintro rfl
  rcases hc with rfl | hc
  ·rw[be]at e;cases e
  ·rw[be]at hc;cases hc
 rcases hx with hk | hk
 ·refine wpAny_storeName_local hk hn (fun h' hn' hs=>?_) tG
  obtain⟨oL,_,_,hoL,_⟩:=id hn
  refine h _ ⟨I.ok,I.os,I.bare,⟨λb o e n hb hx=>?_,λb o e n hb hx=>?_,I.base.free,λb o e hx=>?_,I.base.tups,I.base.frzs,I.base.tbls⟩,⟨_,hn',λj y v' e1 e2 e3=>?_⟩,λy c e=>?_,I.free,I.freeC,λp hp=>?_,tracked ⟨oL,hoL,I.free⟩ hs,by simpa using I.len⟩ ⟨_,hs,QX⟩
  ·exact(hs.2 b (Zg (Zu (Qu e) I.ok.above))).trans (I.base.keep b o e n hb hx)
  ·obtain ⟨sl,e1⟩:=I.base.slot b o e n hb hx
   exact⟨sl,(hs.2 b (Zg (Zu (Qu e) I.ok.above))).trans e1⟩
  ·obtain ⟨o',e1⟩:=I.base.there b o e hx
   exact⟨o',(hs.2 b (Zg (Zu (Qu e) I.ok.above))).trans e1⟩
  ·by_cases hj:j=i
   ·subst hj
    rw[hi]at e1;cases e1
    rw[List.getElem?_set_self hiσ]at e2
    cases e2
    exact⟨u,r,.inl ⟨hk,ZM⟩⟩
   ·rw [List.getElem?_set_ne (Zn hj)] at e2
    obtain⟨u',r',q⟩:=hl j y v' e1 e2 e3
    refine⟨u',r',?_⟩
    rcases q with⟨k,e⟩ | ⟨k,c,e,z⟩
    ·refine .inl ⟨k,?_⟩
     have:y≠x:=λe=>hj (nodup_ix hN e1 (e▸hi))
     simp[this,e]
    ·exact .inr ⟨k,c,e,z.sameBut hs (cne y c e)⟩
  ·obtain ⟨w',z⟩:=I.cell y c e
   exact⟨w',z.sameBut hs (cne y c e)⟩
  ·obtain ⟨e,n,ne,nf,d⟩:=I.pin p hp
   exact⟨(hs.2 p.1 ne).trans e,n,ne,nf,d⟩
 ·have sw:X.fn x=true:=by
   rcases hf with z | z
   ·exact z
   ·rw[z]at hk;cases hk
  obtain⟨c,hc⟩:=I.ok.has x (.inl hk)
  obtain⟨w',z⟩:=I.cell x c hc
  refine wpAny_storeName_cell I.ok.kind hk hc z (λh' cn hs=>?_)
  obtain⟨oc,hoc,rO⟩:=id z
  refine h {s with heap:=h'} ⟨I.ok,I.os,I.bare,⟨λb o e n hb hx=>?_,λb o e n hb hx=>?_,I.base.free,λb o e hx=>?_,I.base.tups,I.base.frzs,I.base.tbls⟩,⟨m,hn.sameBut hs (Zn (cne x c hc)),λj y v' e1 e2 e3=>?_⟩,λy c' e=>?_,I.free,I.freeC,λp hp=>?_,tracked ⟨oc,hoc,I.freeC x c hc⟩ hs,by simpa using I.len⟩ ⟨c,hs,.inr hc⟩
  ·exact(hs.2 b (Zg (Zu (Qu e) (I.ok.cab x c sw hc)))).trans (I.base.keep b o e n hb hx)
  ·obtain ⟨sl,e1⟩:=I.base.slot b o e n hb hx
   exact⟨sl,(hs.2 b (Zg (Zu (Qu e) (I.ok.cab x c sw hc)))).trans e1⟩
  ·obtain ⟨o',e1⟩:=I.base.there b o e hx
   exact⟨o',(hs.2 b (Zg (Zu (Qu e) (I.ok.cab x c sw hc)))).trans e1⟩
  ·by_cases hj:j=i
   ·subst hj
    rw[hi]at e1;cases e1
    rw[List.getElem?_set_self hiσ]at e2
    cases e2
    exact⟨u,r,.inr ⟨.inl hk,c,hc,cn⟩⟩
   ·rw [List.getElem?_set_ne (Zn hj)] at e2
    obtain⟨u',r',q⟩:=hl j y v' e1 e2 e3
    refine⟨u',r',?_⟩
    rcases q with q | ⟨k,c',e,z'⟩
    ·exact .inl q
    ·refine .inr ⟨k,c',e,z'.sameBut hs ?_⟩
     rintro rfl
     exact hj (nodup_ix hN e1 (I.ok.inj _ _ _ e hc▸hi))
  ·by_cases ck:c'=c
   ·subst ck;exact⟨_,cn⟩
   ·obtain ⟨w2,z2⟩:=I.cell y c' e
    exact⟨w2,z2.sameBut hs ck⟩
  ·obtain ⟨e,n,ne,nf,d⟩:=I.pin p hp
   refine⟨(hs.2 p.1 ?_).trans e,n,ne,nf,d⟩
   intro q
   rw[q,hoc]at e
   have q':oc=p.2:=Qn e
   exact d w' (by rw[←q'];exact rO)
def zhv(I:QT)(hN:X.N.Nodup)(hi:X.N[i]?=some x)(hx:Loc X.env.scope x)(r:RelV v u)(h:∀s',Inv X a7 (σ.set i (QB v)) H s'→Q () s')(hf:X.fn x=true∨X.env.scope.names.lookup x=some .local:=by first | exact .inl rfl | exact .inr rfl | assumption):wpAny M A (storeName X.env x u) Q E s :=
 zf4 I hN hi hx r (λs' I' _=>h s' I') hf
def Inv.call'(I:QT)(ho:s'.os=s.os)(u:Un (frs X.stack) ch H H' s.heap s'.heap)(hok:HOk X.prog X.w H' s'.heap)(hg:AllBare s'.gens)(gw:Q9):ZA H' s':=by
 obtain⟨h',g',d',t',o'⟩:=s'
 have e:o'=s.os:=ho
 subst e
 exact I.call (g':=g') (t':=t') (d':=d') u hok hg gw
end
abbrev XK:=Value→Option Addr→Hp→Prop
abbrev St:=List (Option V)
abbrev VK:=V→Hp→Prop
abbrev TE:=St→Hp→VK→Prop
abbrev TT:=St→Hp→(Bool→Hp→Prop)→Prop
abbrev TA:=St→Hp→(List V→Hp→Prop)→Prop
structure Ends where
 nx:St→Hp→Prop
 rt:VK
 bk:St→Hp→Prop:=λ_ _=>False
 ct:St→Hp→Prop:=λ_ _=>False
abbrev TS:=Ends→St→Hp→Prop
inductive EP(X:Cx)(a7:Ng)(σ:St)(Q:VK)(u:Value)(s':Nh):Prop
 |mk (v:V) (H':Hp) (i:Inv X a7 σ H' s') (r:RelV v u) (q:Q v H'):EP X a7 σ Q u s'
inductive TP(X:Cx)(a7:Ng)(σ:St)(Q:Bool→Hp→Prop)(b:Bool)(s':Nh):Prop
 |mk (H':Hp) (i:Inv X a7 σ H' s') (q:Q b H'):TP X a7 σ Q b s'
inductive AP(X:Cx)(a7:Ng)(σ:St)(Q:List V→Hp→Prop)(us:Nj)(s':Nh):Prop
 |mk (vs:List V) (H':Hp) (i:Inv X a7 σ H' s') (r:Vals vs us) (q:Q vs H'):AP X a7 σ Q us s'
def SP(X:Cx)(a7:Ng)(D:Ends)(f:Flow)(s':Nh):Prop :=
 match f with
 |.next=>Ex2 λ σ' H'=>Aj2 (Inv X a7 σ' H' s') (D.nx σ' H')
 |.brk=>Ex2 λ σ' H'=>Aj2 (Inv X a7 σ' H' s') (D.bk σ' H')
 |.cont=>Ex2 λ σ' H'=>Aj2 (Inv X a7 σ' H' s') (D.ct σ' H')
 |.ret u=>Ex3 λv σ' H'=>Aj3 (Inv X a7 σ' H' s') (RelV v u) (D.rt v H')
def PE(X:Cx)(e:Expr)(t:TE):Prop :=
 ∀(a7:Ng) (s:Nh) (σ:St) (H:Hp) (Q:VK),ZA H s→t σ H Q→ZD (WB e) WY X.xe s
def PT(X:Cx)(e:Expr)(t:TT):Prop :=
 ∀(a7:Ng) (s:Nh) (σ:St) (H:Hp) (Q:Bool→Hp→Prop),ZA H s→t σ H Q→ZD (isTrue e X.env (WB e)) (TP X a7 σ Q) X.xe s
def PW(X:Cx)(e:Expr)(t:TT):Prop :=
 ∀(whole:Sem Value) (a7:Ng) (s:Nh) (σ:St) (H:Hp) (Q:Bool→Hp→Prop),ZA H s→t σ H Q→ZD (isTrue e X.env whole) (TP X a7 σ Q) X.xe s
def PW.pt(h:PW X e t):PT X e t:=h _
def PA(X:Cx)(es:Np)(t:TA):Prop :=
 ∀(pos:Pos) (a7:Ng) (s:Nh) (σ:St) (H:Hp) (Q:List V→Hp→Prop),ZA H s→t σ H Q→ZD (spliced (backTo pos (starEach es X.env))) (AP X a7 σ Q) X.xe s
def PS(X:Cx)(st:Stmt)(t:TS):Prop :=
 ∀(a7:Ng) (s:Nh) (σ:St) (H:Hp) (D:Ends),ZA H s→t D σ H→ZD (exec st X.env) (SP X a7 D) X.xe s
def PSs(X:Cx)(st:List Stmt)(t:TS):Prop :=
 ∀(a7:Ng) (s:Nh) (σ:St) (H:Hp) (D:Ends),ZA H s→t D σ H→ZD (execs st X.env) (SP X a7 D) X.xe s
def thn{α:Type}{t:Sem α}{Q Q':α→Shared→Prop}{M:Model}{A:No}{E:Nc}{s:Nh}(h:wpAny M A t Q E s)(hQ:∀a s,Q a s→Q' a s):wpAny M A t Q' E s:=wpAny_mono h hQ λ_ _ x=>x
end L2
namespace L2
open PySem PySem.Spec PyProof.Rows
section
variable{X:Cx}
def bin{a b:Expr}{ta tb:TE}(ha:PE X a ta)(hb:PE X b tb){a7:Ng}{s:Nh}{σ:St}{H:Hp}{R:V→V→Hp→Prop}(I:QT)(h:ta σ H λx H1=>tb σ H1 λy H2=>R x y H2){α:Type}{Q:α→Shared→Prop}{f:Value→Value→Sem α}(hf:∀v u s2 x y H2,ZA H2 s2→RelV x v→RelV y u→R x y H2→ZD (f v u) Q X.xe s2) :
  wpAny ZY X.A (WB a) (λv s₁=>ZD (WB b) (λu s₂=>ZD (f v u) Q X.xe s₂) X.xe s₁) X.xe s:=by
 refine thn (ha a7 s σ H _ I h) λv s1 ⟨x,H1,I1,r1,q1⟩=>?_
 refine thn (hb a7 s1 σ H1 _ I1 q1) λu s2 ⟨y,H2,I2,r2,q2⟩=>?_
 exact hf v u s2 x y H2 I2 r1 r2 q2
inductive RVar(o:Option (Option V))(H:Hp)(Q:VK):Prop
 |mk (v:V) (e:o=some (some v)) (q:Q v H):RVar o H Q
def tVar(i:Nat):TE:=λ σ H Q=>RVar σ[i]? H Q
def tC(v:V):TE:=λ_ H Q=>Q v H
def pe_var(hN:X.N[i]?=some x)(hv:Vis X.env.scope x)(hd:WT=false:=by decide)(aD:(x==("__classdict__" : Str))=false:=by decide):PE X (.Name x pos) (tVar i):=by
 intro a7 s σ H Q I h
 obtain⟨v,e,h⟩:=h
 obtain⟨m,hn,hl⟩:=I.loc
 obtain⟨u,r,l⟩:=hl i x v hN e hv
 have fin:EP X a7 σ Q u s:=⟨v,H,I,r,h⟩
 rcases l with⟨hk,hm⟩ | ⟨hk,c,hc,cU⟩
 ·exact wpAny_Name (wpAny_loadName_local I.ok.kind hk hn hm fin) hd
 ·rcases hk with hk | hk
  ·exact wpAny_Name (wpAny_loadName_cell I.ok.kind hk hc cU fin) hd
  ·exact wpAny_Name (wpAny_loadName_free I.ok.kind hk hc cU fin aD) hd
def zai{i j pos}:PE X (.Constant (W6 i) j pos) (tC (W6 i)):=λ_ _ _ H _ I h=>wpAny_Constant_int ⟨W6 i,H,I.tok _,⟨_,rfl⟩,h⟩
def pe_bl{b j pos}:PE X (.Constant (.bool b) j pos) (tC (.bl b)):=λ_ _ _ H _ I h=>Constant_bool ⟨.bl b,H,I,rfl,h⟩
def zgb{j pos}:PE X (.Constant .none j pos) (tC .non):=λ_ _ _ H _ I h=>Constant_none ⟨.non,H,I,rfl,h⟩
def pe_str{x j pos}:PE X (.Constant (.str x) j pos) (tC (.str x)):=λ_ _ _ H _ I h=>Calls.Constant_str ⟨.str x,H,I.tok _,⟨_,rfl⟩,h⟩
def Gl(X:Cx)(x:Str):Prop:=X.env.kindOf x=some .globalImplicit
def ld_glob(I:QT)(hg:Gl X x)(hm:X.mg x=some u)(h:Q u s)(hd:WT=false:=by decide):ZD (WB (.Name x pos)) Q E s :=
 Calls.Name_function_global I.ok.kind hg (Calls.loadGlobal_global (by rw[I.ok.glob];exact I.mod.glob.keeps I.bk) hm h) hd
def zgk(I:QT)(hg:Gl X x)(hm:X.mg x=none)(hv:bootBuiltins x=some u)(h:Q u s)(hn:x ≠ "__name__" := by decide)(hd:WT=false:=by decide):ZD (WB (.Name x pos)) Q E s:=by
 obtain⟨mb,h1,h2⟩:=I.mod.blt
 exact Calls.Name_function_global I.ok.kind hg (Calls.loadGlobal_builtin (by rw[I.ok.glob];exact I.mod.glob.keeps I.bk) hm (by rw[I.ok.blt];exact h1.keeps I.bk) ((h2 x hn).trans hv) h) hd
def zge(hg:Gl X x)(hm:X.mg x=some u)(r:RelV v u)(hd:WT=false:=by decide):PE X (.Name x pos) (tC v) :=
 λ_ _ _ H _ I h=>ld_glob I hg hm ⟨v,H,I,r,h⟩ hd
variable{a b:Expr}{ta tb:TE}{pos:Pos}
def PC(X:Cx)(op:CmpOp)(a b:Expr)(t:TE):Prop :=
 ∀(a7:Ng) (s:Nh) (σ:St) (H:Hp) (Q:VK),ZA H s→t σ H Q →
  wpAny ZY X.A (WB a) (λv s₁=>ZD (WB b) (λu s₂=>ZD (compareOp op v u) WY X.xe s₂) X.xe s₁) X.xe s
def nobehind(b:Expr){op:CmpOp}(h:op≠.In)(h2:op≠.NotIn):behindInMarks op b=false:=by
 have e1:(op==CmpOp.In)=false:=by cases op<;>first | rfl | exact absurd rfl h
 have e2:(op==CmpOp.NotIn)=false:=by cases op<;>first | rfl | exact absurd rfl h2
 cases b<;>simp[behindInMarks,e1,e2]
def tIsN(ta:TE):TE:=λ σ H Q=>ta σ H λx H1=>Q (.bl (decide (x=.non))) H1
def tNotN(ta:TE):TE:=λ σ H Q=>ta σ H λx H1=>Q (.bl (!decide (x=.non))) H1
def RelV.none_iff{x:V}{v:Value}(r:RelV x v):(v==Value.none)=decide (x=.non):=by
 cases x with
 |non=>cases r;rfl
 |bl _=>cases r;rfl
 |int _=>obtain⟨t,rfl⟩:=r;rfl
 |str _=>obtain⟨t,rfl⟩:=r;rfl
 |byt _=>obtain⟨t,rfl⟩:=r;rfl
 |flt _=>obtain⟨t,rfl⟩:=r;rfl
 |ref _=>cases r;rfl
 |ty _=>cases r;rfl
def pc_isN{j aE}(ha:PE X a ta):PC X .Is a (.Constant .none j aE) (tIsN ta):=by
 intro a7 s σ H Q I h
 refine thn (ha a7 s σ H _ I h) λv s1 ⟨x,H1,I1,r1,q1⟩=>?_
 exact Constant_none (is_none_gen ⟨.bl _,H1,I1,by rw[r1.none_iff];rfl,q1⟩)
def zgf{j aE}(ha:PE X a ta):PC X .IsNot a (.Constant .none j aE) (tNotN ta):=by
 intro a7 s σ H Q I h
 refine thn (ha a7 s σ H _ I h) λv s1 ⟨x,H1,I1,r1,q1⟩=>?_
 exact Constant_none (isnot_none_gen ⟨.bl _,H1,I1,by rw[r1.none_iff];rfl,q1⟩)
inductive RB(x:V)(H:Hp)(Q:Bool→Hp→Prop):Prop
 |mk (c:Bool) (e:x=.bl c) (q:Q c H):RB x H Q
def tB(t:TE):TT:=λ σ H Q=>t σ H λx H1=>RB x H1 Q
def zcm{op:CmpOp}{t:TE}(h:PC X op a b t)(h1:behindInMarks op b=false:=by first | exact nobehind _ ZU ZU | rfl):PT X (.Compare a [op] [b] pos) (tB t):=by
 intro a7 s σ H Q I hw
 refine wpAny_isTrue_Compare1 (thn (h a7 s σ H _ I hw) λv s1 h1=>thn h1 λu s2 h2=>thn h2 λc s3 ⟨x,H1,I1,r1,q1⟩=>?_) h1
 obtain⟨d,rfl,q⟩:=q1
 cases r1
 exact wpAny_truthy_bool ⟨H1,I1,q⟩
def pt_val{e:Expr}{t:TE}(h:PE X e t)(he:∀whole,isTrue e X.env whole=(do let v ←whole;standAt e.pos;holding [v] (truthy v)):=by intro _;rfl):PT X e (tB t):=by
 intro a7 s σ H Q I hw
 refine isTrue_plain (thn (h a7 s σ H _ I hw) λv s1 ⟨x,H1,I1,r1,q1⟩=>?_) (he _)
 obtain⟨d,rfl,q⟩:=q1
 cases r1
 exact wpAny_truthy_bool ⟨H1,I1,q⟩
variable{tA om:TT}{rest:Np}
def tAnd(t u:TT):TT:=λ σ H Q=>t σ H λc H1=>if c=true then u σ H1 Q else Q false H1
def tOr(t u:TT):TT:=λ σ H Q=>t σ H λc H1=>if c=true then Q true H1 else u σ H1 Q
def tNot(t:TT):TT:=λ σ H Q=>t σ H λc H1=>Q (!c) H1
def zh7(ha:PT X a tA):PW X (.BoolOp .And [a] pos) tA:=by
 intro wh a7 s σ H Q I h
 refine isTrue_and (thn (ha a7 s σ H Q I h) λc s1 e=>?_)
 cases c with
 |true=>exact isTrue_and_nil e
 |false=>exact e
def pw_or1(ha:PT X a tA):PW X (.BoolOp .Or [a] pos) tA:=by
 intro wh a7 s σ H Q I h
 refine isTrue_or (thn (ha a7 s σ H Q I h) λc s1 e=>?_)
 cases c with
 |false=>exact isTrue_or_nil e
 |true=>exact e
def pw_and(ha:PT X a tA)(hb:PW X (.BoolOp .And (b::rest) pos) om):PW X (.BoolOp .And (a::b::rest) pos) (tAnd tA om):=by
 intro wh a7 s σ H Q I h
 refine isTrue_and (thn (ha a7 s σ H _ I h) λc s1 ⟨H1,I1,q1⟩=>?_)
 cases c with
 |true=>exact hb wh a7 s1 σ H1 Q I1 q1
 |false=>exact⟨H1,I1,q1⟩
def pw_or(ha:PT X a tA)(hb:PW X (.BoolOp .Or (b::rest) pos) om):PW X (.BoolOp .Or (a::b::rest) pos) (tOr tA om):=by
 intro wh a7 s σ H Q I h
 refine isTrue_or (thn (ha a7 s σ H _ I h) λc s1 ⟨H1,I1,q1⟩=>?_)
 cases c with
 |true=>exact⟨H1,I1,q1⟩
 |false=>exact hb wh a7 s1 σ H1 Q I1 q1
def pt_not(ha:PT X a tA):PT X (.UnaryOp .Not a pos) (tNot tA):=by
 intro a7 s σ H Q I h
 exact isTrue_not (wpAny_mono (ha a7 s σ H (λc H1=>Q (!c) H1) I h) (λc s2 z=>by obtain⟨a,b,d⟩:=z;exact⟨a,b,d⟩) λ_ _ e=>e)
def tAndV(ta tb:TE):TE:=λ σ H Q=>ta σ H λx H1=>RB x H1 λc H1=>if c=true then tb σ H1 Q else Q (.bl false) H1
def pe_one{op}(h:PE X a t):PE X (.BoolOp op [a] pos) t:=λa7 s σ H Q I hw=>BoolOp_one (h a7 s σ H Q I hw)
def pe_and(ha:PE X a ta)(hb:PE X (.BoolOp .And (b::rest) pos) tb):PE X (.BoolOp .And (a::b::rest) pos) (tAndV ta tb):=by
 intro a7 s σ H Q I h
 refine BoolOp_and (thn (ha a7 s σ H _ I h) λv s1 ⟨x,H1,I1,r1,q1⟩=>?_)
 obtain⟨c,rfl,q1⟩:=q1
 cases r1
 refine wpAny_truthy_bool ?_
 cases c with
 |true=>exact hb a7 s1 σ H1 Q I1 q1
 |false=>exact⟨.bl false,H1,I1,rfl,q1⟩
def tIf(t:TT)(ta tb:TE):TE:=λ σ H Q=>t σ H λc H1=>if c=true then ta σ H1 Q else tb σ H1 Q
def pe_ifExp{c:Expr}(hc:PT X c tA)(ha:PE X a ta)(hb:PE X b tb):PE X (.IfExp c a b pos) (tIf tA ta tb):=by
 intro a7 s σ H Q I h
 refine wpAny_IfExp (thn (hc a7 s σ H _ I h) λd s1 ⟨H1,I1,q1⟩=>?_)
 cases d with
 |true=>exact ha a7 s1 σ H1 Q I1 q1
 |false=>exact hb a7 s1 σ H1 Q I1 q1
end
end L2
namespace L2
open PySem PySem.Spec PyProof.Rows
def SqL(K:Na)(H:Hp)(a:Nb)(xs:List V):Prop :=
 Rd H a (QZ xs) ∨
  ∃(o:Obj) (a9:Array Value) (n:Nat),K.lookup a=some o∧o.cls=.type "list" ∧ o.dict=none∧o.data=.seq a9 n∧a9.size≤sizeLine∧Vals xs a9.toList
def SqT(K:Na)(H:Hp)(a:Nb)(xs:List V):Prop :=
 Rd H a (.tup xs) ∨
  ∃(o:Obj) (a9:Array Value) (n:Nat),K.lookup a=some o∧o.cls=.type "tuple" ∧ o.data=.seq a9 n∧a9.size≤sizeLine∧Vals xs a9.toList
def absV:Value→Option V
 |.none=>some .non
 |.bool b=>some (.bl b)
 |.int i _=>some (W6 i)
 |.str x _=>some (.str x)
 |.bytes b _=>some (.byt b)
 |.float b _=>some (.flt b)
 |.ref a=>some (ZZ a)
 |.type n=>some (.ty n)
 |_=>none
def RelV.abs(r:RelV x u):absV u=some x:=by
 cases x with
 |non=>cases r;rfl
 |bl _=>cases r;rfl
 |int _=>obtain⟨t,rfl⟩:=r;rfl
 |str _=>obtain⟨t,rfl⟩:=r;rfl
 |byt _=>obtain⟨t,rfl⟩:=r;rfl
 |flt _=>obtain⟨t,rfl⟩:=r;rfl
 |ref _=>cases r;rfl
 |ty _=>cases r;rfl
def RelV.inj{x y:V}{u:Value}(r:RelV x u)(q:RelV y u):x=y:=Qn (r.abs.symm.trans q.abs)
theorem Vals.inj:∀{xs ys:List V} {us:Nj},Vals xs us→Vals ys us→xs=ys
 |_,_,_,.nil,.nil=>rfl
 |_,_,_,.cons r t,.cons r' t'=>by rw[r.inj r',Vals.inj t t']
section
variable{X:Cx}{a7:Ng}{σ:St}{H:Hp}{s:Nh}{a:Nb}{xs ys:List V}
def SqL.of{K:Na}(h:H a=some (QZ xs)):SqL K H a xs:=.inl (.inl h)
def SqT.of{K:Na}(h:H a=some (.tup xs)):SqT K H a xs:=.inl (.inl h)
def Inv.list(I:QT)(h:SqL X.K H a xs):∃a9:List Value,Vals xs a9∧PlainL s.heap a a9.toArray∧xs.length≤sizeLine:=by
 rcases h with h | ⟨o,a9,n,hk,hc,hd,hs,hz,r⟩
 ·obtain ⟨z,a9,n,r,e⟩:=h.ok I.hok
  exact⟨a9,r,⟨_,n,e,rfl,rfl,rfl⟩,z⟩
 ·refine ⟨a9.toList,r,⟨o,n,I.kIn a o hk,hc,hd,ZR hs⟩,?_⟩
  have e:=r.length
  simp only[Wm]at e
  lia
def Inv.tuple(I:QT)(h:SqT X.K H a xs):∃a9:List Value,Vals xs a9∧IsTup s.heap a a9.toArray∧xs.length≤sizeLine:=by
 rcases h with h | ⟨o,a9,n,hk,hc,hs,hz,r⟩
 ·obtain ⟨z,a9,r,p⟩:=h.ok I.hok
  exact⟨a9,r,p,z⟩
 ·refine ⟨a9.toList,r,⟨o,I.kIn a o hk,hc,n,ZR hs⟩,?_⟩
  have e:=r.length
  simp only[Wm]at e
  lia
def Inv.list_inj(I:QT)(h:SqL X.K H a xs)(h':SqL X.K H a ys):xs=ys:=by
 obtain⟨a9,r,⟨o,n,e,_,_,d⟩,_⟩:=I.list h
 obtain⟨its',r',⟨o',n',e',_,_,d'⟩,_⟩:=I.list h'
 rw[e]at e';cases e'
 rw[d]at d'
 injection d' with d1 _
 have:a9=its':=by simpa using congrArg Array.toList d1
 subst this
 exact r.inj r'
def Inv.tuple_inj(I:QT)(h:SqT X.K H a xs)(h':SqT X.K H a ys):xs=ys:=by
 obtain⟨a9,r,⟨o,e,_,n,d⟩,_⟩:=I.tuple h
 obtain⟨its',r',⟨o',e',_,n',d'⟩,_⟩:=I.tuple h'
 rw[e]at e';cases e'
 rw[d]at d'
 injection d' with d1 _
 have:a9=its':=by simpa using congrArg Array.toList d1
 subst this
 exact r.inj r'
end
abbrev Cx.wish(X:Cx)(E:Nc):Cx:={X with xe:=E}
abbrev Cx.nox(X:Cx):Cx:=X.wish λ_ _=>False
def Cx.Ok.wish{X:Cx}(ok:X.Ok)(E:Nc):(X.wish E).Ok :=
 ⟨ok.mod,ok.kind,ok.glob,ok.blt,ok.above,ok.inj,ok.has,ok.cab,ok.hd,ok.frames,ok.stk,ok.exf,ok.bs,ok.bsz,ok.noex,ok.exfs,ok.funs,ok.frf⟩
def Cx.Ok.unwish{X:Cx}{E:Nc}(ok:(X.wish E).Ok):X.Ok :=
 ⟨ok.mod,ok.kind,ok.glob,ok.blt,ok.above,ok.inj,ok.has,ok.cab,ok.hd,ok.frames,ok.stk,ok.exf,ok.bs,ok.bsz,ok.noex,ok.exfs,ok.funs,ok.frf⟩
section
variable{X:Cx}{a7:Ng}{σ:St}{H:Hp}{s:Nh}{E:Nc}
def Inv.wish(I:QT)(E:Nc):Inv (X.wish E) a7 σ H s:=⟨I.ok.wish E,I.os,I.bare,I.base,I.loc,I.cell,I.free,I.freeC,I.pin,I.hok,I.len⟩
def Inv.unwish(I:Inv (X.wish E) a7 σ H s):ZA H s:=⟨I.ok.unwish,I.os,I.bare,I.base,I.loc,I.cell,I.free,I.freeC,I.pin,I.hok,I.len⟩
def SP.unwish(h:SP (X.wish E) a7 D f s'):SP X a7 D f s':=by
 cases f with
 |next=>obtain⟨σ',H',I,q⟩:=h;exact⟨σ',H',I.unwish,q⟩
 |brk=>obtain⟨σ',H',I,q⟩:=h;exact⟨σ',H',I.unwish,q⟩
 |cont=>obtain⟨σ',H',I,q⟩:=h;exact⟨σ',H',I.unwish,q⟩
 |ret u=>obtain⟨v,σ',H',I,r,q⟩:=h;exact⟨v,σ',H',I.unwish,r,q⟩
def PSs.nox{st:List Stmt}{t:TS}(h:PSs X.nox st t):PSs X st t:=λa7 s σ H D I hw =>
 wpAny_mono (h a7 s σ H D (I.wish _) hw) (λ_ _ q=>q.unwish) λ_ _ z=>False.elim z
end
section
variable{X:Cx}{st:Stmt}{rest:List Stmt}{t u:TS}{e:Expr}{te:TE}{pos:Pos}
def tNext:TS:=λD σ H=>D.nx σ H
def tSeq(t u:TS):TS:=λD σ H=>t {D with nx:=u D} σ H
def zas:PSs X [] tNext:=λ_ _ σ H _ I h=>wpAny_execs_nil ⟨σ,H,I,h⟩
def zad(h1:PS X st t)(h2:PSs X rest u):PSs X (st::rest) (tSeq t u):=by
 intro a7 s σ H D I h
 refine wpAny_execs_cons (thn (h1 a7 s σ H {D with nx:=u D} I h) λf s1 q=>?_)
 cases f with
 |next =>
  obtain⟨σ',H',I',q⟩:=q
  exact h2 a7 s1 σ' H' D I' q
 |ret v=>exact q
 |brk=>exact q
 |cont=>exact q
def zah(h1:PS X st t):PSs X [st] t:=by
 intro a7 s σ H D I h
 refine wpAny_execs_cons (thn (h1 a7 s σ H D I h) λf s1 q=>?_)
 cases f with
 |next=>exact wpAny_execs_nil q
 |ret v=>exact q
 |brk=>exact q
 |cont=>exact q
def tBreak:TS:=λD σ H=>D.bk σ H
def ps_break:PS X (.Break pos) tBreak:=λ_ _ σ H _ I h=>wpAny_Break ⟨σ,H,I,h⟩
def Inv.quiet{a7:Ng}{σ:St}{H:Hp}{s:Nh}(I:QT):interactive X.env=false:=by simp[interactive,I.ok.kind]
def tDrop(te:TE):TS:=λD σ H=>te σ H λ_ H1=>D.nx σ H1
def zbj(he:PE X e te)(hs:swapsWith e none pos.line X.env=pure false:=by rfl):PS X (.Expr e pos) (tDrop te):=by
 intro a7 s σ H D I h
 exact wpAny_Expr_any (thn (he a7 s σ H _ I h) λv s1 ⟨x,H1,I1,r1,q1⟩=>⟨σ,H1,I1,q1⟩) I.quiet hs
def tRet(te:TE):TS:=λD σ H=>te σ H D.rt
def zau(he:PE X e te):PS X (.Return (QB e) pos) (tRet te):=by
 intro a7 s σ H D I h
 exact wpAny_Return_some (thn (he a7 s σ H _ I h) λv s1 ⟨x,H1,I1,r1,q1⟩=>⟨x,σ,H1,I1,r1,q1⟩)
def tIfS(c:TT)(t u:TS):TS:=λD σ H=>c σ H λb H1=>if b=true then t D σ H1 else u D σ H1
def zb0{c:Expr}{a b:List Stmt}{tc:TT}(hc:PT X c tc)(ha:PSs X a t)(hb:PSs X b u):PS X (.If c a b pos) (tIfS tc t u):=by
 intro a7 s σ H D I h
 refine wpAny_If (thn (hc a7 s σ H _ I h) λd s1 ⟨H1,I1,q1⟩=>?_)
 cases d with
 |true=>exact ha a7 s1 σ H1 D I1 q1
 |false=>exact hb a7 s1 σ H1 D I1 q1
end
abbrev TG:=V→St→Hp→(St→Hp→Prop)→Prop
abbrev TGs:=List V→St→Hp→(St→Hp→Prop)→Prop
def PG(X:Cx)(target:Expr)(t:TG):Prop :=
 ∀(a7:Ng) (s:Nh) (σ:St) (H:Hp) (v:V) (u:Value) (Q:St→Hp→Prop),ZA H s→RelV v u→t v σ H Q →
  wpAny ZY X.A (assign target X.env u) (λ_ s'=>Ex2 λ σ' H'=>Aj2 (Inv X a7 σ' H' s') (Q σ' H')) X.xe s
def PGs(X:Cx)(ts:Np)(t:TGs):Prop :=
 ∀(a7:Ng) (s:Nh) (σ:St) (H:Hp) (vs:List V) (us:Nj) (Q:St→Hp→Prop),ZA H s→Vals vs us→t vs σ H Q →
  wpAny ZY X.A (assignInOrder ((assignEach ts X.env).map (·.2)) us) (λ_ s'=>Ex2 λ σ' H'=>Aj2 (Inv X a7 σ' H' s') (Q σ' H')) X.xe s
abbrev TSet:=V→V→V→Hp→(Hp→Prop)→Prop
def PSet(X:Cx)(t:TSet):Prop :=
 ∀(a7:Ng) (s:Nh) (σ:St) (H:Hp) (o i v:V) (ov iv u:Value) (Q:Hp→Prop),ZA H s→RelV o ov→RelV i iv→RelV v u→t o i v H Q →
  wpAny ZY X.A (setItem ov iv u) (λ_ s'=>∃H',ZA H' s'∧Q H') X.xe s
abbrev TIp:=V→V→Hp→VK→Prop
def PIp(X:Cx)(op:Operator)(t:TIp):Prop :=
 ∀(a7:Ng) (s:Nh) (σ:St) (H:Hp) (x y:V) (v u:Value) (Q:VK),ZA H s→RelV x v→RelV y u→t x y H Q →
  wpAny ZY X.A (inplaceOp op v u) WY X.xe s
section
variable{X:Cx}{pos:Pos}
def ze9(i:Nat):TG:=λv σ H Q=>Q (σ.set i (QB v)) H
def pg_name(hN:X.N.Nodup)(hi:X.N[i]?=some x)(hx:Loc X.env.scope x)(hf:X.fn x=true∨X.env.scope.names.lookup x=some .local:=by first | exact .inl rfl | exact .inr rfl | assumption):PG X (.Name x pos) (ze9 i):=by
 intro a7 s σ H v u Q I r h
 exact wpAny_assign_Name (zhv I hN hi hx r (λs' I'=>⟨_,H,I',h⟩) hf)
def gNil:TGs:=λvs σ H Q=>vs=[]∧Q σ H
inductive RGC(vs:List V)(R:V→List V→Prop):Prop
 |mk (v:V) (r:List V) (e:vs=v::r) (q:R v r):RGC vs R
def gCons(t:TG)(u:TGs):TGs:=λvs σ H Q=>RGC vs λv r=>t v σ H λ σ' H'=>u r σ' H' Q
def zbq:PGs X [] gNil:=by
 intro a7 s σ H vs us Q I r h
 obtain⟨e,h⟩:=h
 subst e
 cases r
 exact assignInOrder_nil ⟨σ,H,I,h⟩
def zaj{e:Expr}{es:Np}{t:TG}{u:TGs}(h1:PG X e t)(h2:PGs X es u)(hs:(assignEach (e::es) X.env).map (·.2)=assign e X.env::(assignEach es X.env).map (·.2):=by rfl):PGs X (e::es) (gCons t u):=by
 intro a7 s σ H vs us Q I r h
 obtain⟨v,vr,e1,h⟩:=h
 subst e1
 cases r with
 |cons r rr =>
  rw[hs]
  refine assignInOrder_cons (thn (h1 a7 s σ H _ _ _ I r h) λ_ s1 ⟨σ1,H1,I1,q1⟩=>?_)
  exact h2 a7 s1 σ1 H1 _ _ Q I1 rr q1
inductive RGT(K:Na)(n:Nat)(v:V)(H:Hp)(R:List V→Prop):Prop
 |mk (a:Nb) (xs:List V) (e:v=.ref a) (s:SqT K H a xs) (l:xs.length=n) (q:R xs):RGT K n v H R
def gTup(K:Na)(n:Nat)(t:TGs):TG:=λv σ H Q=>RGT K n v H λxs=>t xs σ H Q
def zcp(hc:X.calm=true)(h:PGs X es t)(hn:(assignEach es X.env).length=n:=by rfl)(ap:(assignEach es X.env).findIdx? (·.1)=none:=by rfl):PG X (.Tuple es k pos) (gTup X.K n t):=by
 intro a7 s σ H v u Q I r hw
 obtain⟨a,xs,e1,hq,hl,hw⟩:=hw
 subst e1
 cases r
 obtain⟨a9,rv,ht,hz⟩:=I.tuple hq
 refine assign_Tuple_tuple (I.ok.hd hc) ht (by simp[hn,←hl,rv.length]) ap λh' hx=>?_
 have I1:ZA H {s with heap:=h'}:=I.kept (t':=s.toks) λb o e=>hx b o (Zg (Qu e)) e
 exact h a7 _ σ H xs _ Q I1 (ZR rv) hw
def gSub(to ti:TE)(t:TSet):TG:=λv σ H Q=>to σ H λo H1=>ti σ H1 λi H2=>t o i v H2 λH3=>Q σ H3
def pg_sub{o i:Expr}{to ti:TE}{t:TSet}(ho:PE X o to)(hi:PE X i ti)(hs:PSet X t)(ha:∀ v,assign (.Subscript o i pos) X.env v=(do
   let ov ←holding [v] (WB o)
   let iv ←holding [v,ov] (WB i)
   standAt pos
   holding [v,ov,iv] (setItem ov iv v)
   release [v,ov,iv] []):=by intro _;rfl):PG X (.Subscript o i pos) (gSub to ti t):=by
 intro a7 s σ H v u Q I r h
 rw[ha]
 refine wpAny_bind (wpAny_holding (thn (ho a7 s σ H _ I h) λov s1 ⟨x,H1,I1,r1,q1⟩=>?_))
 refine wpAny_bind (wpAny_holding (thn (hi a7 s1 σ H1 _ I1 q1) λiv s2 ⟨y,H2,I2,r2,q2⟩=>?_))
 refine wpAny_bind (wpAny_standAt (wpAny_bind (wpAny_holding (thn (hs a7 s2 σ H2 x y v ov iv u _ I2 r1 r2 r q2) λ_ s3 ⟨H3,I3,q3⟩=>?_))))
 exact wpAny_release ⟨σ,H3,I3,q3⟩
def tAsg(te:TE)(g:TG):TS:=λD σ H=>te σ H λx H1=>g x σ H1 D.nx
def zd1{tg e:Expr}{te:TE}{g:TG}(he:PE X e te)(hg:PG X tg g)(hs:swapsWithSole [tg] e pos.line X.env=pure false:=by rfl)(hw:swappedStores [tg] e X.env=pure none:=by rfl)(h1:(assignEach [tg] X.env).map (·.2)=[assign tg X.env]:=by rfl):PS X (.Assign [tg] e pos) (tAsg te g):=by
 intro a7 s σ H D I h
 refine wpAny_Assign_stores (thn (he a7 s σ H _ I h) λv s1 ⟨x,H1,I1,r1,q1⟩=>?_) hs hw
 rw[h1]
 exact thn (hg a7 s1 σ H1 x v _ I1 r1 q1) λ_ s2 q=>q
def zff{i:Nat}{x:Str}{e:Expr}{te:TE}{aE:Pos}(hN:X.N.Nodup)(hi:X.N[i]?=some x)(hx:Loc X.env.scope x)(he:PE X e te)(hs:swapsWith e (QB (.Name x aE)) pos.line X.env=pure false:=by rfl)(hf:X.fn x=true∨X.env.scope.names.lookup x=some .local:=by first | exact .inl rfl | exact .inr rfl | assumption) :
  PS X (.Assign [.Name x aE] e pos) (tAsg te (ze9 i)):=by
 intro a7 s σ H D I h
 refine wpAny_Assign_Name (thn (he a7 s σ H _ I h) λv s1 ⟨y,H1,I1,r1,q1⟩=>?_) hs
 exact zhv I1 hN hi hx r1 (λs2 I2=>⟨_,H1,I2,q1⟩) hf
def tAug(i:Nat)(te:TE)(ti:TIp):TS:=λD σ H=>∃x,σ[i]?=some (QB x)∧te σ H λy H1=>ti x y H1 λz H2=>D.nx (σ.set i (QB z)) H2
def ps_aug(hN:X.N.Nodup)(hi:X.N[i]?=some x)(hx:Loc X.env.scope x)(he:PE X e te)(ho:PIp X op ti)(hf:X.fn x=true∨X.env.scope.names.lookup x=some .local:=by first | exact .inl rfl | exact .inr rfl | assumption) :
  PS X (.AugAssign (.Name x aE) op e pos) (tAug i te ti):=by
 intro a7 s σ H D I h
 obtain⟨v,e1,h⟩:=h
 obtain⟨m,hn,hl⟩:=I.loc
 have vis:Vis X.env.scope x:=by rcases hx with k | k;exact .inl k;exact .inr (.inl k)
 obtain⟨u,r,l⟩:=hl i x v hi e1 vis
 refine wpAny_AugAssign_Name ?_
 have go:ZD (WB e) (λw s₂=>ZD (inplaceOp op u w) (λr s₃=>ZD (storeName X.env x r) (λ_=>SP X a7 D .next) X.xe s₃) X.xe s₂) X.xe s:=by
  refine thn (he a7 s σ H _ I h) λw s1 ⟨y,H1,I1,r1,q1⟩=>?_
  refine thn (ho a7 s1 σ H1 v y u w _ I1 r r1 q1) λz s2 ⟨zv,H2,I2,r2,q2⟩=>?_
  exact zhv I2 hN hi hx r2 (λs3 I3=>⟨_,H2,I3,q2⟩) hf
 rcases l with⟨hk,hm⟩ | ⟨hk,c,hc,cU⟩
 ·exact wpAny_loadName_local I.ok.kind hk hn hm go
 ·rcases hk with hk | hk
  ·exact wpAny_loadName_cell I.ok.kind hk hc cU go
  ·rcases hx with k | k
   ·have:X.env.scope.names.lookup x=some .free:=hk
    rw[k]at this;cases this
   ·have:X.env.scope.names.lookup x=some .free:=hk
    rw[k]at this;cases this
def ipI(f:Int→Int→Int):TIp:=λx y H Q=>∃i j,x=.int i∧y=.int j∧Q (W6 (f i j)) H
def ip_add:PIp X .Add (ipI λi j=>i+j):=by
 intro a7 s σ H x y v u Q I r1 r2 h
 obtain⟨i,j,e1,e2,q⟩:=h
 subst e1;subst e2
 obtain⟨t,rfl⟩:=r1
 obtain⟨t',rfl⟩:=r2
 exact iadd_int ⟨W6 _,H,I.tok _,⟨_,rfl⟩,q⟩
def tWhile(c:TT)(tb:TS):TS:=λD σ H=>∃W:Nat→St→Hp→Prop,(∃m,W m σ H)∧∀m σ H,W m σ H →
 c σ H λb H1=>if b=true then ∃N:St→Hp→Prop,(∀σ' H',N σ' H'→∃m',m'<m∧W m' σ' H')∧tb {D with nx:=N,ct:=N,bk:=D.nx} σ H1 else D.nx σ H1
def zem(hp:PassesOwn ZY X.A X.env X.xe)(hc:PT X c tc)(hb:PSs X body tb):PS X (.While c body [] pos) (tWhile tc tb):=by
 intro a7 s σ H D I h
 obtain⟨W,⟨m0,w0⟩,turn⟩:=h
 refine wpAny_While (codeAny_whileLoop (λn s'=>∃σ' H',Inv X a7 σ' H' s'∧W n σ' H') ?_ m0 ⟨σ,H,I,w0⟩)
 rintro n s1 ⟨σ1,H1,I1,w1⟩
 refine wpAny_passesOwn hp (thn (hc a7 s1 σ1 H1 _ I1 (turn n σ1 H1 w1)) λb s2 ⟨H2,I2,q2⟩=>?_)
 cases b with
 | true =>
  obtain⟨N,hN,q2⟩:=q2
  rw[if_pos rfl]
  refine wpAny_passesOwn hp (thn (hb a7 s2 σ1 H2 _ I2 q2) λf s3 q3=>?_)
  cases f with
  |next =>
   obtain⟨σ3,H3,I3,n3⟩:=q3
   obtain⟨m',hm,w3⟩:=hN σ3 H3 n3
   exact⟨m',hm,σ3,H3,I3,w3⟩
  |cont =>
   obtain⟨σ3,H3,I3,n3⟩:=q3
   obtain⟨m',hm,w3⟩:=hN σ3 H3 n3
   exact⟨m',hm,σ3,H3,I3,w3⟩
  |brk=>exact q3
  |ret v=>exact q3
 |false =>
  rw[if_neg Zh]
  exact wpAny_execs_nil ⟨σ1,H2,I2,q2⟩
end
structure It where
 go:Nat→Hp→Prop
 yld:Nat→Hp→V→Hp→Prop
 stop:Nat→Hp→Prop
def FpOk(X:Cx)(a7:Ng)(H:Hp)(b:Nb):Prop :=
 H b=none∧b≠X.env.locals∧b∉X.fs∧(b∈X.ex∨X.s₀.heap.objs.size≤b)∧(∀x c,X.env.cells.lookup x=some c→c≠b)∧∀p∈X.pn++a7,p.1≠b
def Inv.fpOk{X:Cx}{a7:Ng}{σ:St}{H H':Hp}{s:Nh}{b:Nb}(I:QT)(hb:s.heap.objs.size≤b)(hn:H' b=none):FpOk X a7 H' b:=by
 refine⟨hn,Yp (Zu I.lt hb),I.nofs hb,.inr (Zi I.sz hb),λx c e z=>?_,λp hp z=>?_⟩
 ·obtain ⟨v,q⟩:=I.cell x c e
  exact absurd (Zu q.lt (Z2 z hb)) (Ys _)
 ·exact absurd (Zu (Qu (I.pin p hp).1) (Z2 z hb)) (Ys _)
structure Turn(P:Ni)(w:Nk)(K:Na)(tg:Expr)(J:It)(fp:Nl)(it:Nb)(tn:Nat→Heap→Prop):Prop where
 mem:it∈fp
 obj:∀i h,tn i h→∀b∈fp,∃o,h.get? b=some o∧∀v,o.data≠.cell v
 keep:∀i h h',tn i h→(∀b∈fp,∀o,h.get? b=some o→h'.get? b=some o)→tn i h'
 item:∀(X:Cx),X.prog=P→X.w=w→X.K=K→X.calm=true→∀(i:Nat) (a7:Ng) (s:Nh) (σ:St) (H:Hp) (E:Nc),ZA H s→(∀b∈fp,FpOk X a7 H b)→tn i s.heap→J.go i H →
  wpAny (model P w) X.A (pyNext (ZZ it)) (λr s1=>∃u,r=some u ∧
   wpAny (model P w) X.A (letOwnedTupleGo tg (ZZ it) u) (λ_ s2=>∃x H',ZA H' s2∧RelV x u∧J.yld i H x H'∧tn QY s2.heap∧∀b∈fp,H' b=none) E s1) E s
 done:∀(X:Cx),X.prog=P→X.w=w→X.K=K→X.calm=true→∀(i:Nat) (a7:Ng) (s:Nh) (σ:St) (H:Hp) (E:Nc),ZA H s→(∀b∈fp,FpOk X a7 H b)→tn i s.heap→J.stop i H →
  wpAny (model P w) X.A (pyNext (ZZ it)) (λr s1=>r=none∧ZA H s1) E s
 self:∀(A:No) (i:Nat) (s:Nh) (Q:Nc) (E:Nc),tn i s.heap→Q (ZZ it) s→wpAny (model P w) A (pyIter (ZZ it)) Q E s
abbrev TI:=St→Hp→(It→Hp→Prop)→Prop
inductive PIE(X:Cx)(a7:Ng)(σ:St)(tg:Expr)(R:It→Hp→Prop)(itv:Value)(s2:Nh):Prop
 |mk (it:Nb) (fp:Nl) (tn:Nat→Heap→Prop) (J:It) (H':Hp) (h0:itv=.ref it) (h1:Inv X a7 σ H' s2) (h2:Turn X.prog X.w X.K tg J fp it tn) (h3:tn 0 s2.heap) (h4:(∀b∈fp,FpOk X a7 H' b)) (h5:R J H'):PIE X a7 σ tg R itv s2
def PI(X:Cx)(tg iter:Expr)(wi:TI):Prop :=
 ∀(a7:Ng) (s:Nh) (σ:St) (H:Hp) (R:It→Hp→Prop),ZA H s→wi σ H R →
  wpAny ZY X.A (eval iter X.env) (λv s1=>ZD (pyIter v) (PIE X a7 σ tg R) X.xe s1) X.xe s
def go_of(ho:s.heap.get? it=some o)(hc:o.cls=.type n)(hd:o.data=.fields vs)(hn:["enumerate", "zip", "dict_itemiterator", "dict_reverseitemiterator", "odict_iterator", "itertools.zip_longest", "itertools.pairwise"].contains n=false)(hQ:Q () s):wpAny M A (letOwnedTupleGo tg (ZZ it) u) Q E s:=by
 unfold letOwnedTupleGo
 cases tg <;> first
  |exact wpAny_pure hQ
  | (cases u <;> first
    |exact wpAny_pure hQ
    | (refine wpAny_bind (wpAny_load ho ?_)
       rw[hc,hd]
       show wpAny M A (if(["enumerate", "zip", "dict_itemiterator", "dict_reverseitemiterator", "odict_iterator", "itertools.zip_longest", "itertools.pairwise"].contains n&&vs[0]?==some (rawInt _))=true then _ else _) Q E s
       rw[if_neg (by intro h;rw[hn,Bool.false_and]at h;cases h)]
       exact wpAny_pure hQ))
def Itl(K:Na)(a:Nb):It :=
 ⟨λi H=>∃xs x,SqL K H a xs∧xs[i]?=some x,λi H x H'=>H'=H∧∀xs,SqL K H a xs→xs[i]?=some x,λi H=>∃xs,SqL K H a xs∧xs.length≤i⟩
def Itt(K:Na)(a:Nb):It :=
 ⟨λi H=>∃xs x,SqT K H a xs∧xs[i]?=some x,λi H x H'=>H'=H∧∀xs,SqT K H a xs→xs[i]?=some x,λi H=>∃xs,SqT K H a xs∧xs.length≤i⟩
def Itr(lo:Int)(n:Nat):It:=⟨λi _=>i<n,λi H x H'=>H'=H∧x=.int (lo+i),λi _=>n≤i⟩
theorem turn_list{P:Ni}{w:Nk}{K:Na}{tg:Expr}(a it:Nb):Turn P w K tg (Itl K a) [it] it (λi h=>h.IsListIter it a i) where
 mem:=by simp
 obj:=λi h st b hb=>by
  have e:b=it:=by simpa using hb
  subst e
  obtain⟨o,e,c,d⟩:=st
  exact⟨o,e,λv z=>by rw[d]at z;cases z⟩
 keep:=λi h h' st k=>st.at λo e=>k it ZM o e
 item:=by
  intro X hP hw hK hc i a7 s σ H E I hf st hg
  subst hP hw hK
  obtain⟨xs,x,hq,hx⟩:=hg
  obtain⟨a9,rv,p,hz⟩:=I.list hq
  obtain⟨u,hu,ru⟩:=rv.get hx
  obtain⟨f0,f1,f2,f3,f4,f5⟩:=hf it ZM
  refine wpAny_pyNext_list_item st p.isList (x:=u) (ZR hu) λh' ad sb=>?_
  have I1:ZA H {s with heap:=h'}:=I.turned (t':=s.toks) (λb o hb e=>(sb.2 b hb).trans e) f0 f1 f3 f4 f5
  obtain⟨o,e,c,d⟩:=id ad
  exact⟨u,rfl,go_of (s:={s with heap:=h'}) e c d ZU ⟨x,H,I1,ru,⟨rfl,λys hy=>by rw[I.list_inj hy hq];exact hx⟩,ad,λb hb=>(hf b hb).1⟩⟩
 done:=by
  intro X hP hw hK hc i a7 s σ H E I hf st hg
  subst hP hw hK
  obtain⟨xs,hq,hx⟩:=hg
  obtain⟨a9,rv,p,hz⟩:=I.list hq
  obtain⟨f0,f1,f2,f3,f4,f5⟩:=hf it ZM
  have hl:=rv.length
  exact wpAny_pyNext_list_end (I.ok.hd hc) st p.isList (by simp;exact zex ‹_› ‹_›) λh' eb=>⟨rfl,I.turned (t':=s.toks) (λb o hb e=>eb b o hb e) f0 f1 f3 f4 f5⟩
 self:=λ_ _ _ _ _ st h=>wpAny_pyIter_listiter st h
theorem turn_tuple{P:Ni}{w:Nk}{K:Na}{tg:Expr}(a it:Nb):Turn P w K tg (Itt K a) [it] it (λi h=>h.IsTupleIter it a i) where
 mem:=by simp
 obj:=λi h st b hb=>by
  have e:b=it:=by simpa using hb
  subst e
  obtain⟨o,e,c,d⟩:=st
  exact⟨o,e,λv z=>by rw[d]at z;cases z⟩
 keep:=λi h h' st k=>st.at λo e=>k it ZM o e
 item:=by
  intro X hP hw hK hc i a7 s σ H E I hf st hg
  subst hP hw hK
  obtain⟨xs,x,hq,hx⟩:=hg
  obtain⟨a9,rv,p,hz⟩:=I.tuple hq
  obtain⟨u,hu,ru⟩:=rv.get hx
  obtain⟨f0,f1,f2,f3,f4,f5⟩:=hf it ZM
  refine wpAny_pyNext_tuple_item st (show s.heap.IsTuple a a9.toArray from p) (x:=u) (ZR hu) λh' ad sb=>?_
  have I1:ZA H {s with heap:=h'}:=I.turned (t':=s.toks) (λb o hb e=>(sb.2 b hb).trans e) f0 f1 f3 f4 f5
  obtain⟨o,e,c,d⟩:=id ad
  exact⟨u,rfl,go_of (s:={s with heap:=h'}) e c d ZU ⟨x,H,I1,ru,⟨rfl,λys hy=>by rw[I.tuple_inj hy hq];exact hx⟩,ad,λb hb=>(hf b hb).1⟩⟩
 done:=by
  intro X hP hw hK hc i a7 s σ H E I hf st hg
  subst hP hw hK
  obtain⟨xs,hq,hx⟩:=hg
  obtain⟨a9,rv,p,hz⟩:=I.tuple hq
  obtain⟨f0,f1,f2,f3,f4,f5⟩:=hf it ZM
  have hl:=rv.length
  exact wpAny_pyNext_tuple_end (I.ok.hd hc) st (show s.heap.IsTuple a a9.toArray from p) (by simp;exact zex ‹_› ‹_›) λh' eb=>⟨rfl,I.turned (t':=s.toks) (λb o hb e=>eb b o hb e) f0 f1 f3 f4 f5⟩
 self:=λ_ _ _ _ _ st h=>wpAny_pyIter_tupleiter st h
theorem turn_range{P:Ni}{w:Nk}{K:Na}{tg:Expr}(it:Nb)(lo:Int)(n:Nat):Turn P w K tg (Itr lo n) [it] it (λi h=>IsRangeIter h it (lo+(i:Nat)*1) ((n:Int)-(i:Nat)) 1) where
 mem:=by simp
 obj:=λi h st b hb=>by
  have e:b=it:=by simpa using hb
  subst e
  exact⟨_,st,λv z=>by
   have z':Data.fields _=Data.cell v:=z
   cases z'⟩
 keep:=λi h h' st k=>k it ZM _ st
 item:=by
  intro X hP hw hK hc i a7 s σ H E I hf st hg
  subst hP hw hK
  obtain⟨f0,f1,f2,f3,f4,f5⟩:=hf it ZM
  have W:=Walks.range (prog:=X.prog) (w:=X.w) (I.ok.hd hc) it lo 1 n
  refine W.item i s _ _ hg st λv h' tk hv ad kk=>?_
  obtain⟨t,rfl⟩:=hv
  have I1:ZA H {s with heap:=h',toks:=tk}:=I.turned (λb o hb e=>kk b o (ZR hb) e) f0 f1 f3 f4 f5
  refine⟨W7,go_of (s:={s with heap:=h',toks:=tk}) (n := "range_iterator") ad rfl rfl ZU ⟨W6 (lo+i),H,I1,⟨t,?_⟩,⟨rfl,rfl⟩,ad,λb hb=>(hf b hb).1⟩⟩
  rw[Int.mul_one]
 done:=by
  intro X hP hw hK hc i a7 s σ H E I hf st hg
  subst hP hw hK
  obtain⟨f0,f1,f2,f3,f4,f5⟩:=hf it ZM
  exact wpAny_pyNext_range_end (I.ok.hd hc) st (by have:n≤i:=hg;lia) λh' eb=>⟨rfl,I.turned (t':=s.toks) (λb o hb e=>eb b o hb e) f0 f1 f3 f4 f5⟩
 self:=λ_ _ _ _ _ st h=>wpAny_pyIter_rangeiter st h
end L2
namespace L2
open PySem PySem.Spec PyProof.Rows
section
variable{X:Cx}{tg:Expr}
inductive RI1(x:V)(S R:Addr→Prop):Prop
 |mk (a:Nb) (e:x=.ref a) (s:S a) (q:R a):RI1 x S R
def iList(K:Na)(tl:TE):TI:=λ σ H R=>tl σ H λx H1=>RI1 x (λa=>∃xs,SqL K H1 a xs) λa=>R (Itl K a) H1
def iTup(K:Na)(tl:TE):TI:=λ σ H R=>tl σ H λx H1=>RI1 x (λa=>∃xs,SqT K H1 a xs) λa=>R (Itt K a) H1
def zao{l:Expr}{tl:TE}(hl:PE X l tl):PI X tg l (iList X.K tl):=by
 intro a7 s σ H R I h
 refine thn (hl a7 s σ H _ I h) λv s1 ⟨x,H1,I1,r1,q1⟩=>?_
 obtain⟨a,e,⟨xs,hq⟩,q⟩:=q1
 subst e
 cases r1
 obtain⟨a9,rv,p,hz⟩:=I1.list hq
 refine wpAny_pyIter_list p.isList ?_
 refine⟨s1.heap.objs.size,[s1.heap.objs.size],_,_,H1,rfl,I1.kept (t':=s1.toks) λb o e=>Qi _ e,turn_list a _,⟨_,Za _ rfl,rfl,rfl⟩,λb hb=>?_,q⟩
 have e:b=s1.heap.objs.size:=by simpa using hb
 subst e
 exact I1.fpOk QK (I1.hok.fresh QK)
def pi_tup{l:Expr}{tl:TE}(hl:PE X l tl):PI X tg l (iTup X.K tl):=by
 intro a7 s σ H R I h
 refine thn (hl a7 s σ H _ I h) λv s1 ⟨x,H1,I1,r1,q1⟩=>?_
 obtain⟨a,e,⟨xs,hq⟩,q⟩:=q1
 subst e
 cases r1
 obtain⟨a9,rv,p,hz⟩:=I1.tuple hq
 refine wpAny_pyIter_tuple (show s1.heap.IsTuple a a9.toArray from p) ?_
 refine⟨s1.heap.objs.size,[s1.heap.objs.size],_,_,H1,rfl,I1.kept (t':=s1.toks) λb o e=>Qi _ e,turn_tuple a _,⟨_,Za _ rfl,rfl,rfl⟩,λb hb=>?_,q⟩
 have e:b=s1.heap.objs.size:=by simpa using hb
 subst e
 exact I1.fpOk QK (I1.hok.fresh QK)
def range_it{a7:Ng}{σ:St}{H:Hp}{s:Nh}{R:It→Hp→Prop}{E:Nc}{lo hi:Int}{t u v:Tok}{tk:Nat}(I:QT)(h1:-(2 ^ 62)≤lo)(h2:lo<2 ^ 62)(h3:-(2 ^ 62)≤hi)(h4:hi<2 ^ 62)(q:R (Itr lo (hi-lo).toNat) H):ZD (pyIter Z6) (PIE X a7 σ tg R) E {s with heap:=s.heap.push {cls:=.type "range",data:=.fields #[.int lo t,.int hi u,.int 1 v]},toks:=tk}:=by
 refine wpAny_pyIter_range (IsRange.new ..) (small_one h1 h2 h3 h4) ?_
 have I1:ZA H {s with heap:=s.heap.push {cls:=.type "range",data:=.fields #[.int lo t,.int hi u,.int 1 v]},toks:=tk}:=I.kept λb o e=>Qi _ e
 refine⟨(s.heap.push {cls:=.type "range",data:=.fields #[.int lo t,.int hi u,.int 1 v]}).objs.size,[(s.heap.push {cls:=.type "range",data:=.fields #[.int lo t,.int hi u,.int 1 v]}).objs.size],_,_,H,rfl,
  I1.kept (t':=tk) λb o e=>Qi _ e,turn_range _ lo (hi-lo).toNat,?_,λb hb=>?_,q⟩
 ·have e1:lo+((0:Nat):Int)*1=lo:=by simp
  have e2:(((hi-lo).toNat:Nat):Int)-((0:Nat):Int)=Builtin.Range.rangeSize lo hi 1:=by rw[rangeSize_one];split<;>lia
  show IsRangeIter _ _ (lo+((0:Nat):Int)*1) ((((hi-lo).toNat:Nat):Int)-((0:Nat):Int)) 1
  rw[e1,e2]
  exact Za _ rfl
 ·have e:b=(s.heap.push { cls:=.type "range",data:=.fields #[.int lo t,.int hi u,.int 1 v] }).objs.size:=by simpa using hb
  subst e
  exact I1.fpOk QK (I1.hok.fresh QK)
inductive RR1(vs:List V)(R:Int→Prop):Prop
 |mk (j:Int) (e:vs=[.int j]) (l:-(2 ^ 62)≤j) (u:j<2 ^ 62) (q:R j):RR1 vs R
def iRng1(ta:TA):TI:=λ σ H R=>ta σ H λvs H1=>RR1 vs λj=>R (Itr 0 j.toNat) H1
def zci{a:Expr}{ta:TA}{p pos:Pos}(hg:Gl X "range")(hm:X.mg "range" = none)(ha:PA X [a] ta)(hs:starEach [a] X.env=[(false,WB a)]:=by rfl):PI X tg (.Call (.Name "range" p) [a] [] pos) (iRng1 ta):=by
 intro a7 s σ H R I h
 refine Call_ (zgk I hg hm boot_range (Wx (thn (ha pos a7 s σ H _ I h) λus s1 ⟨vs,H1,I1,r1,q1⟩=>?_) hs rfl))
 obtain⟨j,e,q1,q2,q⟩:=q1
 subst e
 cases r1 with
 |cons r rr =>
  cases rr
  obtain⟨t,rfl⟩:=r
  exact call_range_1 (range_it I1 QL QL q1 q2 (ZR q))
def tFor(wi:TI)(g:TG)(tb:TS):TS:=λD σ H=>wi σ H λJ H1=>∃W:Nat→Nat→St→Hp→Prop,(∃m,W 0 m σ H1)∧∀i m σ H,W i m σ H →
 (J.stop i H∧D.nx σ H)∨(J.go i H∧∃N:St→Hp→Prop,QO∧∀x H',J.yld i H x H'→g x σ H' λ σ2 H2=>tb {D with nx:=N,ct:=N,bk:=D.nx} σ2 H2)
def zbd(fp:Nl)(h:Nm):List (Addr×Obj):=fp.filterMap λb=>(h.get? b).map λo=>(b,o)
def za7(hb:b∈fp)(e:h.get? b=some o):(b,o)∈zbd fp h:=List.mem_filterMap.mpr ⟨b,hb,by rw[e];rfl⟩
def zc4(hp:p∈zbd fp h):p.1∈fp∧h.get? p.1=some p.2:=by
 obtain⟨b,hb,e⟩:=List.mem_filterMap.mp hp
 cases q:h.get? b with
 |none=>rw[q]at e;cases e
 |some o =>
  rw[q]at e
  have e':(b,o)=p:=Qn e
  subst e'
  exact⟨hb,q⟩
def Inv.pinned(I:QT)(hf:∀b∈fp,FpOk X a7 H b)(ho:∀b∈fp,∃o,s.heap.get? b=some o∧∀v,o.data≠.cell v):Inv X (a7++zbd fp s.heap) σ H s :=
 I.pins_of λp hp=>(Qk.mp hp).elim (λz=>I.pin p (Qh _ z)) λz=>by
  obtain⟨hb,e⟩:=zc4 z
  obtain⟨f0,f1,f2,_⟩:=hf p.1 hb
  obtain⟨o,e',d⟩:=ho p.1 hb
  rw[e]at e';cases e'
  exact⟨e,f0,f1,f2,d⟩
def Inv.unpinned(I:Inv X (a7++pl) σ H s):ZA H s:=I.pins_of λp hp=>I.pin p (Qh _ (Qp _ hp))
def zba(hp:PassesOwn ZY X.A X.env X.xe)(hc:X.calm=true)(hi:PI X tg iter wi)(hg:PG X tg g)(hb:PSs X body tb)(hs:∀x,foldedSetIterable iter X.env x=pure x:=by intro _;rfl):PS X (.For tg iter body [] pos) (tFor wi g tb):=by
 intro a7 s σ H D I h
 refine wpAny_For (thn (hi a7 s σ H _ I h) λv s1 h1=>thn h1 λitv s2 h2=>?_) hs
 obtain⟨it,fp,tn,J,H2,e,I2,T,aW,f2,W,⟨m0,w0⟩,turn⟩:=h2
 subst e
 have stat:∀{H':Hp},(∀b∈fp,H' b=none)→∀b∈fp,FpOk X a7 H' b:=λhn b hb=>⟨hn b hb,(f2 b hb).2⟩
 refine codeAny_forLoop_any (λn s'=>Ex3 λi σ' H'=>Aj4 (Inv X a7 σ' H' s') (tn i s'.heap) (∀b∈fp,H' b=none) (W i n σ' H')) ?_ m0 ⟨0,σ,H2,I2,aW,λb hb=>(f2 b hb).1,w0⟩
 rintro n s3 ⟨i,σ3,H3,I3,au,fr3,w3⟩
 rcases turn i n σ3 H3 w3 with⟨stop,qn⟩ | ⟨go,N,hN,step⟩
 ·refine wpAny_passesOwn hp (thn (T.done X rfl rfl rfl hc i a7 s3 σ3 H3 X.xe I3 (stat fr3) au stop) fun r s4 ⟨hr,I4⟩=>?_)
  subst hr
  exact wpAny_execs_nil ⟨σ3,H3,I4,qn⟩
 ·refine wpAny_passesOwn hp (thn (T.item X rfl rfl rfl hc i a7 s3 σ3 H3 X.xe I3 (stat fr3) au go) fun r s4 ⟨u,hr,h4⟩=>?_)
  subst hr
  refine wpAny_passesOwn hp (thn h4 λ_ s5 ⟨x,H5,I5,r5,y5,da,fr5⟩=>?_)
  have dQ:=I5.pinned (stat fr5) (T.obj _ _ da)
  refine wpAny_passesOwn hp (thn (hg _ s5 σ3 H5 x u _ dQ r5 (step x H5 y5)) λ_ s6 ⟨σ6,H6,I6,q6⟩=>?_)
  refine wpAny_passesOwn hp (thn (hb _ s6 σ6 H6 _ I6 q6) λf s7 q7=>?_)
  have again:∀{σ7:St} {H7:Hp},Inv X (a7++zbd fp s5.heap) σ7 H7 s7→N σ7 H7→∃m,m<n∧Ex3 λi σ' H'=>Aj4 (Inv X a7 σ' H' s7) (tn i s7.heap) (∀b∈fp,H' b=none) (W i m σ' H'):=λ{σ7 H7} I7 n7=>by
   obtain⟨m',hm,w7⟩:=hN σ7 H7 n7
   refine⟨m',hm,i+1,σ7,H7,I7.unpinned,T.keep _ _ _ da λb hb o e=>(I7.pin (b,o) (Qh _ (Qh _ (za7 hb e)))).1,λb hb=>?_,w7⟩
   obtain⟨o,e,d⟩:=T.obj _ _ da b hb
   exact(I7.pin (b,o) (Qh _ (Qh _ (za7 hb e)))).2.1
  cases f with
  |next=>obtain⟨σ7,H7,I7,n7⟩:=q7;exact again I7 n7
  |cont=>obtain⟨σ7,H7,I7,n7⟩:=q7;exact again I7 n7
  |brk=>obtain⟨σ7,H7,I7,q7⟩:=q7;exact⟨σ7,H7,I7.unpinned,q7⟩
  |ret v=>obtain⟨x7,σ7,H7,I7,r7,q7⟩:=q7;exact⟨x7,σ7,H7,I7.unpinned,r7,q7⟩
end
def zbf{K:Na}{a:Nb}{xs:List V}{g:TG}{tb:TS}{D:Ends}{σ:St}{H:Hp}(Pv:Nat→St→Hp→Prop)(h0:Pv 0 σ H)(hl:∀i σ H,i≤xs.length→Pv i σ H→SqL K H a xs)(hs:∀i x σ H,xs[i]?=some x→Pv i σ H→g x σ H λ σ2 H2=>tb {D with nx:=Pv QY,ct:=Pv QY,bk:=D.nx} σ2 H2)(hd:∀σ H,Pv xs.length σ H→D.nx σ H) :
  ∃W:Nat→Nat→St→Hp→Prop,(∃m,W 0 m σ H)∧∀i m σ H,W i m σ H →
   ((Itl K a).stop i H∧D.nx σ H)∨((Itl K a).go i H∧∃N:St→Hp→Prop,QO∧∀x H',(Itl K a).yld i H x H'→g x σ H' λ σ2 H2=>tb {D with nx:=N,ct:=N,bk:=D.nx} σ2 H2):=by
 refine⟨λi m σ H=>m=xs.length-i∧i≤xs.length∧Pv i σ H,⟨xs.length,ZM,Zc _,h0⟩,?_⟩
 rintro i m σ H ⟨rfl,hi,p⟩
 have q:=hl i σ H hi p
 by_cases ae:i<xs.length
 ·refine .inr ⟨⟨xs,xs[i],q,by simp [ae]⟩,Pv QY,fun σ' H' p'=>⟨xs.length - QY,QP,rfl,ae,p'⟩,fun x H' y=>?_⟩
  obtain⟨e,y⟩:=y
  subst e
  exact hs i x σ _ (y xs q) p
 ·have e:i=xs.length:=by exact zar3 ‹_› ‹_›
  subst e
  exact .inl ⟨⟨xs,q,QK⟩,hd σ H p⟩
def for_tup{K:Na}{a:Nb}{xs:List V}{g:TG}{tb:TS}{D:Ends}{σ:St}{H:Hp}(Pv:Nat→St→Hp→Prop)(h0:Pv 0 σ H)(hl:∀i σ H,i≤xs.length→Pv i σ H→SqT K H a xs)(hs:∀i x σ H,xs[i]?=some x→Pv i σ H→g x σ H λ σ2 H2=>tb {D with nx:=Pv QY,ct:=Pv QY,bk:=D.nx} σ2 H2)(hd:∀σ H,Pv xs.length σ H→D.nx σ H) :
  ∃W:Nat→Nat→St→Hp→Prop,(∃m,W 0 m σ H)∧∀i m σ H,W i m σ H →
   ((Itt K a).stop i H∧D.nx σ H)∨((Itt K a).go i H∧∃N:St→Hp→Prop,QO∧∀x H',(Itt K a).yld i H x H'→g x σ H' λ σ2 H2=>tb {D with nx:=N,ct:=N,bk:=D.nx} σ2 H2):=by
 refine⟨λi m σ H=>m=xs.length-i∧i≤xs.length∧Pv i σ H,⟨xs.length,ZM,Zc _,h0⟩,?_⟩
 rintro i m σ H ⟨rfl,hi,p⟩
 have q:=hl i σ H hi p
 by_cases ae:i<xs.length
 ·refine .inr ⟨⟨xs,xs[i],q,by simp [ae]⟩,Pv QY,fun σ' H' p'=>⟨xs.length - QY,QP,rfl,ae,p'⟩,fun x H' y=>?_⟩
  obtain⟨e,y⟩:=y
  subst e
  exact hs i x σ _ (y xs q) p
 ·have e:i=xs.length:=by exact zar3 ‹_› ‹_›
  subst e
  exact .inl ⟨⟨xs,q,QK⟩,hd σ H p⟩
def zct{lo:Int}{n:Nat}{g:TG}{tb:TS}{D:Ends}{σ:St}{H:Hp}(Pv:Nat→St→Hp→Prop)(h0:Pv 0 σ H)(hs:∀i σ H,i<n→Pv i σ H→g (W6 (lo+i)) σ H λ σ2 H2=>tb {D with nx:=Pv QY,ct:=Pv QY,bk:=D.nx} σ2 H2)(hd:∀σ H,Pv n σ H→D.nx σ H) :
  ∃W:Nat→Nat→St→Hp→Prop,(∃m,W 0 m σ H)∧∀i m σ H,W i m σ H →
   ((Itr lo n).stop i H∧D.nx σ H)∨((Itr lo n).go i H∧∃N:St→Hp→Prop,QO∧∀x H',(Itr lo n).yld i H x H'→g x σ H' λ σ2 H2=>tb {D with nx:=N,ct:=N,bk:=D.nx} σ2 H2):=by
 refine⟨λi m σ H=>m=n-i∧i≤n∧Pv i σ H,⟨n,ZM,Zc _,h0⟩,?_⟩
 rintro i m σ H ⟨rfl,hi,p⟩
 by_cases ae:i<n
 ·refine .inr ⟨ae,Pv QY,fun σ' H' p'=>⟨n - QY,QP,rfl,ae,p'⟩,fun x H' y=>?_⟩
  obtain⟨e,y⟩:=y
  subst e y
  exact hs i σ _ ae p
 ·have e:i=n:=by exact zar3 ‹_› ‹_›
  subst e
  exact .inl ⟨QK,hd σ H p⟩
end L2
namespace L2
open PySem PySem.Spec PyProof.Rows
abbrev R2:=V→V→Hp→VK→Prop
def OpR(X:Cx)(f:Value→Value→Sem Value)(r:R2):Prop :=
 ∀(a7:Ng) (s:Nh) (σ:St) (H:Hp) (x y:V) (v u:Value) (Q:VK),ZA H s→RelV x v→RelV y u→r x y H Q →
  wpAny ZY X.A (f v u) WY X.xe s
def UnR(X:Cx)(f:Value→Sem Value)(r:V→Hp→VK→Prop):Prop :=
 ∀(a7:Ng) (s:Nh) (σ:St) (H:Hp) (x:V) (v:Value) (Q:VK),ZA H s→RelV x v→r x H Q →
  wpAny ZY X.A (f v) WY X.xe s
def zck(X:Cx)(f:Value)(r:List V→Hp→VK→Prop):Prop :=
 ∀(a7:Ng) (s:Nh) (σ:St) (H:Hp) (xs:List V) (us:Nj) (Q:VK),ZA H s→Vals xs us→r xs H Q →
  wpAny ZY X.A (call f us) WY X.xe s
def TruR(X:Cx)(r:V→Hp→(Bool→Hp→Prop)→Prop):Prop :=
 ∀(a7:Ng) (s:Nh) (σ:St) (H:Hp) (x:V) (v:Value) (Q:Bool→Hp→Prop),ZA H s→RelV x v→r x H Q →
  wpAny ZY X.A (truthy v) (TP X a7 σ Q) X.xe s
def tOp(r:R2)(ta tb:TE):TE:=λ σ H Q=>ta σ H λx H1=>tb σ H1 λy H2=>r x y H2 Q
def tUn(r:V→Hp→VK→Prop)(ta:TE):TE:=λ σ H Q=>ta σ H λx H1=>r x H1 Q
inductive RrI(C:Int→Int→Prop)(g:Int→Int→V)(x:V)(y:V)(H:Hp)(Q:VK):Prop
 |mk (i:_) (j:_) (h0:x=.int i) (h1:y=.int j) (h2:C i j) (h3:Q (g i j) H):RrI C g x y H Q
def rI(C:Int→Int→Prop)(g:Int→Int→V):R2:=λx y H Q=>RrI C g x y H Q
inductive RrI0(g:Int→Int→V)(x:V)(y:V)(H:Hp)(Q:VK):Prop
 |mk (i:_) (j:_) (h0:x=.int i) (h1:y=.int j) (h2:Q (g i j) H):RrI0 g x y H Q
def rI0(g:Int→Int→V):R2:=λx y H Q=>RrI0 g x y H Q
def rU(g:Int→V):V→Hp→VK→Prop:=λx H Q=>∃i,x=.int i∧Q (g i) H
section
variable{X:Cx}{a b c:Expr}{ta tb tc:TE}{pos:Pos}
def binT(ha:PE X a ta)(hb:PE X b tb){a7:Ng}{s:Nh}{σ:St}{H:Hp}{R:V→V→Hp→Prop}(I:QT)(h:ta σ H λx H1=>tb σ H1 λy H2=>R x y H2){Q:Nc}{f:Value→Value→Sem Value}(hf:∀v u s2 x y H2,ZA H2 s2→RelV x v→RelV y u→R x y H2→ZD (f v u) Q X.xe s2) :
  wpAny ZY X.A (WB a) (λv s₁=>ZD (WB b) (λu s₂=>ZD (f v u) Q X.xe s₂) X.xe s₁) X.xe s:=by
 refine thn (ha a7 s σ H _ I h) λv s1 ⟨x,H1,I1,r1,q1⟩=>?_
 refine thn (hb a7 s1 σ H1 _ I1 q1) λu s2 ⟨y,H2,I2,r2,q2⟩=>?_
 exact hf v u s2 x y H2 I2 r1 r2 q2
def za1{op:Operator}{r:R2}(ho:OpR X (binaryOp op) r)(ha:PE X a ta)(hb:PE X b tb):PE X (.BinOp a op b pos) (tOp r ta tb):=by
 intro a7 s σ H Q I h
 exact wpAny_BinOp (binT ha hb I h λv u s2 x y H2 I2 rx ry q=>ho a7 s2 σ H2 x y v u Q I2 rx ry q)
def pe_un(ho:UnR X (unaryOp op) r)(ha:PE X a ta):PE X (.UnaryOp op a pos) (tUn r ta):=by
 intro a7 s σ H Q I h
 exact UnaryOp_ (thn (ha a7 s σ H _ I h) λv s1 ⟨x,H1,I1,r1,q1⟩=>ho a7 s1 σ H1 x v Q I1 r1 q1)
def opI{f:Value→Value→Sem Value}{C:Int→Int→Prop}{g:Int→Int→Int}(rule:∀(i j:Int) (t u:Tok) (s:Nh) (Q:Nc) (E:Nc),C i j→Q (.int (g i j) s.toks) {s with toks:=s.toks+1}→ZD (f (.int i t) (.int j u)) Q E s) :
  OpR X f (rI C λi j=>.int (g i j)):=by
 intro a7 s σ H x y v u Q I rx ry h
 obtain⟨i,j,rfl,rfl,hc,q⟩:=h
 obtain⟨t,rfl⟩:=rx
 obtain⟨t',rfl⟩:=ry
 exact rule i j t t' s _ _ hc ⟨W6 (g i j),H,I.tok _,⟨_,rfl⟩,q⟩
def opI0{f:Value→Value→Sem Value}{g:Int→Int→Int}(rule:∀(i j:Int) (t u:Tok) (s:Nh) (Q:Nc) (E:Nc),Q (.int (g i j) s.toks) {s with toks:=s.toks+1}→ZD (f (.int i t) (.int j u)) Q E s) :
  OpR X f (rI0 λi j=>.int (g i j)):=by
 intro a7 s σ H x y v u Q I rx ry h
 obtain⟨i,j,rfl,rfl,q⟩:=h
 obtain⟨t,rfl⟩:=rx
 obtain⟨t',rfl⟩:=ry
 exact rule i j t t' s _ _ ⟨W6 (g i j),H,I.tok _,⟨_,rfl⟩,q⟩
def opB0{f:Value→Value→Sem Value}{g:Int→Int→Bool}(rule:∀(i j:Int) (t u:Tok) (s:Nh) (Q:Nc) (E:Nc),Q (.bool (g i j)) s→ZD (f (.int i t) (.int j u)) Q E s) :
  OpR X f (rI0 λi j=>.bl (g i j)):=by
 intro a7 s σ H x y v u Q I rx ry h
 obtain⟨i,j,rfl,rfl,q⟩:=h
 obtain⟨t,rfl⟩:=rx
 obtain⟨t',rfl⟩:=ry
 exact rule i j t t' s _ _ ⟨.bl (g i j),H,I,rfl,q⟩
def CDiv(i j:Int):Prop:=0<j∧j<1073741824
def CPow(i j:Int):Prop:=0≤j∧j≤1000000∧i.natAbs<2 ^ 64
def CMul(i j:Int):Prop:=(-(2 ^ 64)<i∧i<2 ^ 64)∨(-(2 ^ 64)<j∧j<2 ^ 64)
def CMul.ok{i j:Int}(h:CMul i j):IntMulOk i j:=by
 rcases h with⟨h1,h2⟩ | ⟨h1,h2⟩
 ·exact .of_left (intBits_le_64 h1 h2)
 ·exact .of_right (intBits_le_64 h1 h2)
def zb7:OpR X (binaryOp .Add) (rI0 λi j=>.int (i+j)):=opI0 λ_ _ _ _ _ _ _ q=>add_int q
def zdl:OpR X (binaryOp .Sub) (rI0 λi j=>.int (i-j)):=opI0 λ_ _ _ _ _ _ _ q=>sub_int q
def zgg:OpR X (binaryOp .Mult) (rI CMul λi j=>.int (i*j)):=opI λ_ _ _ _ _ _ _ hc q=>mul_int q hc.ok
def op_fdiv:OpR X (binaryOp .FloorDiv) (rI CDiv λi j=>.int (i/j)):=opI λi j _ _ _ _ _ hc q=>by
 have h1:(0:Int)<j:=hc.1
 have h2:j<1073741824:=hc.2
 exact floordiv_int QL (by rw[Int.fdiv_eq_ediv_of_nonneg i QL];exact q) (.inl (PyProof.noPylong_small QL))
def zfg:OpR X (binaryOp .Mod) (rI (λ_ j=>0<j) λi j=>.int (i%j)):=opI λi j _ _ _ _ _ hc q=>by
 have h1:(0:Int)<j:=hc
 exact mod_int' QL (by rw[Int.fmod_eq_emod_of_nonneg i QL];exact q)
def op_pow:OpR X (binaryOp .Pow) (rI CPow λi j=>.int (i ^ j.toNat)):=opI λ_ _ _ _ _ _ _ hc q=>pow_int_small hc.1 hc.2.1 hc.2.2 q
def unI{f:Value→Sem Value}{g:Int→Int}(rule:∀(i:Int) (t:Tok) (s:Nh) (Q:Nc) (E:Nc),Q (.int (g i) s.toks) {s with toks:=s.toks+1}→ZD (f (.int i t)) Q E s) :
  UnR X f (rU λi=>.int (g i)):=by
 intro a7 s σ H x v Q I rx h
 obtain⟨i,rfl,q⟩:=h
 obtain⟨t,rfl⟩:=rx
 exact rule i t s _ _ ⟨W6 (g i),H,I.tok _,⟨_,rfl⟩,q⟩
def un_neg:UnR X (unaryOp .USub) (rU λi=>.int (-i)):=unI λ_ _ _ _ _ q=>neg_int q
end
def scal:V→V→Bool
 |.non,.non=>true | .non,.int _=>true | .int _,.non=>true | .non,.bl _=>true | .bl _,.non=>true | .non,.str _=>true | .str _,.non=>true
 |.int _,.int _=>true | .bl _,.bl _=>true | .str _,.str _=>true | .byt _,.byt _=>true
 |.int _,.str _=>true | .str _,.int _=>true | .bl _,.str _=>true | .str _,.bl _=>true
 |_,_=>false
def rEq:R2:=λx y H Q=>scal x y=true∧Q (.bl (decide (x=y))) H
def rNe:R2:=λx y H Q=>scal x y=true∧Q (.bl (!decide (x=y))) H
def dec_int:decide (V.int i=V.int j)=(i==j):=by
 rw[Yy]
 simp
def dec_bl:decide (V.bl i=V.bl j)=(i==j):=by
 rw[Yy]
 simp
def dec_str:decide (V.str i=V.str j)=(i==j):=by
 rw[Yy]
 simp
def dec_byt:decide (V.byt i=V.byt j)=(i.toList==j.toList):=by
 rw[Yy]
 cases i
 cases j
 simp
section
variable{X:Cx}{a b c:Expr}{ta tb tc:TE}{pos:Pos}
def zbc(I:QT)(q:Q (.bl k) H)(e:k=k'):EP X a7 σ Q (.bool k') s:=by
 subst e
 exact⟨.bl k,H,I,rfl,q⟩
def op_eq:OpR X (compareOp .Eq) rEq:=by
 intro a7 s σ H x y v u Q I rx ry h
 obtain⟨hs,q⟩:=h
 cases x with
 |non =>
  cases rx
  cases y with
  |non=>cases ry;exact PySem.EqNone.eq_none_none (zbc I q ZM)
  |bl j=>cases ry;exact PySem.EqNone.eq_none_bool (zbc I q ZM)
  |int j=>obtain⟨t',rfl⟩:=ry;exact PySem.EqNone.eq_none_int (zbc I q ZM)
  |str j=>obtain⟨t',rfl⟩:=ry;exact PySem.EqNone.eq_none_str (zbc I q ZM)
  |_=>exact absurd (show false=true from hs) Zh
 |bl i =>
  cases rx
  cases y with
  |non=>cases ry;exact PySem.EqNone.eq_bool_none (zbc I q ZM)
  |bl j=>cases ry;exact eq_bool (zbc I q dec_bl)
  |str j=>obtain⟨t',rfl⟩:=ry;exact PySem.EqMixed.eq_bool_str (zbc I q ZM)
  |_=>exact absurd (show false=true from hs) Zh
 |int i =>
  obtain⟨t,rfl⟩:=rx
  cases y with
  |non=>cases ry;exact PySem.EqNone.eq_int_none (zbc I q ZM)
  |int j=>obtain⟨t',rfl⟩:=ry;exact eq_int (zbc I q dec_int)
  |str j=>obtain⟨t',rfl⟩:=ry;exact PySem.EqMixed.eq_int_str (zbc I q ZM)
  |_=>exact absurd (show false=true from hs) Zh
 |str i =>
  obtain⟨t,rfl⟩:=rx
  cases y with
  |non=>cases ry;exact PySem.EqNone.eq_str_none (zbc I q ZM)
  |bl j=>cases ry;exact PySem.EqMixed.eq_str_bool (zbc I q ZM)
  |int j=>obtain⟨t',rfl⟩:=ry;exact PySem.EqMixed.eq_str_int (zbc I q ZM)
  |str j=>obtain⟨t',rfl⟩:=ry;exact eq_str (zbc I q dec_str)
  |_=>exact absurd (show false=true from hs) Zh
 |byt i =>
  obtain⟨t,rfl⟩:=rx
  cases y with
  |byt j=>obtain⟨t',rfl⟩:=ry;exact PySem.W.eq_bytes (zbc I q dec_byt)
  |_=>exact absurd (show false=true from hs) Zh
 |_=>cases y<;>exact absurd (show false=true from hs) Zh
def op_ne:OpR X (compareOp .NotEq) rNe:=by
 intro a7 s σ H x y v u Q I rx ry h
 obtain⟨hs,q⟩:=h
 cases x with
 |non =>
  cases rx
  cases y with
  |non=>cases ry;exact PySem.EqNone.ne_none_none (zbc I q ZM)
  |bl j=>cases ry;exact PySem.EqNone.ne_none_bool (zbc I q ZM)
  |int j=>obtain⟨t',rfl⟩:=ry;exact PySem.EqNone.ne_none_int (zbc I q ZM)
  |str j=>obtain⟨t',rfl⟩:=ry;exact PySem.EqNone.ne_none_str (zbc I q ZM)
  |_=>exact absurd (show false=true from hs) Zh
 |bl i =>
  cases rx
  cases y with
  |non=>cases ry;exact PySem.EqNone.ne_bool_none (zbc I q ZM)
  |bl j=>cases ry;exact ne_bool (zbc I q (congrArg not dec_bl))
  |str j=>obtain⟨t',rfl⟩:=ry;exact PySem.EqMixed.ne_bool_str (zbc I q ZM)
  |_=>exact absurd (show false=true from hs) Zh
 |int i =>
  obtain⟨t,rfl⟩:=rx
  cases y with
  |non=>cases ry;exact PySem.EqNone.ne_int_none (zbc I q ZM)
  |int j=>obtain⟨t',rfl⟩:=ry;exact ne_int (zbc I q (congrArg not dec_int))
  |str j=>obtain⟨t',rfl⟩:=ry;exact PySem.EqMixed.ne_int_str (zbc I q ZM)
  |_=>exact absurd (show false=true from hs) Zh
 |str i =>
  obtain⟨t,rfl⟩:=rx
  cases y with
  |non=>cases ry;exact PySem.EqNone.ne_str_none (zbc I q ZM)
  |bl j=>cases ry;exact PySem.EqMixed.ne_str_bool (zbc I q ZM)
  |int j=>obtain⟨t',rfl⟩:=ry;exact PySem.EqMixed.ne_str_int (zbc I q ZM)
  |str j=>obtain⟨t',rfl⟩:=ry;exact ne_str (zbc I q (congrArg not dec_str))
  |_=>exact absurd (show false=true from hs) Zh
 |byt i =>
  obtain⟨t,rfl⟩:=rx
  cases y with
  |byt j=>obtain⟨t',rfl⟩:=ry;exact PySem.W.ne_bytes (zbc I q (congrArg not dec_byt))
  |_=>exact absurd (show false=true from hs) Zh
 |_=>cases y<;>exact absurd (show false=true from hs) Zh
def op_lt:OpR X (compareOp .Lt) (rI0 λi j=>.bl (decide (i<j))):=opB0 λ_ _ _ _ _ _ _ q=>lt_int q
def op_le:OpR X (compareOp .LtE) (rI0 λi j=>.bl (decide (i≤j))):=opB0 λ_ _ _ _ _ _ _ q=>le_int q
def op_gt:OpR X (compareOp .Gt) (rI0 λi j=>.bl (decide (j<i))):=opB0 λ_ _ _ _ _ _ _ q=>gt_int q
def op_ge:OpR X (compareOp .GtE) (rI0 λi j=>.bl (decide (j≤i))):=opB0 λ_ _ _ _ _ _ _ q=>ge_int q
def zbe(b:Expr)(h:op≠.In:=by decide)(h2:op≠.NotIn:=by decide):behindInMarks op b=false:=by
 have e1:(op==CmpOp.In)=false:=by cases op<;>first | rfl | exact absurd rfl h
 have e2:(op==CmpOp.NotIn)=false:=by cases op<;>first | rfl | exact absurd rfl h2
 cases b<;>simp[behindInMarks,e1,e2]
def pe_cmpR{op:CmpOp}{r:R2}(ho:OpR X (compareOp op) r)(ha:PE X a ta)(hb:PE X b tb)(hm:behindInMarks op b=false):PE X (.Compare a [op] [b] pos) (tOp r ta tb):=by
 intro a7 s σ H Q I h
 exact wpAny_Compare1 (binT ha hb I h λv u s2 x y H2 I2 rx ry q=>ho a7 s2 σ H2 x y v u Q I2 rx ry q) hm
def tTest(t:TE):TT:=λ σ H Q=>t σ H λx H'=>RB x H' Q
def zaq(ho:OpR X (compareOp op) r)(ha:PE X a ta)(hb:PE X b tb)(hm:behindInMarks op b=false):PT X (.Compare a [op] [b] pos) (tTest (tOp r ta tb)):=by
 intro a7 s σ H Q I h
 refine wpAny_isTrue_Compare1 (thn (ha a7 s σ H _ I h) λv s1 ⟨x,H1,I1,r1,q1⟩=>thn (hb a7 s1 σ H1 _ I1 q1) λu s2 ⟨y,H2,I2,r2,q2⟩ =>
  thn (ho a7 s2 σ H2 x y v u _ I2 r1 r2 q2) λc s3 ⟨z,H3,I3,r3,k,e,q3⟩=>?_) hm
 subst e
 cases r3
 exact wpAny_truthy_bool ⟨H3,I3,q3⟩
def tChain(r r':R2)(ta tb tc:TE):TE:=λ σ H Q=>ta σ H λx H1=>tb σ H1 λy H2=>r x y H2 λz H3=>RB z H3 λk H3 =>
 (if k=true then tc σ H3 λw' H4=>r' y w' H4 Q else Q (.bl false) H3)
def pe_chain(ho:OpR X (compareOp op) r)(cK:OpR X (compareOp op') r')(ha:PE X a ta)(hb:PE X b tb)(hc:PE X c tc)(hm:lastMarks [op,op'] [b,c]=false:=by with_unfolding_all rfl):PE X (.Compare a [op,op'] [b,c] pos) (tChain r r' ta tb tc):=by
 intro a7 s σ H Q I h
 refine Compare_chain (thn (ha a7 s σ H _ I h) λv s1 ⟨x,H1,I1,r1,q1⟩=>chain_link (thn (hb a7 s1 σ H1 _ I1 q1) λu s2 ⟨y,H2,I2,r2,q2⟩ =>
  thn (ho a7 s2 σ H2 x y v u _ I2 r1 r2 q2) λd s3 ⟨z,H3,I3,r3,k,e,q3⟩=>?_)) hm
 subst e
 cases r3
 refine wpAny_truthy_bool ?_
 cases k with
 |false=>exact ite_ff ⟨.bl false,H3,I3,rfl,q3⟩
 |true=>exact ite_tt (chain_last (thn (hc a7 s3 σ H3 _ I3 q3) λw' s4 ⟨z',H4,I4,r4,q4⟩=>cK a7 s4 σ H4 y z' u w' Q I4 r2 r4 q4))
def TruV(K:Na)(x:V)(H:Hp)(k:Bool):Prop :=
 match x with
 |.non=>k=false
 |.bl b=>k=b
 |.int i=>k=(i != 0)
 |.str y=>y.length≤sizeLine∧k=((y.length:Int) != 0)
 |.byt y=>y.size≤sizeLine∧k=((y.size:Int) != 0)
 |.ref p=>(∃xs,SqL K H p xs∧k=!xs.isEmpty)∨(∃xs,SqT K H p xs∧k=!xs.isEmpty)∨∃kvs,H p=some (.dK kvs)∧k=!kvs.isEmpty
 |_=>False
def isEmpty_kv{κ:Type}{kvs:List (κ×V)}{vs:List (κ×Value)}(r:KV kvs vs):(!vs.isEmpty)=!kvs.isEmpty:=by
 cases r<;>rfl
def zhh{xs:List V}{a9:Nj}(r:Vals xs a9):(!a9.toArray.isEmpty)=!xs.isEmpty:=by
 cases r<;>simp
def zfi:(sizeLine:Nat)<2 ^ 63:=by rw[sizeLine_eq];decide
inductive RTr(K:Na)(x:V)(H:Hp)(Q:Bool→Hp→Prop):Prop
 |mk (k:Bool) (t:TruV K x H k) (q:Q k H):RTr K x H Q
def tru_ok:TruR X (λx H Q=>RTr X.K x H Q):=by
 intro a7 s σ H x v Q I rx h
 obtain⟨k,e,q⟩:=h
 have hl:=zfi
 have hs:sizeLine=16777216:=sizeLine_eq
 cases x with
 |non =>
  cases rx
  have e':k=false:=e
  subst e'
  exact truthy_none ⟨H,I,q⟩
 |bl b =>
  cases rx
  have e':k=b:=e
  subst e'
  exact wpAny_truthy_bool ⟨H,I,q⟩
 |int i =>
  obtain⟨t,rfl⟩:=rx
  have e':k=(i != 0):=e
  subst e'
  exact PySem.P.truthy_int ⟨H,I,q⟩
 |str y =>
  obtain⟨t,rfl⟩:=rx
  obtain⟨hy,e'⟩:y.length≤sizeLine∧k=((y.length:Int) != 0):=e
  subst e'
  exact PySem.P.truthy_str QL ⟨H,I.tok _,q⟩
 |byt y =>
  obtain⟨t,rfl⟩:=rx
  obtain⟨hy,e'⟩:y.size≤sizeLine∧k=((y.size:Int) != 0):=e
  subst e'
  exact PySem.W.truthy_bytes QL ⟨H,I.tok _,q⟩
 | ref p =>
  cases rx
  have e':(∃xs,SqL X.K H p xs∧k=!xs.isEmpty)∨(∃xs,SqT X.K H p xs∧k=!xs.isEmpty)∨∃kvs,H p=some (.dK kvs)∧k=!kvs.isEmpty:=e
  rcases e' with⟨xs,hx,e'⟩ | ⟨xs,hx,e'⟩ | ⟨kvs,hx,e'⟩
  ·subst e'
   obtain⟨a9,r,pl,hz⟩:=I.list hx
   have af:=r.length
   exact wpAny_truthy_list pl.isList (by simp only[Qx];lia) ⟨H,I.tok _,by rw[zhh r];exact q⟩
  ·subst e'
   obtain⟨a9,r,pl,hz⟩:=I.tuple hx
   have af:=r.length
   exact truthy_tuple pl (by simp only[Qx];lia) ⟨H,I.tok _,by rw[zhh r];exact q⟩
  ·subst e'
   obtain⟨hz,hS,vs,r,m⟩:kvs.length≤sizeLine∧(p==sysModules)=false∧∃vs,KV kvs vs∧s.heap.DictOf (zap X.prog X.w) p vs:=I.hok p _ hx
   have af:kvs.length=vs.length:=Ya r
   exact wpAny_truthy_dict hS m QL ⟨H,I.tok _,by rw[isEmpty_kv r];exact q⟩
 |_=>exact(show False from e).elim
def zel(ha:PE X a ta)(he:∀whole,isTrue a X.env whole=(do let v ←whole;standAt a.pos;holding [v] (truthy v))) :
  PT X a (λ σ H Q=>ta σ H λx H'=>RTr X.K x H' Q):=by
 intro a7 s σ H Q I h
 exact isTrue_plain (thn (ha a7 s σ H _ I h) λv s1 ⟨x,H1,I1,r1,q1⟩=>tru_ok a7 s1 σ H1 x v Q I1 r1 q1) (he _)
def zhc:OpR X (binaryOp .Add) (λx y H Q=>Ex2 λi j=>Aj4 (x=.str i) (y=.str j) (i.length+j.length≤sizeLine) (Q (.str (i++j)) H)):=by
 intro a7 s σ H x y v u Q I rx ry h
 obtain⟨i,j,rfl,rfl,hz,q⟩:=h
 obtain⟨t,rfl⟩:=rx
 obtain⟨t',rfl⟩:=ry
 exact add_str (λt' tk=>⟨.str (i++j),H,I.tok _,⟨_,rfl⟩,q⟩) hz
def vals1(r:Vals [x] us):∃u,us=[u]∧RelV x u:=by
 cases r with
 |cons r1 r2=>cases r2;exact⟨W7,r1⟩
def vals2(r:Vals [x,y] us):∃u w',us=[u,w']∧RelV x u∧RelV y w':=by
 cases r with
 |cons r1 r2 =>
  cases r2 with
  |cons r3 r4=>cases r4;exact⟨_,W7,r1,r3⟩
def call_abs:zck X (.builtin "abs") (λxs H Q=>Ex1 λi=>Aj2 (xs=[W6 i]) (Q (W6 (if i<0 then -i else i)) H)):=by
 intro a7 s σ H xs us Q I r h
 obtain⟨i,rfl,q⟩:=h
 obtain⟨u,rfl,t,rfl⟩:=vals1 r
 exact call_abs_int λu tk=>⟨W6 (if i<0 then -i else i),H,I.tok _,⟨_,rfl⟩,q⟩
def call_max2(hc:X.calm=true):zck X (.builtin "max") (λxs H Q=>Ex2 λi j=>Aj2 (xs=[W6 i,W6 j]) (Q (W6 (if j>i then j else i)) H)):=by
 intro a7 s σ H xs us Q I r h
 obtain⟨i,j,rfl,q⟩:=h
 obtain⟨u,w',rfl,⟨t,rfl⟩,⟨t',rfl⟩⟩:=vals2 r
 refine max_two_ints (I.ok.hd hc) λh' tk k=>⟨_,H,I.kept k,?_,q⟩
 by_cases hj:j>i
 ·rw[if_pos hj,if_pos hj];exact⟨W7⟩
 ·rw[if_neg hj,if_neg hj];exact⟨W7⟩
def zgr:zck X (.builtin "divmod") (λxs H Q=>Ex2 λi j=>Aj3 (xs=[W6 i,W6 j]) (CDiv i j) (∀p,H p=none→Q (ZZ p) (upd H p (.tup [W6 (i/j),W6 (i%j)])))):=by
 intro a7 s σ H xs us Q I r h
 obtain⟨i,j,rfl,⟨h1,h2⟩,q⟩:=h
 obtain⟨u,w',rfl,⟨t,rfl⟩,⟨t',rfl⟩⟩:=vals2 r
 refine divmod_int QL ?_ (.inl (PyProof.noPylong_small QL))
 rw[Int.fdiv_eq_ediv_of_nonneg i QL,Int.fmod_eq_emod_of_nonneg i QL]
 have hn:H s.heap.objs.size=none:=I.hok.fresh QK
 refine⟨Z6,_,?_,rfl,q _ hn⟩
 refine I.laid (λb o e=>Qi _ e) QK ⟨by simp only[Qv,Ui];rw[sizeLine_eq];decide,[.int (i/j) s.toks,.int (i%j) (s.toks+1)],.cons ⟨_,rfl⟩ (.cons ⟨_,rfl⟩ .nil),?_⟩
 exact⟨_,Za s.heap rfl,rfl,0,rfl⟩
end
end L2
namespace L2
open PySem PySem.Spec PyProof.Rows
structure ObjM(h:Nm)(x dx C:Nb)(mA:Nd):Prop where
 obj:h.get? x=some (PySem.W.instObj C dx)
 ns:h.Ns1 dx mA
 ne:dx≠x
def lookIn_ns{h:Nm}{mA:Nd}(n:h.Ns1 dx mA):∃od,h.get? dx=some od∧∀name,PySem.W.lookIn name od=some (mA name):=by
 obtain⟨o,es,ep,ho,hd,hk,_,hm⟩:=n
 refine⟨o,ho,λname=>?_⟩
 have e:=hm name
 unfold nsFind findBy at e
 rw[←Array.find?_toList]at e
 unfold PySem.W.lookIn
 rw[hd]
 dsimp only
 split
 ·rename_i y q
  rw[q]at e
  exact congrArg some e
 ·rename_i q
  rw[q]at e
  have a:es.toList.any (·.refKey)=false:=by
   rw[List.any_eq_false]
   intro y hy
   obtain⟨z,t,fF⟩:=hk y (Array.mem_toList_iff.mp hy)
   simp[DictEntry.refKey,fF]
  have a':¬es.toList.any (·.refKey)=true:=by rw[a];exact Zh
  rw[if_neg a']
  exact congrArg some e
def ObjM.look(I:ObjM h x dx C mA):∃od,PySem.W.InstAt h x (PySem.W.instObj C dx) C (QB od)∧∀name,PySem.W.lookIn name od=some (mA name) :=
 let⟨od,ho,hl⟩:=lookIn_ns I.ns
 ⟨od,⟨I.obj,rfl,rfl,ho⟩,hl⟩
section
variable{prog:Ni}{w:Nk}{A:No}{E:Nc}{s:Nh}{K:Na}{x dx C f:Nb}{mA:Nd}{name:Str}{v:Value}
def get_map(X:K.In s.heap)(I:ObjM s.heap x dx C mA)(hg:PySem.W.plainGet K C name=true)(hh:PySem.W.hasDictIn K C=true)(ha:PySem.W.findIn K (ZZ C) name=some none)(hv:mA name=some v)(aT:PySem.W.handedIn v=true)(h:Q v {s with toks:=s.toks+1}) :
  wpAny Z8 A (getAttr (ZZ x) name expr) Q E s:=by
 obtain⟨od,J,hl⟩:=I.look
 exact PySem.W.get_value X J (PySem.W.plainGet_of hg).1 (PySem.W.findObj_own hh ha rfl (by rw[hl,hv])) aT h
def get_meth(X:K.In s.heap)(I:ObjM s.heap x dx C mA)(hg:PySem.W.plainGet K C name=true)(hf:PySem.W.findIn K (ZZ C) name=some (ZP f))(ht:PySem.W.isFn K (ZZ f)=true)(hv:mA name=none)(h:Q (ZZ f,[ZZ x]) s) :
  wpAny Z8 A (getMethod (ZZ x) name pl) Q E s:=by
 obtain⟨od,J,hl⟩:=I.look
 exact PySem.W.method_fn X J (PySem.W.plainGet_of hg).1 (PySem.W.plainGet_of hg).2 hf (beq_iff_eq.mp ht) (by show(PySem.W.lookIn name od).map (·.isSome)=some false;rw[hl,hv];rfl) h
def set_map(X:K.In s.heap)(I:ObjM s.heap x dx C mA)(hs:PySem.W.findIn K (ZZ C) "__setattr__" = some (QB (.builtin "object.__setattr__")))(hp:PySem.W.plainOver K C=true)(ht:PySem.W.takerIn K C name=some none)(hh:PySem.W.hasDictIn K C=true)(hw:PySem.Within mA ns)(hsz:ns.length≤sizeLine)(h:∀h',ObjM h' x dx C (λy=>if y=name then some v else mA y)→Heap.SameBut dx s.heap h'→Q () {s with heap:=h',toks:=s.toks+2}) :
  wpAny Z8 A (setAttr (ZZ x) name v) Q E s:=by
 obtain⟨od,J,hl⟩:=I.look
 refine PySem.W.set_plain X J hs (PySem.W.osa_open (s:={s with toks:=s.toks+1}) (r:=none) X J hp ht λb=>?_)
 obtain⟨cd,hc,gZ⟩:=PySem.W.any_some hh
 have hx:s.heap.get? x=some ⟨ZZ C,QB dx,.plain,#[]⟩:=I.obj
 refine wpAny_bind (wpAny_pure (wpAny_bind (wpAny_bind (wpAny_loadPart hx (wpAny_bind (PySem.W.Looks.here (s:={s with toks:=s.toks+1}) (PySem.W.looks_clsIn X hc) ?_))))))
 rw[gZ]
 refine wpAny_pure (a:=some dx) (wpAny_bind (wpAny_pure (wpAny_bind ?_)))
 refine wpAny_nsSet1 (s:={s with toks:=s.toks+1}) I.ns λh' bm cv=>?_
 obtain⟨oD,esD,epD,hoD,hdD,hcD⟩:=bm.count (PySem.Within.cons name v hw)
 refine wpAny_bind (wpAny_lookBehind hoD (by rw[hdD];exact pastItsLine_dict (Zi hcD (by rw[Qv];exact zar4 ‹_›))) ?_)
 exact wpAny_pure (h _ ⟨(cv.2 _ (Zn I.ne)).trans I.obj,bm,I.ne⟩ cv)
def make_map(X:K.In s.heap)(hm:PySem.W.makesIn K C=true)(hi:PySem.W.findIn K (ZZ C) "__init__" = some (ZP f))(hf:PySem.W.typeIn K (ZZ f)=some (.type "function"))(h:codeAny Z8 (A.under (.builtin "type.__call__" ⟨.ref C::vs,kw⟩)) (.call (ZZ f) ⟨.ref QU::vs,kw⟩) (PySem.W.InitBack QU R)
   {s with heap:=(s.heap.push PySem.W.emptyDict).push (PySem.W.instObj C s.heap.objs.size)}) :
  codeAny Z8 A (.call (ZZ C) ⟨vs,kw⟩) R s:=by
 obtain⟨hh,g,d,t,os⟩:=s
 exact PySem.W.make_core (PySem.W.makes_of X hm) (PySem.W.looks_findIn X hi) (λself=>PySem.W.bind_fn X self hf) QX h
end
def putF(f:Str)(v:V):List (Str×V)→List (Str×V)
 |[]=>[(f,v)]
 |(g,x)::r=>if g=f then(g,v)::r else(g,x)::putF f v r
theorem zgi(f g:Str)(v:V):∀fs:List (Str×V),(putF f v fs).lookup g=if g=f then some v else fs.lookup g
 | []=>by
  show List.lookup g [(f,v)]=_
  by_cases h:g=f
  ·have hb:(g == f)=true:=beq_iff_eq.mpr h
   simp only[List.lookup,hb,if_pos h]
  ·have hb:(g == f)=false:=beq_eq_false_iff_ne.mpr h
   simp only[List.lookup,hb,if_neg h]
 | (k,x)::r=>by
  have ih:=zgi f g v r
  rw[show putF f v ((k,x)::r)=(if k=f then(k,v)::r else(k,x)::putF f v r) from rfl]
  by_cases hk:k=f
  ·rw [if_pos hk]
   by_cases h:g=k
   ·have hb:(g == k)=true:=beq_iff_eq.mpr h
    simp only[List.lookup,hb,if_pos (h.trans hk)]
   ·have hb:(g == k)=false:=beq_eq_false_iff_ne.mpr h
    simp only[List.lookup,hb,if_neg (λe:g=f=>h (e.trans hk.symm))]
  ·rw [if_neg hk]
   by_cases h:g=k
   ·have hb:(g == k)=true:=beq_iff_eq.mpr h
    simp only[List.lookup,hb,if_neg (λe:g=f=>hk (h.symm.trans e))]
   ·have hb:(g == k)=false:=beq_eq_false_iff_ne.mpr h
    simp only[List.lookup,hb]
    exact ih
theorem zgl(f:Str)(v:V):∀fs:List (Str×V),f∈(putF f v fs).map (·.1)∧∀g,g∈fs.map (·.1)→g∈(putF f v fs).map (·.1)
 |[]=>⟨by simp[putF],λg h=>by simp at h⟩
 | (k,x)::r=>by
  obtain⟨i1,i2⟩:=zgl f v r
  rw[show putF f v ((k,x)::r)=(if k=f then(k,v)::r else(k,x)::putF f v r) from rfl]
  by_cases hk:k=f
  ·rw [if_pos hk]
   subst hk
   exact⟨ZM,λg h=>by simpa using h⟩
  ·rw [if_neg hk]
   refine⟨?_,λg h=>?_⟩
   ·rw [Qm]
    exact Qe _ i1
   ·rw [Qm] at h ⊢
    rcases Qg.mp h with e | e
    ·exact Qg.mpr (.inl e)
    ·exact Qe _ (i2 g e)
theorem zgj(f:Str)(v:V):∀fs:List (Str×V),(putF f v fs).length≤fs.length+1
 |[]=>by simp[putF]
 |(k,x)::r=>by
  have ih:=zgj f v r
  rw[show putF f v ((k,x)::r)=(if k=f then(k,v)::r else(k,x)::putF f v r) from rfl]
  by_cases hk:k=f
  ·rw[if_pos hk,Qv,Qv];exact Wq _ _
  ·rw[if_neg hk,Qv,Qv];exact zar4 ‹_›
def RelO.some_of(r:RelO (QB v) o):∃u,o=some u∧RelV v u:=by
 cases o with
 |none=>exact(show False from r).elim
 |some u=>exact⟨u,rfl,r⟩
def RelO.none_of(r:RelO none o):o=none:=by
 cases o with
 |none=>rfl
 |some u=>exact(show False from r).elim
def handed_of(r:RelV v u):PySem.W.handedIn u=true:=by
 cases v with
 |non=>cases(show u=Value.none from r);rfl
 |bl b=>cases(show u=Value.bool b from r);rfl
 |int i=>obtain⟨t,e⟩:=(show ∃t,u=Value.int i t from r);cases e;rfl
 |str x=>obtain⟨t,e⟩:=(show ∃t,u=Value.str x t from r);cases e;rfl
 |byt b=>obtain⟨t,e⟩:=(show ∃t,u=Value.bytes b t from r);cases e;rfl
 |flt b=>obtain⟨t,e⟩:=(show ∃t,u=Value.float b t from r);cases e;rfl
 |ref a=>cases(show u=Value.ref a from r);rfl
 |ty n=>cases(show u=Value.type n from r);rfl
section
variable{P:Ni}{w:Nk}{H H':Hp}{h h':Nm}{a C dx:Nb}{fs fs':List (Str×V)}
def ins_get(hok:HOk P w H h)(e:H a=some (.ins C dx fs)):∃mA,ObjM h a dx C mA∧(∀f,RelO (fs.lookup f) (mA f))∧PySem.Within mA (fs.map (·.1))∧fs.length≤1000∧H dx=some (.own a):=by
 obtain⟨d,z,ne,ob,mA,n,r,q⟩:=(show zbw P w H h a (.ins C dx fs) from hok a _ e)
 exact⟨mA,⟨ob,n,ne⟩,r,q,z,d⟩
end
structure Cls(K:Na)(C:Nb):Prop where
 pg:PySem.W.plainGet K C Str.empty=true
 hd:PySem.W.hasDictIn K C=true
 po:PySem.W.plainOver K C=true
 sa:PySem.W.findIn K (ZZ C) "__setattr__" = some (QB (.builtin "object.__setattr__"))
def Cls.get{K:Na}{C:Nb}(c:Cls K C)(f:Str):PySem.W.plainGet K C f=true:=c.pg
def zd2(K:Na)(C:Nb)(f:Str):Prop:=PySem.W.findIn K (ZZ C) f=some none
def zd2.taker{K:Na}{C:Nb}{f:Str}(n:zd2 K C f):PySem.W.takerIn K C f=some none:=by
 unfold PySem.W.takerIn
 rw[show PySem.W.findIn K (ZZ C) f=some none from n]
 rfl
structure Meth(K:Na)(C:Nb)(m:Str)(f:Nb):Prop where
 at_:PySem.W.findIn K (ZZ C) m=some (ZP f)
 fn:PySem.W.isFn K (ZZ f)=true
 kp:PySem.W.keepIn K (ZZ f)=true
section
variable{X:Cx}{a7:Ng}{σ:St}{H:Hp}{s:Nh}{a C dx:Nb}{fs:List (Str×V)}{f:Str}{v:V}{A:No}{E:Nc}
def getattr_ok(I:QT)(e:H a=some (.ins C dx fs))(c:Cls X.K C)(n:zd2 X.K C f)(l:fs.lookup f=some v)(h:∀u s',ZA H s'→RelV v u→Q u s'):wpAny ZY A (getAttr (ZZ a) f b) Q E s:=by
 obtain⟨mA,O,r,_,_,_⟩:=ins_get I.hok e
 obtain⟨u,hu,ru⟩:=RelO.some_of (v:=v) (o:=mA f) (by rw[←l];exact r f)
 exact get_map I.kIn O (c.get f) c.hd n hu (handed_of ru) (h u _ (I.tok _) ru)
def ze8(I:QT)(e:H a=some (.ins C dx fs))(c:Cls X.K C)(k:Meth X.K C m g)(l:fs.lookup m=none)(h:Q (ZZ g,[ZZ a]) s):wpAny ZY A (getMethod (ZZ a) m pl) Q E s:=by
 obtain⟨mA,O,r,_,_,_⟩:=ins_get I.hok e
 have hn:mA m=none:=RelO.none_of (by rw[←l];exact r m)
 exact get_meth I.kIn O (c.get m) k.at_ k.fn hn h
def setattr_ok(I:QT)(e:H a=some (.ins C dx fs))(c:Cls X.K C)(n:zd2 X.K C f)(hl:fs.length<1000)(ry:RelV y u)(h:∀s',ZA (upd H a (.ins C dx (putF f y fs))) s'→Q () s'):wpAny ZY A (setAttr (ZZ a) f u) Q E s:=by
 obtain⟨mA,O,r,wi,_,ho⟩:=ins_get I.hok e
 have hz:(fs.map (·.1)).length≤sizeLine:=by rw[Qa,sizeLine_eq];lia
 refine set_map I.kIn O c.sa c.po n.taker c.hd wi hz λh' O' sb=>h _ ?_
 have hd:∃o,h'.get? dx=some o:=let⟨o,_,_,e',_⟩:=O'.ns;⟨o,e'⟩
 refine I.write (x:=a) (e:=dx) (by rw[e];exact True.intro) (.inr ho) (λb q hb z=>(sb.2 b hb).trans z) hd ?_
 refine⟨by rw[zaf O.ne];exact ho,?_,O.ne,O'.obj,_,O'.ns,λg=>?_,λg hg=>?_⟩
 ·have:=zgj f y fs;exact Zi ‹_› ‹_›
 ·show RelO ((putF f y fs).lookup g) (if g=f then some u else mA g)
  rw[zgi]
  by_cases q:g=f
  ·rw[if_pos q,if_pos q];exact ry
  ·rw[if_neg q,if_neg q];exact r g
 ·by_cases q:g=f
  ·rw[q];exact(zgl f y fs).1
  ·refine (zgl f y fs).2 g (wi g fun z=>hg ?_)
   show(if g=f then some u else mA g)=none
   rw[if_neg q];exact z
def Inv.made(I:QT):ZA (upd (upd H s.heap.objs.size (.own QU)) QU (.ins C s.heap.objs.size []))
  {s with heap:=(s.heap.push PySem.W.emptyDict).push (PySem.W.instObj C s.heap.objs.size)}:=by
 have e1:(s.heap.push PySem.W.emptyDict).get? s.heap.objs.size=some PySem.W.emptyDict:=Za s.heap rfl
 have e2:((s.heap.push PySem.W.emptyDict).push (PySem.W.instObj C s.heap.objs.size)).get? QU=some (PySem.W.instObj C s.heap.objs.size):=by
  have:=Za (s.heap.push PySem.W.emptyDict) (o:=PySem.W.instObj C s.heap.objs.size) rfl
  rwa[Wo]at this
 have e3:(s.heap.push PySem.W.emptyDict).Ns s.heap.objs.size (λ_=>none):=⟨PySem.W.emptyDict,#[],_,e1,rfl,(λe he=>absurd he ZM),λ_=>rfl⟩
 have I1:=I.laid (a:=s.heap.objs.size) (o:=.own QU) (h':=s.heap.push PySem.W.emptyDict) (t':=s.toks) (λb u q=>Qi _ q) QK ⟨_,e1⟩
 refine I1.laid (a:=s.heap.objs.size+1) (o:=.ins C s.heap.objs.size []) (t':=s.toks) (λb u q=>Qi _ q) (Xe (Wo _ _)) ?_
 have ne:s.heap.objs.size≠s.heap.objs.size+1:=Zg (Yz _)
 refine⟨by rw[zaf ne,zac],Zc _,ne,e2,λ_=>none,(Heap.Ns1.of_empty e3).at λo q=>Qi _ q,λ_=>True.intro,λy hy=>absurd rfl hy⟩
def attr_of(hb:attributeBase e f env (eval e env)=eval e env)(h:ZF (eval e env) (λo s₁=>ZF (getAttr o f true) Q E s₁) E s):ZF (eval (.Attribute e f pos) env) Q E s :=
 Attribute_any_ h (by rw[arm_eval_Attribute,hb])
end
inductive RFld(K:Na)(f:Str)(x:V)(H:Hp)(Q:VK):Prop
 |mk (a C dx:Nb) (fs:List (Str×V)) (v:V) (e:x=.ref a) (h:H a=some (.ins C dx fs)) (c:Cls K C) (n:zd2 K C f) (l:fs.lookup f=some v) (q:Q v H):RFld K f x H Q
def tFld(K:Na)(ta:TE)(f:Str):TE:=λ σ H Q=>ta σ H λx H1=>RFld K f x H1 Q
inductive RFs(K:Na)(f:Str)(x y:V)(H:Hp)(N:Hp→Prop):Prop
 |mk (a C dx:Nb) (fs:List (Str×V)) (e:x=.ref a) (h:H a=some (.ins C dx fs)) (c:Cls K C) (n:zd2 K C f) (l:fs.length<1000) (q:N (upd H a (.ins C dx (putF f y fs)))):RFs K f x y H N
def sFld(K:Na)(ta tv:TE)(f:Str):TS:=λD σ H=>tv σ H λy H1=>ta σ H1 λx H2=>RFs K f x y H2 (D.nx σ)
def InOp(X:Cx)(op:Operator)(rd:V→V→Hp→VK→Prop):Prop :=
 ∀(a7:Ng) (s:Nh) (σ:St) (H:Hp) (x y:V) (u v:Value) (Q:VK),ZA H s→RelV x u→RelV y v→rd x y H Q→ZD (inplaceOp op u v) WY X.xe s
section
variable{X:Cx}{o e value:Expr}{f:Str}{pos aE tpos:Pos}{ta tv:TE}
def pe_fld(he:PE X e ta)(hb:attributeBase e f X.env (WB e)=eval e X.env):PE X (.Attribute e f pos) (tFld X.K ta f):=by
 intro a7 s σ H Q I h
 refine attr_of hb (thn (he a7 s σ H _ I h) λu s1 ⟨x,H1,I1,rx,a,C,dx,fs,v,ex,ea,c,n,l,q⟩=>?_)
 subst ex
 obtain rfl:u=Value.ref a:=rx
 exact getattr_ok I1 ea c n l λu' s2 I2 ru=>⟨v,H1,I2,ru,q⟩
def ps_fld(ha:PE X o ta)(hv:PE X value tv)(hs:swapsWith value (QB (.Attribute o f aE)) pos.line X.env=pure false):PS X (.Assign [.Attribute o f aE] value pos) (sFld X.K ta tv f):=by
 intro a7 s σ H D I h
 refine plainObj_wpAny_Assign_Attribute (thn (hv a7 s σ H _ I h) λu s1 ⟨y,H1,I1,ry,q⟩=>thn (ha a7 s1 σ H1 _ I1 q) λov s2 ⟨x,H2,I2,rx,a,C,dx,fs,ex,ea,c,n,l,q2⟩=>?_) hs
 subst ex
 obtain rfl:ov=Value.ref a:=rx
 exact setattr_ok I2 ea c n l ry λs3 I3=>⟨σ,_,I3,q2⟩
def rSub:V→V→Hp→VK→Prop:=λx y H Q=>∃i j,x=.int i∧y=.int j∧Q (W6 (i-j)) H
def in_sub:InOp X .Sub rSub:=by
 rintro a7 s σ H x y u v Q I rx ry ⟨i,j,rfl,rfl,q⟩
 obtain⟨t,rfl⟩:=(show ∃t,u=Value.int i t from rx)
 obtain⟨t',rfl⟩:=(show ∃t',v=Value.int j t' from ry)
 exact PyProof.Rows.isub_int ⟨W6 (i-j),H,I.tok _,⟨_,rfl⟩,q⟩
def methcall_of(he:PE X e te)(I:QT)(h:te σ H fun x H1=>∃ a C dx fs g,x=.ref a∧H1 a=some (.ins C dx fs)∧Cls X.K C∧Meth X.K C m g∧fs.lookup m=none ∧
   ∀s1,ZA H1 s1→ZD (callWith pos (ZZ g) [ZZ a] (backTo pos (starEach args X.env)) (backToKw pos (keywordEach [] X.env))) Q X.xe s1)(ht:eval (.Call (.Attribute e m apos) args [] pos) X.env=(do
   let ov ←eval e X.env
   standAt apos.atName
   let(f,first) ←holding [ov] (getMethod ov m pl)
   callWith pos f first (backTo pos (starEach args X.env)) (backToKw pos (keywordEach [] X.env)))) :
  wpAny ZY X.A (WB (.Call (.Attribute e m apos) args [] pos)) Q X.xe s:=by
 refine Xk (pl:=pl) (thn (he a7 s σ H _ I h) λu s1 ⟨x,H1,I1,rx,a,C,dx,fs,g,ex,ea,c,k,l,q⟩=>?_) ht
 subst ex
 obtain rfl:u=Value.ref a:=rx
 exact ze8 I1 ea c k l (q s1 I1)
end
section
variable{X:Cx}{a7:Ng}{σ:St}{H:Hp}{s:Nh}{A:No}{E:Nc}{Q:Nc}{c:Value}{b:Bool}
end
end L2
namespace L2
open PySem PySem.Spec PyProof.Rows
structure Room(k:Nat)(A:No):Prop where
 hd:A.handled=none
 dp:A.depth+3*k+5<recursionLimit
 un:A.units+16*k+200<cLine
def Room.mono(r:Room k A)(h:j≤k):Room j A:=⟨r.hd,by have:=r.dp;lia,by have:=r.un;lia⟩
def Room.deeper{k:Nat}{A:No}(r:Room (k+1) A)(env:Env):Room k (A.deeper env) :=
 ⟨r.hd,by have:=r.dp;show A.depth+1+3*k+5<_;lia,by have:=r.un;show A.units+3+16*k+200<_;lia⟩
def make_depth{A:No}:(A.under (.builtin "type.__call__" ⟨.ref C::us,kw⟩)).depth=A.depth+1:=by
 first | rfl | simp[Around.under,Code.weight,Code.isCreation,Code.isGuard,Code.isCaller,Code.frames,Code.isFrame,guardIds]
def make_units{A:No}:(A.under (.builtin "type.__call__" ⟨.ref C::us,kw⟩)).units=A.units+1:=by
 first | rfl | simp[Around.under,Code.cUnits,Code.frames,Code.isFrame]
def Room.make(r:Room (k+1) A)(C:Nb)(us:Nj)(kw:List (Str×Value)):Room k (A.under (.builtin "type.__call__" ⟨.ref C::us,kw⟩)) :=
 ⟨r.hd,by have:=r.dp;rw[make_depth];lia,by have:=r.un;rw[make_units];lia⟩
def Room.depth{k:Nat}{A:No}(r:Room k A):A.depth<recursionLimit:=by have:=r.dp;lia
def Room.units(r:Room k A):A.units+64<cLine:=by have:=r.un;lia
def tNil:TA:=λ_ H Q=>Q [] H
def tCons(ta:TE)(tr:TA):TA:=λ σ H Q=>ta σ H λx H1=>tr σ H1 λxs H2=>Q (x::xs) H2
section
variable{X:Cx}{e:Expr}{es:Np}{te:TE}{t:TA}{pos:Pos}
def zae:PA X [] tNil:=λ_ _ _ _ H Q I h=>Xi ⟨[],H,I,.nil,h⟩
def zaa(ha:PE X e te)(hr:PA X es t)(hs:starEach (e::es) X.env=(false,WB e)::starEach es X.env:=by rfl):PA X (e::es) (tCons te t):=by
 intro pos a7 s σ H Q I h
 rw[hs]
 show wpAny _ _ (spliced ((false,WB e)::backTo pos (starEach es X.env))) _ _ s
 refine Jr (thn (ha a7 s σ H _ I h) λu s1 ⟨x,H1,I1,r1,q1⟩=>?_)
 exact thn (hr pos a7 s1 σ H1 _ I1 q1) λus s2 ⟨xs,H2,I2,r2,q2⟩=>⟨x::xs,H2,I2,.cons r1 r2,q2⟩
def tTup(t:TA):TE:=λ σ H Q=>t σ H λxs H1=>xs.length≤sizeLine∧∀p,H1 p=none→Q (ZZ p) (upd H1 p (.tup xs))
def tLst(t:TA):TE:=λ σ H Q=>t σ H λxs H1=>xs.length≤sizeLine∧∀p,H1 p=none→Q (ZZ p) (ZW H1 p xs)
def zbo{x1}(h:PA X es t):PE X (.Tuple es x1 pos) (tTup t):=by
 intro a7 s σ H Q I hq
 refine wpAny_Tuple_spliced (thn (h pos a7 s σ H _ I hq) λus s1 ⟨xs,H1,I1,r,z,q⟩=>⟨by rw[←r.length];exact z,?_⟩)
 have hf:H1 s1.heap.objs.size=none:=I1.hok.fresh QK
 refine⟨.ref s1.heap.objs.size,upd H1 s1.heap.objs.size (.tup xs),I1.laid (t':=s1.toks) (λb u e=>Qi _ e) QK ?_,rfl,q _ hf⟩
 exact⟨z,us,r,⟨_,Za _ rfl,rfl,W7⟩⟩
def zbk(h:PA X es t):PE X (.List es pos) (tLst t):=by
 intro a7 s σ H Q I hq
 refine wpAny_List_spliced (thn (h pos a7 s σ H _ I hq) λus s1 ⟨xs,H1,I1,r,z,q⟩=>⟨by rw[←r.length];exact z,?_⟩)
 have hf:H1 s1.heap.objs.size=none:=I1.hok.fresh QK
 refine⟨.ref s1.heap.objs.size,upd H1 s1.heap.objs.size (QZ xs),I1.laid (t':=s1.toks) (λb u e=>Qi _ e) QK ?_,rfl,q _ hf⟩
 exact⟨z,us,0,r,Za _ rfl⟩
end
abbrev Sp:=List V→Hp→VK→XK→Prop
abbrev CXT:=List Env→Hp→Shared→XK→Value→Shared→Prop
structure Env0(P:Ni)(w:Nk)(K:Na)(mg:Nd)(base:Nm)(A:No)(outer:List Env)(s:Nh)(H:Hp):Prop where
 frames:A.frames=some outer
 mod:Mod K mg base
 bs:∀b o,base.get? b=some o→s.heap.get? b=some o∧H b=none
 bsz:base.objs.size≤s.heap.objs.size
 funs:s.heap.FunFrames base outer
 frf:∀b∈frs outer,H b=none
 hok:HOk P w H s.heap
 bare:AllBare s.gens
inductive CE(outer:List Env)(P:Ni)(w:Nk)(H:Hp)(s:Nh)(Q:VK)(u:Value)(s':Nh):Prop
 |mk (v:_) (H':_) (h0:s'.os=s.os) (h1:AllBare s'.gens) (h2:Un (frs outer) [] H H' s.heap s'.heap) (h3:HOk P w H' s'.heap) (h4:RelV v u) (h5:Q v H'):CE outer P w H s Q u s'
def CR(CX:CXT)(outer:List Env)(P:Ni)(w:Nk)(H:Hp)(s:Nh)(Q:VK)(E:XK)(r:Result)(s':Nh):Prop :=
 match r with
 |.ok (.ret u)=>CE outer P w H s Q u s'
 |.ok _=>False
 |.error e=>CX outer H s E e s'
structure FnOk(P:Ni)(w:Nk)(K:Na)(mg:Nd)(base:Nm)(CX:CXT)(k:Nat)(f:Nb)(fd:Nr)(ps:Nf)(sp:Sp):Prop where
 len:∀vs H Q E,sp vs H Q E→vs.length=ps.length
 run:∀(A:No) (outer:List Env) (s:Nh) (H:Hp) (args:Args) (us:Nj) (vs:List V) (Q:VK) (E:XK),Room k A→Env0 P w K mg base A outer s H→BindsTo s fd args (ps.zip us)→Vals vs us→sp vs H Q E →
  codeAny (model P w) A (.call (ZZ f) args) (CR CX outer P w H s Q E) s
def FnOk.imp{P:Ni}{w:Nk}{K:Na}{mg:Nd}{base:Nm}{CX:CXT}{k:Nat}{f:Nb}{fd:Nr}{ps:Nf}{sp sp':Sp}(F:FnOk P w K mg base CX k f fd ps sp)(h:∀vs H Q E,sp' vs H Q E→sp vs H Q E):FnOk P w K mg base CX k f fd ps sp' :=
 ⟨λvs H Q E q=>F.len vs H Q E (h _ _ _ _ q),λA outer s H args us vs Q E hr he hb hv hs=>F.run A outer s H args us vs Q E hr he hb hv (h _ _ _ _ hs)⟩
def Env0.make{P:Ni}{w:Nk}{K:Na}{mg:Nd}{base:Nm}{A:No}{outer:List Env}{s:Nh}{H:Hp}(e:Env0 P w K mg base A outer s H)(C:Nb)(us:Nj)(kw:List (Str×Value)) :
  Env0 P w K mg base (A.under (.builtin "type.__call__" ⟨.ref C::us,kw⟩)) outer s H:=⟨by first | exact e.frames | (simpa[Around.under,Code.envs,Code.isFrame,pushEnvs] using e.frames),e.mod,e.bs,e.bsz,e.funs,e.frf,e.hok,e.bare⟩
section
variable{X:Cx}{a7:Ng}{σ:St}{H:Hp}{s s':Nh}
def Inv.env0(I:QT):Env0 X.prog X.w X.K X.mg X.base X.A X.stack s H :=
 ⟨I.ok.frames,I.ok.mod,I.bs,Zi I.ok.bsz I.sz,I.stack,I.stkFree,I.hok,I.bare⟩
def Inv.after(I:QT)(h:CE X.stack X.prog X.w H s Q u s'):EP X a7 σ Q u s':=by
 obtain⟨v,H',os,bare,un,hok,r,q⟩:=h
 obtain⟨hh,g,d,t,qg⟩:=s'
 obtain rfl:qg=s.os:=os
 exact⟨v,H',I.call (h':=hh) (g':=g) (d':=d) (t':=t) (ch:=[]) un hok bare (λb z=>absurd z ZM),r,q⟩
end
def tCall(sp:Sp)(dvs:List V)(E:XK)(t:TA):TE:=λ σ H Q=>t σ H λvs H1=>sp (vs++dvs) H1 Q E
inductive RMe(C:Nb)(m:Str)(x:V)(H:Hp)(R:Prop):Prop
 |mk (a dx:Nb) (fs:List (Str×V)) (e:x=.ref a) (h:H a=some (.ins C dx fs)) (l:fs.lookup m=none) (q:R):RMe C m x H R
def tMeth(C:Nb)(m:Str)(sp:Sp)(dvs:List V)(E:XK)(ta:TE)(t:TA):TE:=λ σ H Q=>ta σ H λx H1=>RMe C m x H1 <|
 t σ H1 λvs H2=>sp (x::(vs++dvs)) H2 Q E
def tMake(C:Nb)(sp:Sp)(dvs:List V)(E:XK)(t:TA):TE:=λ σ H Q=>t σ H λvs H1=>∀x dx,H1 x=none→H1 dx=none→dx≠x →
 sp (.ref x::(vs++dvs)) (upd (upd H1 dx (.own x)) x (.ins C dx [])) (λv H2=>v=.non∧Q (ZZ x) H2) E
def Binds(K:Na)(fd:Nr)(ps:Nf)(ds:Nj):Prop :=
 ∀(s:Nh) (us:Nj),K.In s.heap→(us++ds).length=ps.length→BindsTo s fd ⟨us,[]⟩ (ps.zip (us++ds))
def Binds.all{K:Na}{fd:Nr}{ps:Nf}(h:∀us:List Value,us.length=ps.length→bindArgs fd ⟨us,[]⟩=pure (ps.zip us)):Binds K fd ps []:=λs us _ hl=>by
 rw[Zw]at hl ⊢
 exact .of_eq (h us hl)
def zgv(CX:CXT)(X:Cx)(E:XK):Prop:=∀(a7:Ng) (σ:St) (H:Hp) (s:Nh) (e:Value) (s':Nh),ZA H s→CX X.stack H s E e s'→X.xe e s'
section
variable{X:Cx}{CX:CXT}{k:Nat}{f C:Nb}{fd:Nr}{ps:Nf}{sp:Sp}{dvs:List V}{ds:Nj}{E:XK}{x m:Str}{p pos apos:Pos}{e o:Expr}{es:Np}{ta:TE}{t:TA}
def run_fn(F:WS)(hr:Room k X.A)(hb:Binds X.K fd ps ds)(hd:Vals dvs ds)(hx:zgv CX X E)(I:QT)(r:Vals vs us)(h:sp (vs++dvs) H Q E):ZD (call (ZZ f) us) WY X.xe s:=by
 have r2:Vals (vs++dvs) (us++ds):=r.append hd
 have hl:(us++ds).length=ps.length:=by rw[←r2.length];exact F.len _ _ _ _ h
 refine wpAny_call (codeAny_mono (F.run X.A X.stack s H ⟨us,[]⟩ (us++ds) (vs++dvs) Q E hr I.env0 (hb s us I.kIn hl) r2 h) λr s' hq=>?_)
 cases r with
 |error e=>exact hx a7 σ H s e s' I hq
 |ok fl =>
  cases fl with
  |ret u=>exact I.after hq
  |next=>exact False.elim hq
  |brk=>exact False.elim hq
  |cont=>exact False.elim hq
def zcq(F:WS)(hr:Room k X.A)(hg:Gl X x)(hm:X.mg x=some (ZZ f))(hk:PySem.W.keepIn X.K (ZZ f)=true)(hb:Binds X.K fd ps ds)(hd:Vals dvs ds)(hx:zgv CX X E)(ha:PA X (e::es) t)(fT:WT=false:=by decide)(he:starEach (e::es) X.env=(false,WB e)::starEach es X.env:=by rfl)(bd:(backTo pos (starEach es X.env)).any (·.1)=false:=by rfl) :
  PE X (.Call (.Name x p) (e::es) [] pos) (tCall sp dvs E t):=by
 intro a7 s σ H Q I h
 refine wpAny_Call_Name_kw (ld_glob I hg hm ?_ fT)
 refine PySem.W.callWith_K (h₀:=X.base) I.ok.mod.kin hk (thn (ha pos a7 s σ H _ I h) λus s1 ⟨vs,H1,I1,r,q⟩=>⟨I1.kIn,?_⟩) he bd
 exact run_fn F hr hb hd hx I1 r q
def zgc(he:PE X o ta)(c:Cls X.K C)(hm:Meth X.K C m f)(F:WS)(hr:Room k X.A)(hb:Binds X.K fd ps ds)(hd:Vals dvs ds)(hx:zgv CX X E)(ha:PA X (e::es) t)(ap:starEach (e::es) X.env=(false,WB e)::starEach es X.env:=by rfl)(bd:(backTo pos (starEach es X.env)).any (·.1)=false:=by rfl)(ht:eval (.Call (.Attribute o m apos) (e::es) [] pos) X.env=(do
   let ov ←eval o X.env
   standAt apos.atName
   let(f,first) ←holding [ov] (getMethod ov m pl)
   callWith pos f first (backTo pos (starEach (e::es) X.env)) (backToKw pos (keywordEach [] X.env))):=by rfl) :
  PE X (.Call (.Attribute o m apos) (e::es) [] pos) (tMeth C m sp dvs E ta t):=by
 intro a7 s σ H Q I h
 refine Xk (pl:=pl) (thn (he a7 s σ H _ I h) λu s1 ⟨x,H1,I1,rx,a,dx,fs,ex,ea,l,q⟩=>?_) ht
 subst ex
 obtain rfl:u=Value.ref a:=rx
 refine ze8 I1 ea c hm l ?_
 refine PySem.W.callWith_K (first:=[ZZ a]) (h₀:=X.base) I.ok.mod.kin hm.kp (thn (ha pos a7 s1 σ H1 _ I1 q) λus s2 ⟨vs,H2,I2,r,q2⟩=>⟨I2.kIn,?_⟩) ap bd
 exact run_fn (us:=.ref a::us) (vs:=.ref a::vs) F hr hb hd hx I2 (.cons rfl r) q2
def pe_meth0(he:PE X o ta)(c:Cls X.K C)(hm:Meth X.K C m f)(F:WS)(hr:Room k X.A)(hb:Binds X.K fd ps ds)(hd:Vals dvs ds)(hx:zgv CX X E)(ht:eval (.Call (.Attribute o m apos) [] [] pos) X.env=(do
   let ov ←eval o X.env
   standAt apos.atName
   let(f,first) ←holding [ov] (getMethod ov m pl)
   callWith pos f first (backTo pos (starEach [] X.env)) (backToKw pos (keywordEach [] X.env))):=by rfl) :
  PE X (.Call (.Attribute o m apos) [] [] pos) (tMeth C m sp dvs E ta tNil):=by
 intro a7 s σ H Q I h
 refine Xk (pl:=pl) (thn (he a7 s σ H _ I h) λu s1 ⟨x,H1,I1,rx,a,dx,fs,ex,ea,l,q⟩=>?_) ht
 subst ex
 obtain rfl:u=Value.ref a:=rx
 refine ze8 I1 ea c hm l ?_
 exact PySem.W.callWith_K0 (first:=[ZZ a]) I1.kIn hm.kp (run_fn (us:=[ZZ a]) (vs:=[ZZ a]) F hr hb hd hx I1 (.cons rfl .nil) q)
structure Mk(K:Na)(C f:Nb):Prop where
 makes:PySem.W.makesIn K C=true
 init:PySem.W.findIn K (ZZ C) "__init__" = some (ZP f)
 fn:PySem.W.isFn K (ZZ f)=true
 kp:PySem.W.keepIn K (ZZ C)=true
def run_make(M:Mk X.K C f)(F:WS)(hr:Room (k+1) X.A)(hb:Binds X.K fd ps ds)(hd:Vals dvs ds)(hx:zgv CX X E)(I:QT)(r:Vals vs us)(h:∀x dx,H x=none→H dx=none→dx≠x→sp (.ref x::(vs++dvs)) (upd (upd H dx (.own x)) x (.ins C dx [])) (λv H2=>v=.non∧Q (ZZ x) H2) E) :
  wpAny ZY X.A (call (ZZ C) us) WY X.xe s:=by
 have hq:=h QU s.heap.objs.size (I.hok.fresh (Uj _)) (I.hok.fresh QK) (Zg (Yz _))
 have I2:=Inv.made (C:=C) I
 have r2:Vals (V.ref QU::(vs++dvs)) (Value.ref QU::(us++ds)):=.cons rfl (r.append hd)
 have hl:(Value.ref QU::us++ds).length=ps.length:=by
  have e:=r2.length
  rw[F.len _ _ _ _ hq]at e
  exact e.symm
 refine wpAny_call (make_map (f:=f) I.kIn M.makes M.init (beq_iff_eq.mp M.fn) (codeAny_mono (F.run _ X.stack _ _ ⟨Value.ref QU::us,[]⟩ (Value.ref QU::(us++ds)) _ _ E (hr.make C us [])
  (I2.env0.make C us []) (hb _ (Value.ref QU::us) I2.kIn hl) r2 hq) λr s' dw=>?_))
 cases r with
 |error e=>exact hx a7 σ _ _ e s' I2 dw
 | ok fl =>
  cases fl with
  |ret u =>
   obtain⟨v,H',I3,rv,ev,q3⟩:=I2.after dw
   subst ev
   exact⟨rv,⟨V.ref QU,H',I3,rfl,q3⟩⟩
  |next=>exact False.elim dw
  |brk=>exact False.elim dw
  |cont=>exact False.elim dw
def pe_make(M:Mk X.K C f)(F:WS)(hr:Room (k+1) X.A)(hg:Gl X x)(hm:X.mg x=some (ZZ C))(hb:Binds X.K fd ps ds)(hd:Vals dvs ds)(hx:zgv CX X E)(ha:PA X (e::es) t)(fT:WT=false:=by decide)(he:starEach (e::es) X.env=(false,WB e)::starEach es X.env:=by rfl)(bd:(backTo pos (starEach es X.env)).any (·.1)=false:=by rfl) :
  PE X (.Call (.Name x p) (e::es) [] pos) (tMake C sp dvs E t):=by
 intro a7 s σ H Q I h
 refine wpAny_Call_Name_kw (ld_glob I hg hm ?_ fT)
 refine PySem.W.callWith_K (h₀:=X.base) I.ok.mod.kin M.kp (thn (ha pos a7 s σ H _ I h) λus s1 ⟨vs,H1,I1,r,q⟩=>⟨I1.kIn,?_⟩) he bd
 exact run_make M F hr hb hd hx I1 r q
end
section
variable{X:Cx}{CX:CXT}{k:Nat}{f C:Nb}{fd:Nr}{ps ks:Nf}{sp:Sp}{E:XK}{x m:Str}{p pos apos kpos:Pos}{e o:Expr}{es:Np}{kws:List Keyword}{te ta:TE}{t tk:TA}{nm:Option Str}
variable{g:List Value→List Value→List Value}{gV:List V→List V→List V}
end
structure zak(N P:Nf)(sc:Scope):Prop where
 kind:sc.kind=.function
 co:sc.isCoroutine=false
 gen:sc.isGenerator=false
 nd:N.Nodup
 pre:N.take P.length=P
 par:∀x∈P,sc.names.lookup x=some .local∨sc.names.lookup x=some .cell
 nofree:∀y∈sc.names,y.2≠.free
theorem bindL_out{kindOf:Str→Option NameKind}{x:Str}:∀{binds:List (Str×Value)} {m:Nd},(∀v,(x,v)∉binds)→bindL kindOf binds m x=m x
 |[],_,_=>rfl
 | (n,v)::r,m,h=>by
  unfold bindL
  rw[bindL_out λw hw=>h w (Qe _ hw)]
  split
  ·have:x≠n:=by rintro rfl;exact h v Qb
   simp[this]
  ·rfl
theorem bindC_out{kindOf:Str→Option NameKind}{x:Str}:∀{binds:List (Str×Value)} {m:Nd},(∀v,(x,v)∉binds)→bindC kindOf binds m x=m x
 |[],_,_=>rfl
 | (n,v)::r,m,h=>by
  unfold bindC
  rw[bindC_out λw hw=>h w (Qe _ hw)]
  split
  ·rfl
  ·have:x≠n:=by rintro rfl;exact h v Qb
   simp[this]
theorem bindL_get{kindOf:Str→Option NameKind}{x:Str}{v:Value}:∀{P:Nf} {vs:Nj} {i:Nat} {m:Nd},P.Nodup→P[i]?=some x→vs[i]?=some v→kindOf x=some .local →
  bindL kindOf (P.zip vs) m x=some v
 |[],_,_,_,_,h,_,_=>by simp at h
 |_::_,[],_,_,_,_,h,_=>by simp at h
 |p::P,w::vs,0,m,nd,h1,h2,hk=>by
  simp at h1 h2;subst h1;subst h2
  show bindL kindOf ((p,w)::P.zip vs) m p=_
  unfold bindL
  rw[bindL_out λv hv=>(Qq.mp nd).1 (List.of_mem_zip hv).1,if_pos hk]
  simp
 |p::P,w::vs,i+1,m,nd,h1,h2,hk=>by
  show bindL kindOf ((p,w)::P.zip vs) m x=_
  unfold bindL
  exact bindL_get (i:=i) (Qq.mp nd).2 (ZR h1) (ZR h2) hk
theorem bindC_get{kindOf:Str→Option NameKind}{x:Str}{v:Value}:∀{P:Nf} {vs:Nj} {i:Nat} {m:Nd},P.Nodup→P[i]?=some x→vs[i]?=some v→kindOf x≠some .local →
  bindC kindOf (P.zip vs) m x=some v
 |[],_,_,_,_,h,_,_=>by simp at h
 |_::_,[],_,_,_,_,h,_=>by simp at h
 |p::P,w::vs,0,m,nd,h1,h2,hk=>by
  simp at h1 h2;subst h1;subst h2
  show bindC kindOf ((p,w)::P.zip vs) m p=_
  unfold bindC
  rw[bindC_out λv hv=>(Qq.mp nd).1 (List.of_mem_zip hv).1,if_neg hk]
  simp
 |p::P,w::vs,i+1,m,nd,h1,h2,hk=>by
  show bindC kindOf ((p,w)::P.zip vs) m x=_
  unfold bindC
  exact bindC_get (i:=i) (Qq.mp nd).2 (ZR h1) (ZR h2) hk
def start(N:Nf)(vs:List V):St:=vs.map some++List.replicate (N.length-vs.length) none
def cxOf(CX:CXT)(P:Ni)(w:Nk)(K:Na)(mg:Nd)(base:Nm)(N:Nf)(qual:Str)(scope:Scope)(f:Nb)(cd:Value)(A:No)(outer:List Env)(s:Nh)(H:Hp)(E:XK):Cx where
 prog:=P
 w:=w
 K:=K
 mg:=mg
 base:=base
 A:=A.deeper (envOfC qual scope s.heap.objs.size f cd)
 N:=N
 s₀:=s
 H₀:=H
 env:=envOfC qual scope s.heap.objs.size f cd
 outer:=outer
 stack:=envOfC qual scope s.heap.objs.size f cd::outer
 ex:=[]
 calm:=true
 fn:=λ_=>true
 pn:=[]
 xe:=λe s'=>wpAny (model P w) (A.deeper (envOfC qual scope s.heap.objs.size f cd)) (leaving (envOfC qual scope s.heap.objs.size f cd) e) (λ_ lf=>CX outer H s E e lf) (λe' lf=>CX outer H s E e' lf) s'
def cell_has{sc:Scope}{n:Nat}{x:Str}(h:sc.names.lookup x=some .cell):∃c,(cellsFrom n sc.names []).lookup x=some c:=by
 have q:=PySem.W.cellsFrom_some sc.names n [] (.inl h)
 exact Option.isSome_iff_exists.mp q
def inv_start{CX:CXT}{P:Ni}{w:Nk}{K:Na}{mg:Nd}{base:Nm}{N ps:Nf}{qual:Str}{scope:Scope}{f:Nb}{cd:Value}{A:No}{outer:List Env}{s s1:Nh}{H:Hp}{E:XK}{us:Nj}{vs:List V}(S:zak N ps scope)(hd:A.handled=none)(e0:Env0 P w K mg base A outer s H)(hl:vs.length=ps.length)(r:Vals vs us)(x:InCallC s s.heap.objs.size (bindL (envOfC qual scope s.heap.objs.size f cd).kindOf (ps.zip us) λ_=>none) (cellsFrom QU scope.names []) (bindC (envOfC qual scope s.heap.objs.size f cd).kindOf (ps.zip us) λ_=>none) s1) :
  Inv (cxOf CX P w K mg base N qual scope f cd A outer s H E) [] (start N vs) H s1:=by
 have bd:ps.length≤N.length:=by have:=congrArg List.length S.pre;rw[Zt]at this;lia
 obtain⟨h1,tk,rfl,hk⟩:=x.done
 have noA:∀b:Addr,b∉(cxOf CX P w K mg base N qual scope f cd A outer s H E).ex:=λb z=>absurd (show b∈([]:List Addr) from z) ZM
 refine⟨⟨e0.mod,S.kind,rfl,rfl,QK,λy z c h1 h2=>?_,λy hy=>?_,λy c _ h=>?_,λ_=>hd,Around.frames_deeper e0.frames,.inr ⟨rfl,rfl⟩,λb z=>absurd z (noA b),e0.bs,e0.bsz,λb _ _=>noA b,λb z=>absurd z (noA b),e0.funs,e0.frf⟩,
  rfl,e0.bare,Un.kept hk,⟨_,x.toInCall.ns,λi y v h1 h2 h3=>?_⟩,λy c h=>⟨_,x.cell y c h⟩,e0.hok.fresh QK,λy c h=>?_,λp hp=>absurd (show p∈([]:List (Addr×Obj)) from hp) ZM,e0.hok.kept hk,?_⟩
 ·exact name_of_addr x.apart (Wk h1) (Wk h2)
 ·have hy:scope.names.lookup y=some .cell∨scope.names.lookup y=some .free:=hy
  rcases hy with hy | hy
  ·exact cell_has hy
  ·exact absurd rfl (S.nofree _ (Wk hy))
 ·exact Wt (x.above y c (Wk h))
 ·have hi:i < vs.length:=by
   unfold start at h2
   by_cases hi:i<vs.length
   ·exact hi
   ·rw [Kd (ZR hi)] at h2
    rw[List.getElem?_replicate]at h2
    split at h2<;>cases h2
  have ha:vs[i]?=some v:=by
   unfold start at h2
   rw[List.getElem?_append_left (ZR hi),Qo]at h2
   cases e:vs[i]? with
   |none=>rw[e]at h2;cases h2
   |some a=>rw[e]at h2;cases h2;rfl
  obtain⟨u,hu,rv⟩:=r.get ha
  have hp:ps[i]?=some y:=by
   rw[←S.pre,List.getElem?_take_of_lt (by exact zar7 ‹_› ‹_›)];exact h1
  have ndP:ps.Nodup:=by rw[←S.pre];exact S.nd.sublist (Uk _ _)
  refine⟨u,rv,?_⟩
  rcases S.par y (Yv hp) with k | k
  ·exact .inl ⟨k,bindL_get ndP hp hu k⟩
  ·obtain ⟨c,e⟩:=cell_has (n:=s.heap.objs.size+1) k
   refine .inr ⟨.inl k,c,e,?_⟩
   have q:=x.cell y c e
   rw[bindC_get ndP hp hu (by show scope.names.lookup y≠_;rw[k];decide)]at q
   exact q
 ·exact e0.hok.fresh (Wt (x.above y c (Wk h)))
 ·unfold start
  show _=N.length
  rw[Qy,Qa,Us]
  lia
def fn_of{CX:CXT}{P:Ni}{w:Nk}{K:Na}{mg:Nd}{base:Nm}{k:Nat}{f:Nb}{name qual:Str}{params:Arguments}{body:List Stmt}{scope:Scope}{dV kV doc pm cdv ct oc:Value}{an od:Option Addr}{osl:Array (Option Value)}{N ps:Nf}{sp:Sp}(lk:K.lookup f=some ⟨oc,od,.func (PySem.W.fnOf name qual params body scope dV kV doc pm an cdv ct),osl⟩)(aD:PySem.W.codeIn K cdv qual=true)(S:zak N ps scope)(len:∀vs H Q E,sp vs H Q E→vs.length=ps.length)(cp:∀ (A:No) (outer:List Env) (s:Nh) (H:Hp) (vs:List V) (Q:VK) (E:XK),Room k (A.deeper (envOfC qual scope s.heap.objs.size f cdv))→sp vs H Q E →
   ∃t,PSs (cxOf CX P w K mg base N qual scope f cdv A outer s H E) body t∧t {nx:=λ_ H'=>Q .non H',rt:=Q} (start N vs) H) :
  FnOk P w K mg base CX (k+1) f (PySem.W.fnOf name qual params body scope dV kV doc pm an cdv ct) ps sp:=by
 refine⟨len,λA outer s H args us vs Q E hr e0 hb r bB=>?_⟩
 have hl:=len _ _ _ _ bB
 have KX:K.In s.heap:=e0.mod.kin.keeps λb o e=>(e0.bs b o e).1
 have lim:s.heap.NoLimit:=e0.mod.nolimit.keeps λb o e=>(e0.bs b o e).1
 have cT:∀y∈ps.zip us,scope.names.lookup y.1=some .local∨(scope.names.lookup y.1=some .cell∧((cellsFrom QU scope.names []).lookup y.1).isSome=true):=λ⟨n,v⟩ hy=>by
  rcases S.par n (List.of_mem_zip hy).1 with q | q
  ·exact .inl q
  ·exact .inr ⟨q,PySem.W.cellsFrom_some _ _ _ (.inl q)⟩
 refine codeAny_call_function hr.depth (KX _ _ lk) rfl S.co S.gen rfl (PySem.W.codeRec_of KX aD) (hb _ _ _ _ ?_)
 refine wpAny_newFunctionEnv_cells S.kind cT λenv he s1 x=>?_
 subst he
 refine⟨lim.keeps x.toInCall.keep,codeAny_func ?_⟩
 obtain⟨t,ht,hq⟩:=cp A outer s H vs Q E (hr.deeper _) bB
 have I:Inv (cxOf CX P w K mg base N qual scope f cdv A outer s H E) [] (start N vs) H s1:=inv_start S hr.hd e0 hl r x
 refine wpAny_mono (ht [] s1 (start N vs) H _ I hq) (λfl s' hs=>?_) λe s' hs=>hs
 have fin:∀{σ':St} {H':Hp} {v:V} {u:Value},Inv (cxOf CX P w K mg base N qual scope f cdv A outer s H E) [] σ' H' s'→RelV v u→Q v H'→CE outer P w H s Q u s' :=
  λ{σ' H' v u} J rv q=>⟨v,H',J.os,J.bare,J.base,J.hok,rv,q⟩
 cases fl with
 |ret u =>
  obtain⟨v,σ',H',J,rv,q⟩:=hs
  exact fin J rv q
 |next =>
  obtain⟨σ',H',J,q⟩:=hs
  exact fin (v:=V.non) (u:=Value.none) J rfl q
 |brk =>
  obtain⟨_,_,_,q⟩:=hs
  exact False.elim q
 |cont =>
  obtain⟨_,_,_,q⟩:=hs
  exact False.elim q
end L2
namespace L2
open PySem PySem.Spec PyProof.Rows
section
variable{X:Cx}{x:Str}{p pos:Pos}{e:Expr}{es:Np}{t:TA}{id T:String}{r:List V→Hp→VK→Prop}
def tCB(r:List V→Hp→VK→Prop)(t:TA):TE:=λ σ H Q=>t σ H λvs H1=>r vs H1 Q
def zal(hc:zck X (.builtin id) r)(hg:Gl X x)(hm:X.mg x=none)(hv:bootBuiltins x=some (.builtin id))(ha:PA X (e::es) t)(hn:x ≠ "__name__" := by decide)(fT:WT=false:=by decide)(he:starEach (e::es) X.env=(false,WB e)::starEach es X.env:=by rfl)(bd:(backTo pos (starEach es X.env)).any (·.1)=false:=by rfl):PE X (.Call (.Name x p) (e::es) [] pos) (tCB r t):=by
 intro a7 s σ H Q I h
 refine wpAny_Call_Name_kw (zgk I hg hm hv ?_ hn fT)
 exact PyProof.Rows.callWith_builtin1 (thn (ha pos a7 s σ H _ I h) λus s1 ⟨vs,H1,I1,r1,q1⟩=>hc a7 s1 σ H1 vs us Q I1 r1 q1) he bd
def zbp(hc:zck X (.type T) r)(hg:Gl X x)(hm:X.mg x=none)(hv:bootBuiltins x=some (.type T))(ha:PA X (e::es) t)(hn:x ≠ "__name__" := by decide)(fT:WT=false:=by decide)(he:starEach (e::es) X.env=(false,WB e)::starEach es X.env:=by rfl)(bd:(backTo pos (starEach es X.env)).any (·.1)=false:=by rfl):PE X (.Call (.Name x p) (e::es) [] pos) (tCB r t):=by
 intro a7 s σ H Q I h
 refine wpAny_Call_Name_kw (zgk I hg hm hv ?_ hn fT)
 exact Wx (thn (ha pos a7 s σ H _ I h) λus s1 ⟨vs,H1,I1,r1,q1⟩=>hc a7 s1 σ H1 vs us Q I1 r1 q1) he bd
end
end L2
namespace L2
open PySem PySem.Spec PyProof.Rows
section
variable{κ:Type}[DecidableEq κ]
def valV(kvs:List (κ×V))(k:κ):Option V:=(kvs.find? λkv=>decide (kv.1=k)).map (·.2)
def putK(kvs:List (κ×V))(k:κ)(v:V):List (κ×V) :=
 if(kvs.any λkv=>decide (kv.1=k))=true then kvs.map (λkv=>if kv.1=k then(kv.1,v) else kv) else kvs++[(k,v)]
def dropK(kvs:List (κ×V))(k:κ):List (κ×V):=kvs.filter λkv=>decide (kv.1≠k)
def zce{p:κ×V}{r:List (κ×V)}{k:κ}(e:p.1=k):valV (p::r) k=some p.2:=by simp[valV,Jh,e]
def zbh{p:κ×V}{r:List (κ×V)}{k:κ}(e:¬p.1=k):valV (p::r) k=valV r k:=by simp[valV,Jh,e]
theorem zhr(k:κ):∀kvs:List (κ×V),(kvs.any λkv=>decide (kv.1=k))=(valV kvs k).isSome
 |[]=>rfl
 |p::r=>by
  rw[Kp]
  by_cases e:p.1=k
  ·simp only[zce e,decide_eq_true e,Bool.true_or,Option.isSome_some]
  ·rw[zbh e,decide_eq_false e,Bool.false_or];exact zhr k r
def zea(kvs:List (κ×V))(k:κ)(v:V):(putK kvs k v).length≤kvs.length+1:=by
 unfold putK
 split
 ·rw[Qa];exact Wq _ _
 ·rw[Qy,Qv,Ui];exact Qf _
def zdw{kvs:List (κ×V)}{k:κ}(v:V)(h:valV kvs k=none):putK kvs k v=kvs++[(k,v)]:=by
 unfold putK
 rw[zhr,h]
 exact if_neg ZU
def RelO.isSome_eq(r:RelO o u):o.isSome=u.isSome:=by
 cases o with
 |none=>cases u with
  |none=>rfl
  |some _=>exact(show False from r).elim
 |some _=>cases u with
  |none=>exact(show False from r).elim
  |some _=>rfl
def RelO.getD(r:RelO o u)(rd:RelV d d'):RelV (o.getD d) (u.getD d'):=by
 cases o with
 |none=>cases u with
  |none=>exact rd
  |some _=>exact(show False from r).elim
 |some _=>cases u with
  |none=>exact(show False from r).elim
  |some _=>exact r
def KV.val{kvs:List (κ×V)}{vs:List (κ×Value)}(r:KV kvs vs)(k:κ):RelO (valV kvs k) (valueAt vs k):=by
 unfold KV at r
 induction r with
 |nil=>exact True.intro
 | @cons p q ps qs h t ih =>
  obtain⟨h1,h2⟩:=h
  by_cases e:p.1=k
  ·have e':q.1=k:=h1.symm.trans e
   have b:valueAt (q::qs) k=some q.2:=by simp[valueAt,Jh,e']
   rw[zce e,b];exact h2
  ·have e':¬ q.1=k:=fun z=>e (h1.trans z)
   have b:valueAt (q::qs) k=valueAt qs k:=by simp[valueAt,Jh,e']
   rw[zbh e,b];exact ih
def KV.any(r:KV kvs vs)(k:κ):(kvs.any λkv=>decide (kv.1=k))=vs.any λkv=>decide (kv.1=k):=by
 unfold KV at r
 induction r with
 |nil=>rfl
 |cons h t ih=>rw[Kp,Kp,ih,h.1]
def KV.repl(r:KV kvs vs)(k:κ)(ry:RelV y u) :
  KV (kvs.map λkv=>if kv.1=k then(kv.1,y) else kv) (vs.map λkv=>if kv.1=k then(kv.1,u) else kv):=by
 unfold KV at r ⊢
 induction r with
 |nil=>exact .nil
 |@cons p q ps qs h t ih =>
  rw[Qm,Qm]
  refine .cons ?_ ih
  obtain⟨h1,h2⟩:=h
  by_cases e:p.1=k
  ·rw[if_pos e,if_pos (h1.symm.trans e)];exact⟨h1,ry⟩
  ·rw[if_neg e,if_neg (λz=>e (h1.trans z))];exact⟨h1,h2⟩
def KV.put(r:KV kvs vs)(k:κ)(ry:RelV y u):KV (putK kvs k y) (stored vs k u):=by
 unfold putK stored
 rw[r.any k]
 by_cases e:(vs.any λkv=>decide (kv.1=k))=true
 ·rw[if_pos e,if_pos e];exact r.repl k ry
 ·rw[if_neg e,if_neg e];exact Paired.snoc r ⟨rfl,ry⟩
def KV.drop{kvs:List (κ×V)}{vs:List (κ×Value)}(r:KV kvs vs)(k:κ):KV (dropK kvs k) (without vs k):=by
 unfold KV at r ⊢
 unfold dropK without
 induction r with
 |nil=>exact .nil
 | @cons p q ps qs h t ih =>
  obtain⟨h1,h2⟩:=h
  rw[List.filter_cons,List.filter_cons]
  by_cases e:p.1=k
  ·have a:¬ decide (p.1≠k)=true:=by simp [e]
   have b:¬decide (q.1≠k)=true:=by simp[h1.symm.trans e]
   rw[if_neg a,if_neg b];exact ih
  ·have e':¬ q.1=k:=fun z=>e (h1.trans z)
   have a:decide (p.1≠k)=true:=by simp[e]
   have b:decide (q.1≠k)=true:=by simp[e']
   rw[if_pos a,if_pos b];exact .cons ⟨h1,h2⟩ ih
def KV.length{kvs:List (κ×V)}{vs:List (κ×Value)}(r:KV kvs vs):kvs.length=vs.length:=Ya r
def dropK_le(kvs:List (κ×V))(k:κ):(dropK kvs k).length≤kvs.length:=Wg _ _
end
def kV_is(r:RelV (kV k) u):(zap P w).is k u=true:=by
 cases k with
 |inl i=>obtain⟨t,e⟩:=(show ∃t,u=Value.int i t from r);subst e;exact mixKind_int P w i t
 |inr x=>obtain⟨t,e⟩:=(show ∃t,u=Value.str x t from r);subst e;exact zgh P w x t
theorem items_are:∀{ks:List Key} {us:Nj},Vals (ks.map kV) us→ItemsAre (zap P w) ks us
 |[],_,r=>by rw[Xf]at r;cases r;exact .nil
 |k::ks,_,r=>by
  rw[Qm]at r
  cases r with
  |cons h t=>exact .cons (kV_is h) (items_are t)
abbrev KT(H:Hp):List (List Key×V)→List (List Key×Addr×Value)→Prop:=Paired λp q=>p.1=q.1∧H q.2.1=some (.tup (p.1.map kV))∧RelV p.2 q.2.2
def KT.val{H:Hp}{kvs:List (List Key×V)}{xs:List (List Key×Addr×Value)}(r:KT H kvs xs)(k:List Key):RelO (valV kvs k) ((atKey xs k).map (·.2)):=by
 induction r with
 |nil=>exact True.intro
 | @cons p q ps qs h t ih =>
  obtain⟨h1,_,h2⟩:=h
  by_cases e:p.1=k
  ·have e':q.1=k:=h1.symm.trans e
   have b:atKey (q::qs) k=some q.2:=by simp[atKey,Jh,e']
   rw[zce e,b];exact h2
  ·have e':¬ q.1=k:=fun z=>e (h1.trans z)
   have b:atKey (q::qs) k=atKey qs k:=by simp[atKey,Jh,e']
   rw[zbh e,b];exact ih
def KT.repl(r:KT H kvs xs)(k:List Key)(ry:RelV y u) :
  KT H (kvs.map λkv=>if kv.1=k then(kv.1,y) else kv) (xs.map (putAt k u)):=by
 induction r with
 |nil=>exact .nil
 |@cons p q ps qs h t ih =>
  rw[Qm,Qm]
  refine .cons ?_ ih
  obtain⟨h1,h2,h3⟩:=h
  unfold putAt
  by_cases e:p.1=k
  ·rw[if_pos e,if_pos (h1.symm.trans e)];exact⟨h1,h2,ry⟩
  ·rw[if_neg e,if_neg (λz=>e (h1.trans z))];exact⟨h1,h2,h3⟩
def KT.put(r:KT H kvs xs)(k:List Key)(hb:H b=some (.tup (k.map kV)))(ry:RelV y u) :
  KT H (putK kvs k y) (storedH xs k b u):=by
 have e:(kvs.any λkv=>decide (kv.1=k))=(atKey xs k).isSome:=by
  rw[zhr,(r.val k).isSome_eq,Option.isSome_map]
 unfold putK storedH
 rw[e]
 by_cases q:(atKey xs k).isSome=true
 ·rw[if_pos q,if_pos q];exact r.repl k ry
 ·rw[if_neg q,if_neg q];exact Paired.snoc r ⟨rfl,hb,ry⟩
def KT.keeps(r:KT H kvs xs)(ht:∀b ys,H b=some (.tup ys)→H' b=some (.tup ys)):KT H' kvs xs :=
 Paired.mapP r λ_ _ z=>⟨z.1,ht _ _ z.2.1,z.2.2⟩
section
variable{P:Ni}{w:Nk}{H:Hp}{h:Nm}{a:Nb}
def rd_of(ok:HOk P w H h)(e:Rd H a u):zbw P w H h a u:=e.ok ok
def dk_rd(ok:HOk P w H h)(e:Rd H a (.dK kvs)):kvs.length≤sizeLine∧(a==sysModules)=false∧∃vs,KV kvs vs∧h.DictOf (zap P w) a vs :=
 show zbw P w H h a (.dK kvs) from rd_of ok e
def dk_of(ok:HOk P w H h)(e:H a=some (.dK kvs)):kvs.length≤sizeLine∧(a==sysModules)=false∧∃vs,KV kvs vs∧h.DictOf (zap P w) a vs:=dk_rd ok (.inl e)
def zhg(ok:HOk P w H h)(e:H a=some (.tup (ks.map kV))):(tupleKind (zap P w)).is h ks a:=by
 obtain⟨_,a9,r,o,h1,h2,n,h3⟩:=(show zbw P w H h a (.tup (ks.map kV)) from ok a _ e)
 exact⟨o,a9.toArray,n,h1,h2,h3,by simpa using items_are r⟩
def dt_rd(ok:HOk P w H h)(e:Rd H a (.dT kvs)):kvs.length≤sizeLine∧(a == sysModules)=false ∧
  ∃xs,KT H kvs xs∧h.DictOfH (tupleKind (zap P w)) a xs:=by
 obtain⟨z,y,xs,r,o,es,ep,h1,h2,h3,h4,h5⟩:=(show zbw P w H h a (.dT kvs) from rd_of ok e)
 refine⟨z,y,xs,r,o,es,ep,h1,h2,h3,h4,λx hx=>?_,h5⟩
 have all:∀{l:List (List Key×V)} {m:List (List Key×Addr×Value)},KT H l m→∀x∈m,(tupleKind (zap P w)).is h x.1 x.2.1:=by
  intro l m q
  induction q with
  |nil=>intro x hx;exact nomatch hx
  | @cons p q ps qs hq t ih =>
   intro x hx
   rcases Qg.mp hx with e | hx
   ·subst e
    exact zhg ok (by rw[←hq.1];exact hq.2.1)
   ·exact ih x hx
 exact all r x hx
def dt_of(ok:HOk P w H h)(e:H a=some (.dT kvs)):kvs.length≤sizeLine∧(a==sysModules)=false ∧
  ∃xs,KT H kvs xs∧h.DictOfH (tupleKind (zap P w)) a xs:=dt_rd ok (.inl e)
end
def DGet(H:Hp)(a:Nb)(y:V)(r:Option V):Prop :=
 (∃kvs k,Rd H a (.dK kvs)∧y=kV k∧r=valV kvs k)∨∃kvs k b,Rd H a (.dT kvs)∧y=.ref b∧H b=some (.tup (k.map kV))∧r=valV kvs k
def DPut(H:Hp)(a:Nb)(y v:V)(H':Hp):Prop :=
 (∃kvs k,H a=some (.dK kvs)∧y=kV k∧kvs.length<sizeLine∧H'=upd H a (.dK (putK kvs k v))) ∨
 ∃kvs k b,H a=some (.dT kvs)∧y=.ref b∧H b=some (.tup (k.map kV))∧kvs.length<sizeLine∧H'=upd H a (.dT (putK kvs k v))
def DGet.k{H:Hp}{a:Nb}{kvs:List (Key×V)}{k:Key}(e:H a=some (.dK kvs)):DGet H a (kV k) (valV kvs k):=.inl ⟨kvs,k,.inl e,rfl,rfl⟩
def DGet.t{H:Hp}{a b:Nb}{kvs:List (List Key×V)}{k:List Key}(e:H a=some (.dT kvs))(eb:H b=some (.tup (k.map kV))):DGet H a (ZZ b) (valV kvs k):=.inr ⟨kvs,k,b,.inl e,rfl,eb,rfl⟩
def DPut.k{H:Hp}{a:Nb}{kvs:List (Key×V)}{k:Key}{v:V}(e:H a=some (.dK kvs))(hl:kvs.length<sizeLine):DPut H a (kV k) v (upd H a (.dK (putK kvs k v))):=.inl ⟨kvs,k,e,rfl,hl,rfl⟩
def DPut.t{H:Hp}{a b:Nb}{kvs:List (List Key×V)}{k:List Key}{v:V}(e:H a=some (.dT kvs))(eb:H b=some (.tup (k.map kV)))(hl:kvs.length<sizeLine) :
  DPut H a (ZZ b) v (upd H a (.dT (putK kvs k v))):=.inr ⟨kvs,k,b,e,rfl,eb,hl,rfl⟩
section
variable{X:Cx}{a7:Ng}{σ:St}{H:Hp}{s:Nh}{a:Nb}{y v:V}{u r:Value}{o:Option V}{A:No}{E:Nc}
def Inv.big(I:QT):sysModules<s.heap.objs.size:=by
 have h:mainGlobals<s.heap.objs.size:=(I.mod.glob.keeps I.bk).lt
 exact Wj ZU h
def d_getItem(hu:A.units+1<cLine)(I:QT)(g:DGet H a y (QB v))(ry:RelV y u)(h:∀w' s',ZA H s'→RelV v w'→Q w' s') :
  wpAny ZY A (getItem (ZZ a) u) Q E s:=by
 rcases g with⟨kvs,k,e,ey,l⟩ | ⟨kvs,k,b,e,ey,eb,l⟩
 ·subst ey
  obtain⟨z,hd,vs,rel,dd⟩:=dk_rd I.hok e
  obtain⟨w',hw,cG⟩:=RelO.some_of (v:=v) (o:=valueAt vs k) (by rw[l];exact rel.val k)
  exact wpAny_getItem_of (kV_is ry) dd.mapOf hw (h w' _ (I.tok _) cG)
 ·subst ey
  cases(show u=Value.ref b from ry)
  obtain⟨z,hd,xs,rel,dd⟩:=dt_rd I.hok e
  obtain⟨w',hw,cG⟩:=RelO.some_of (v:=v) (o:=(atKey xs k).map (·.2)) (by rw[l];exact rel.val k)
  obtain⟨p,hp,cC⟩:=Option.map_eq_some_iff.mp hw
  refine wpAny_getItem_heap (tupleKind_room_in1 hu) (zhg I.hok eb) dd hp ?_
  rw[cC]
  exact h w' _ (I.tok _) cG
def d_in(hu:A.units+1<cLine)(I:QT)(g:DGet H a y o)(ry:RelV y u)(h:∀s',ZA H s'→Q (.bool o.isSome) s') :
  wpAny ZY A (compareOp .In u (ZZ a)) Q E s:=by
 rcases g with⟨kvs,k,e,ey,l⟩ | ⟨kvs,k,b,e,ey,eb,l⟩
 ·subst ey
  obtain⟨z,hd,vs,rel,dd⟩:=dk_rd I.hok e
  refine wpAny_in_of (kV_is ry) hd dd.mapOf ?_
  rw[←(rel.val k).isSome_eq,←l]
  exact h _ (I.tok _)
 ·subst ey
  cases(show u=Value.ref b from ry)
  obtain⟨z,hd,xs,rel,dd⟩:=dt_rd I.hok e
  refine wpAny_in_heap (tupleKind_room_in1 hu) (zhg I.hok eb) hd dd ?_
  have q:=(rel.val k).isSome_eq
  rw[Option.isSome_map]at q
  rw[←q,←l]
  exact h _ (I.tok _)
def d_notIn(hu:A.units+1<cLine)(I:QT)(g:DGet H a y o)(ry:RelV y u)(h:∀s',ZA H s'→Q (.bool (!o.isSome)) s') :
  wpAny ZY A (compareOp .NotIn u (ZZ a)) Q E s:=by
 rcases g with⟨kvs,k,e,ey,l⟩ | ⟨kvs,k,b,e,ey,eb,l⟩
 ·subst ey
  obtain⟨z,hd,vs,rel,dd⟩:=dk_rd I.hok e
  refine wpAny_notIn_of (kV_is ry) hd dd.mapOf ?_
  rw[←(rel.val k).isSome_eq,←l]
  exact h _ (I.tok _)
 ·subst ey
  cases(show u=Value.ref b from ry)
  obtain⟨z,hd,xs,rel,dd⟩:=dt_rd I.hok e
  refine wpAny_notIn_heap (tupleKind_room_in1 hu) (zhg I.hok eb) hd dd ?_
  have q:=(rel.val k).isSome_eq
  rw[Option.isSome_map]at q
  rw[←q,←l]
  exact h _ (I.tok _)
def zim(I:QT)(mu:Mut (H a))(hs:Heap.SameBut a s.heap h')(he:∃q,h'.get? a=some q)(new:zbw X.prog X.w (upd H a ob) h' a ob) :
  Inv X a7 σ (upd H a ob) {s with heap:=h',toks:=t'} :=
 I.write (x:=a) (e:=a) mu QX (λb q hb z=>(hs.2 b hb).trans z) he new
def dk_new(z:kvs.length≤sizeLine)(hd:(a==sysModules)=false)(rel:KV kvs vs)(dd:h'.DictOf (zap P w) a vs) :
  zbw P w H' h' a (.dK kvs):=⟨z,hd,vs,rel,dd⟩
def d_setItem(hu:A.units+1<cLine)(I:QT)(g:DPut H a y v H')(ry:RelV y u)(rv:RelV v r)(h:∀s',ZA H' s'→Q () s') :
  wpAny ZY A (setItem (ZZ a) u r) Q E s:=by
 rcases g with⟨kvs,k,e,ey,l,eH⟩ | ⟨kvs,k,b,e,ey,eb,l,eH⟩
 ·subst ey eH
  obtain⟨z,hd,vs,rel,dd⟩:=dk_of I.hok e
  have hz:vs.length≤sizeLine:=by rw[←rel.length];exact z
  have hl:(putK kvs k v).length≤sizeLine:=by have:=zea kvs k v;exact Zi ‹_› ‹_›
  refine wpAny_setItem_pairs (hsz:=hz) (kV_is ry) dd λh' gD hs=>h _ ?_
  have he:∃q,h'.get? a=some q:=let⟨q,_,_,hq,_⟩:=gD;⟨q,hq⟩
  exact zim I (by rw[e];exact True.intro) hs he (dk_new hl hd (rel.put k rv) gD)
 ·subst ey eH
  cases(show u=Value.ref b from ry)
  obtain⟨z,hd,xs,rel,dd⟩:=dt_of I.hok e
  have hz:xs.length≤sizeLine:=by rw[←Ya rel];exact z
  have hl:(putK kvs k v).length≤sizeLine:=by have:=zea kvs k v;exact Zi ‹_› ‹_›
  refine wpAny_setItem_heap (hsz:=hz) (tupleKind_room_in1 hu) (zhg I.hok eb) dd λh' gD hs=>h _ ?_
  obtain⟨q,es,ep,hq,h2,h3,h4,_,h5⟩:=gD
  refine zim I (by rw[e];exact True.intro) hs ⟨q,hq⟩ ⟨hl,hd,_,(rel.put k eb rv).keeps λc ys ec=>?_,q,es,ep,hq,h2,h3,h4,h5⟩
  rw[zaf (za3 ec e (λz=>nomatch z))]
  exact ec
end
section
variable{X:Cx}{a7:Ng}{σ:St}{H:Hp}{s:Nh}{a:Nb}{kvs:List (Key×V)}{k:Key}{u:Value}{A:No}{E:Nc}
def d_delItem(I:QT)(e:H a=some (.dK kvs))(ry:RelV (kV k) u)(l:(valV kvs k).isSome=true)(h:∀s',ZA (upd H a (.dK (dropK kvs k))) s'→Q () s') :
  wpAny ZY A (delItem (ZZ a) u) Q E s:=by
 obtain⟨z,hd,vs,rel,dd⟩:=dk_of I.hok e
 refine wpAny_delItem_slot dd.typeIs ZU PySem.F.slot_dict_delitem
  (call_meetsIn PySem.F.slot_dict_delitem dd.typeIs PySem.F.entry_dict_delitem (PySem.F.args_dict_delitem_2 _ _) (meets_dict_delitem_pairs (zap X.prog X.w) a (kV_is ry)) ⟨vs,dd,by rw[←rel.length];exact z,by rw[←(rel.val k).isSome_eq];exact l,λh' gD hs=>h _ ?_⟩)
 have he:∃q,h'.get? a=some q:=let⟨q,_,_,hq,_⟩:=gD;⟨q,hq⟩
 exact zim I (by rw[e];exact True.intro) hs he (dk_new (Zi (dropK_le kvs k) z) hd (rel.drop k) gD)
end
def NoSl(i:Expr):Prop:=∀ov iv,subscripted i false ov iv=operate [ov,iv] (getItem ov iv)
def subD_of{prog:Ni}{w:Nk}{A:No}{E:Nc}{s:Nh}{env:Env}{value slice:Expr}{pos:Pos}{T id:String}{Q:Nc}(hl:typeLookup (.type T) "__getitem__" = pure (QB (.builtin id)))(hs:NoSl slice)(h:ZF (eval value env) (λo s₁=>ZF (eval slice env) (λi s₂=>s₂.TypeIs o T∧ZF (getItem o i) Q E s₂) E s₁) E s) :
  wpAny Z8 A (eval (.Subscript value slice pos) env) Q E s:=by
 refine Subscript_ (wpAny_mono h (λo s₁ h₁=>wpAny_mono h₁ (λi s₂ h₂=>?_) λ_ _ x=>x) λ_ _ x=>x)
 obtain⟨hT,h₂⟩:=h₂
 unfold subscriptTail
 refine wpAny_bind ?_
 rw[getitemInPython_of_ne hT.not_modules]
 refine wpAny_bind (wpAny_specialOf hT hl ?_)
 have fin:ZF (subscripted slice false o i) (λr s₃=>ZF (letTemporaryGo value o r >>= λ_=>pure r) Q E s₃) E s₂:=by
  rw[hs o i]
  exact wpAny_operating (wpAny_mono h₂ (λr s₃ h₃=>wpAny_bind (wpAny_letTemporaryGo (wpAny_pure h₃))) λ_ _ x=>x)
 first
  |exact wpAny_pure (wpAny_bind fin)
  |exact wpAny_bind (wpAny_pure (wpAny_bind fin))
  |exact wpAny_bind fin
def dict_typeIs(I:QT)(g:DGet H a y o):s.TypeIs (ZZ a) "dict" := by
 rcases g with⟨kvs,k,e,_,_⟩ | ⟨kvs,k,b,e,_,_,_⟩
 ·obtain ⟨_,_,vs,_,dd⟩:=dk_rd I.hok e
  exact dd.typeIs
 ·obtain ⟨_,_,xs,_,dd⟩:=dt_rd I.hok e
  exact dd.typeIs
inductive RDG(x y:V)(H:Hp)(Q:VK):Prop
 |mk (a:Nb) (v:V) (e:x=.ref a) (g:DGet H a y (some v)) (q:Q v H):RDG x y H Q
inductive RDI(x y:V)(H:Hp)(R:Option V→Prop):Prop
 |mk (a:Nb) (o:Option V) (e:x=.ref a) (g:DGet H a y o) (q:R o):RDI x y H R
inductive RDP(x y v:V)(H:Hp)(N:Hp→Prop):Prop
 |mk (a:Nb) (H4:Hp) (e:x=.ref a) (p:DPut H a y v H4) (q:N H4):RDP x y v H N
def tDGet(td ty:TE):TE:=λ σ H Q=>td σ H λx H1=>ty σ H1 λy H2=>RDG x y H2 Q
def tDIn(ty td:TE):TE:=λ σ H Q=>ty σ H λy H1=>td σ H1 λx H2=>RDI x y H2 λo=>Q (.bl o.isSome) H2
def tDNotIn(ty td:TE):TE:=λ σ H Q=>ty σ H λy H1=>td σ H1 λx H2=>RDI x y H2 λo=>Q (.bl (!o.isSome)) H2
def sDPut(td ty tv:TE):TS:=λD σ H=>tv σ H λv H1=>td σ H1 λx H2=>ty σ H2 λy H3=>RDP x y v H3 (D.nx σ)
def sDAug(td ty tv:TE)(rd:V→V→Hp→VK→Prop):TS:=λD σ H=>td σ H λx H1=>ty σ H1 λy H2=>∃a v,x=.ref a∧DGet H2 a y (QB v) ∧
 tv σ H2 λy2 H3=>rd v y2 H3 λz H4=>∃H5,DPut H4 a y z H5∧D.nx σ H5
def sDDel(td ty:TE):TS:=λD σ H=>td σ H λx H1=>ty σ H1 λy H2=>∃a kvs k,x=.ref a∧H2 a=some (.dK kvs)∧y=kV k∧(valV kvs k).isSome=true∧D.nx σ (upd H2 a (.dK (dropK kvs k)))
section
variable{X:Cx}{o i e value:Expr}{pos aE tpos:Pos}{td ty tv:TE}
def pe_dget(hu:X.A.units+1<cLine)(ho:PE X o td)(hi:PE X i ty)(hs:NoSl i):PE X (.Subscript o i pos) (tDGet td ty):=by
 intro a7 s σ H Q I h
 refine subD_of PySem.F.slot_dict_getitem.lookup hs (thn (ho a7 s σ H _ I h) λu s1 ⟨x,H1,I1,rx,q1⟩=>thn (hi a7 s1 σ H1 _ I1 q1) λiv s2 ⟨y,H2,I2,ry,a,v,ex,g,q2⟩=>?_)
 subst ex
 obtain rfl:u=Value.ref a:=rx
 exact⟨dict_typeIs I2 g,d_getItem hu I2 g ry λw' s3 I3 cG=>⟨v,H2,I3,cG,q2⟩⟩
def pc_din(hu:X.A.units+1<cLine)(hi:PE X i ty)(ho:PE X o td):PC X .In i o (tDIn ty td):=by
 intro a7 s σ H Q I h
 refine thn (hi a7 s σ H _ I h) λiv s1 ⟨y,H1,I1,ry,q1⟩=>thn (ho a7 s1 σ H1 _ I1 q1) λu s2 ⟨x,H2,I2,rx,a,ov,ex,g,q2⟩=>?_
 subst ex
 obtain rfl:u=Value.ref a:=rx
 exact d_in hu I2 g ry λs3 I3=>⟨.bl ov.isSome,H2,I3,rfl,q2⟩
def zc3(hu:X.A.units+1<cLine)(hi:PE X i ty)(ho:PE X o td):PC X .NotIn i o (tDNotIn ty td):=by
 intro a7 s σ H Q I h
 refine thn (hi a7 s σ H _ I h) λiv s1 ⟨y,H1,I1,ry,q1⟩=>thn (ho a7 s1 σ H1 _ I1 q1) λu s2 ⟨x,H2,I2,rx,a,ov,ex,g,q2⟩=>?_
 subst ex
 obtain rfl:u=Value.ref a:=rx
 exact d_notIn hu I2 g ry λs3 I3=>⟨.bl (!ov.isSome),H2,I3,rfl,q2⟩
def zb5(hu:X.A.units+1<cLine)(ho:PE X o td)(hi:PE X i ty)(hv:PE X value tv)(hs:swapsWith value (QB (.Subscript o i aE)) pos.line X.env=pure false) :
  PS X (.Assign [.Subscript o i aE] value pos) (sDPut td ty tv):=by
 intro a7 s σ H D I h
 refine wpAny_Assign_Subscript (thn (hv a7 s σ H _ I h) λr s1 ⟨v,H1,I1,rv,q1⟩=>thn (ho a7 s1 σ H1 _ I1 q1) λu s2 ⟨x,H2,I2,rx,q2⟩=>thn (hi a7 s2 σ H2 _ I2 q2) λiv s3 ⟨y,H3,I3,ry,a,H4,ex,g,q3⟩=>?_) hs
 subst ex
 obtain rfl:u=Value.ref a:=rx
 exact d_setItem hu I3 g ry rv λs4 I4=>⟨σ,H4,I4,q3⟩
def ps_daug(hu:X.A.units+1<cLine)(ho:PE X o td)(hi:PE X i ty)(hv:PE X value tv)(ij:InOp X op rd)(ha:∀ov iv new,augStore i ov iv new=(do holding [new,ov,iv] (setItem ov iv new);release [new,ov,iv] [];pure .next)):PS X (.AugAssign (.Subscript o i tpos) op value pos) (sDAug td ty tv rd):=by
 intro a7 s σ H D I h
 refine wpAny_AugAssign_SubscriptAny (thn (ho a7 s σ H _ I h) λu s1 ⟨x,H1,I1,rx,q1⟩=>thn (hi a7 s1 σ H1 _ I1 q1) λiv s2 ⟨y,H2,I2,ry,a,v,ex,g,q2⟩=>?_) ha
 subst ex
 obtain rfl:u=Value.ref a:=rx
 refine d_getItem hu I2 g ry λw' s3 I3 cG=>thn (hv a7 s3 σ H2 _ I3 q2) λw2 s4 ⟨y2,H3,I4,ry2,q3⟩=>thn (ij a7 s4 σ H3 v y2 w' w2 _ I4 cG ry2 q3) λw3 s5 ⟨z,H4,I5,rz,H5,g5,q4⟩=>?_
 exact d_setItem hu I5 g5 ry rz λs6 I6=>⟨σ,H5,I6,q4⟩
def ps_ddel(ho:PE X o td)(hi:PE X i ty):PS X (.Delete [.Subscript o i tpos] pos) (sDDel td ty):=by
 intro a7 s σ H D I h
 refine wpAny_Delete (wpAny_deleteEach_cons (wpAny_delete_Subscript (thn (ho a7 s σ H _ I h) λu s1 ⟨x,H1,I1,rx,q1⟩=>thn (hi a7 s1 σ H1 _ I1 q1) λiv s2 ⟨y,H2,I2,ry,a,kvs,k,ex,e,ey,l,q2⟩=>?_)))
 subst ex ey
 obtain rfl:u=Value.ref a:=rx
 exact d_delItem I2 e ry l λs3 I3=>wpAny_deleteEach_nil ⟨σ,_,I3,q2⟩
end
def dk_empty(h:Nm)(hb:sysModules<h.objs.size):zbw P w H (h.push {cls:=.type "dict",data:=.dict #[]}) h.objs.size (.dK []) :=
 ⟨Zc _,beq_eq_false_iff_ne.mpr (Zn (Zg hb)),[],.nil,Heap.DictOf.new h⟩
def dt_empty(h:Nm)(hb:sysModules<h.objs.size):zbw P w H (h.push {cls:=.type "dict",data:=.dict #[]}) h.objs.size (.dT []) :=
 ⟨Zc _,beq_eq_false_iff_ne.mpr (Zn (Zg hb)),[],.nil,_,#[],0,Za _ rfl,⟨rfl,rfl,rfl⟩,rfl,rfl,Zo⟩
def tDNewK:TE:=λ_ H Q=>∀p,H p=none→Q (ZZ p) (upd H p (.dK []))
def tDNewT:TE:=λ_ H Q=>∀p,H p=none→Q (ZZ p) (upd H p (.dT []))
section
variable{X:Cx}{pos:Pos}
def zfx:PE X (.Dict [] [] pos) tDNewK:=λa7 s σ H Q I h =>
 wpAny_Dict_empty ⟨Z6,_,I.laid (a:=s.heap.objs.size) (o:=.dK []) (t':=s.toks) (λ_ _ q=>Qi _ q) QK (dk_empty s.heap I.big),rfl,h _ (I.hok.fresh QK)⟩
def pe_dnewT:PE X (.Dict [] [] pos) tDNewT:=λa7 s σ H Q I h =>
 wpAny_Dict_empty ⟨Z6,_,I.laid (a:=s.heap.objs.size) (o:=.dT []) (t':=s.toks) (λ_ _ q=>Qi _ q) QK (dt_empty s.heap I.big),rfl,h _ (I.hok.fresh QK)⟩
end
def tPairs:List (TE×TE)→St→Hp→(List (V×V)→Hp→Prop)→Prop
 |[],_,H,Q=>Q [] H
 |(tk,tv)::r,σ,H,Q=>tk σ H λx H1=>tv σ H1 λy H2=>tPairs r σ H2 λps H3=>Q ((x,y)::ps) H3
abbrev VV:List (V×V)→List (Value×Value)→Prop:=Paired λp q=>RelV p.1 q.1∧RelV p.2 q.2
def PPs(X:Cx)(pos:Pos)(keys:List (Option Expr))(values:Np)(trs:List (TE×TE)):Prop :=
 ∀(a7:Ng) (s:Nh) (σ:St) (H:Hp) (Q:List (V×V)→Hp→Prop),ZA H s→tPairs trs σ H Q →
  wpAny ZY X.A (evalPairs (pairTrees keys values X.env pos)) (λvs s'=>∃ps H',ZA H' s'∧VV ps vs∧Q ps H') X.xe s
def pps_nil:PPs X pos [] [] []:=λa7 s σ H Q I h=>pairTrees_nil_walk ⟨[],H,I,.nil,h⟩
def pps_cons(hk:PE X k tk)(hv:PE X v tv)(hr:PPs X pos ks vs trs) :
  PPs X pos (some k::ks) (v::vs) ((tk,tv)::trs):=λa7 s σ H Q I h =>
 pairTrees_cons_walk (thn (hk a7 s σ H _ I h) λu s1 ⟨x,H1,I1,rx,q1⟩=>thn (hv a7 s1 σ H1 _ I1 q1) λw2 s2 ⟨y,H2,I2,ry,q2⟩ =>
  thn (hr a7 s2 σ H2 _ I2 q2) λws s3 ⟨ps,H3,I3,rel,q3⟩=>⟨(x,y)::ps,H3,I3,.cons ⟨rx,ry⟩ rel,q3⟩)
def zhd(kvs more:List (Key×V)):List (Key×V):=more.foldl (λag kv=>putK ag kv.1 kv.2) kvs
def KV.merge:∀{more:List (Key×V)} {rs:List (Key×Value)} {kvs:List (Key×V)} {vs:List (Key×Value)},KV more rs→KV kvs vs→KV (zhd kvs more) (merged vs rs):=by
 intro more rs kvs vs r
 unfold KV at r
 induction r generalizing kvs vs with
 |nil=>intro q;exact q
 | @cons p q ps qs h t ih =>
  intro r0
  have e:KV (putK kvs p.1 p.2) (stored vs q.1 q.2):=by
   have:=r0.put p.1 h.2
   rw[←h.1];exact this
  exact ih e
theorem zep:∀(more kvs:List (Key×V)),(zhd kvs more).length≤kvs.length+more.length
 |[],kvs=>by show kvs.length≤kvs.length+0;exact Qf _
 |p::r,kvs=>by
  have h1:=zep r (putK kvs p.1 p.2)
  have h2:=zea kvs p.1 p.2
  show(zhd (putK kvs p.1 p.2) r).length≤_
  rw[Qv];lia
theorem zhl:∀{kvs:List (Key×V)} {ws:List (Value×Value)},VV (kvs.map λkv=>(kV kv.1,kv.2)) ws→∃rs,Carries (zap P w) ws rs∧KV kvs rs
 |[],_,r=>by rw[Xf]at r;cases r;exact⟨[],True.intro,.nil⟩
 | p::kvs,_,r=>by
  rw[Qm]at r
  cases r with
  |@cons a b as bs h t =>
   obtain⟨rs,c,q⟩:=zhl (P:=P) (w:=w) t
   obtain⟨b1,b2⟩:=b
   exact⟨(p.1,b2)::rs,⟨kV_is h.1,rfl,c⟩,.cons ⟨rfl,h.2⟩ q⟩
def tDisp(trs:List (TE×TE)):TE:=λ σ H Q=>∀p,H p=none→tPairs trs σ (upd H p (.dK [])) λps H2=>H2 p=some (.dK [])∧∃kvs:List (Key×V),ps=kvs.map (λkv=>(kV kv.1,kv.2))∧kvs.length≤15∧Q (ZZ p) (upd H2 p (.dK (zhd [] kvs)))
def pe_disp(h:PPs X pos keys values trs)(aI:keys.all (·.isSome)=true)(hl:keys.length=values.length)(h0:keys≠[])(h15:keys.length≤15):PE X (.Dict keys values pos) (tDisp trs):=by
 intro a7 s σ H Q I q
 have hn:=I.hok.fresh (Qf s.heap.objs.size)
 have I1:=I.laid (a:=s.heap.objs.size) (o:=.dK []) (h':=s.heap.push {cls:=.type "dict",data:=.dict #[]}) (t':=s.toks) (λ_ _ q=>Qi _ q) QK (dk_empty s.heap I.big)
 refine wpAny_Dict_walk (knd:=zap X.prog X.w) aI hl h0 h15 (thn (h a7 _ σ _ _ I1 (q _ hn)) λws s2 ⟨ps,H2,I2,rel,e,kvs,ep,lk,q2⟩=>?_)
 subst ep
 obtain⟨rs,c,rk⟩:=zhl (P:=X.prog) (w:=X.w) rel
 obtain⟨z,hd,vs0,r0,dd⟩:=dk_of I2.hok e
 cases r0
 refine⟨rs,c,dd,λh' gD hs=>⟨Z6,_,?_,rfl,q2⟩⟩
 have hz:(zhd [] kvs).length≤sizeLine:=by
  have h1:=zep kvs []
  rw[Ui]at h1
  rw[sizeLine_eq];lia
 have he:∃q,h'.get? s.heap.objs.size=some q:=let⟨q,_,_,hq,_⟩:=gD;⟨q,hq⟩
 exact zim I2 (by rw[e];exact True.intro) hs he (dk_new hz hd (rk.merge .nil) gD)
structure M2(X:Cx)(o:Expr)(m:Str)(apos:Pos)(e f:Expr)(cpos:Pos):Prop where
 base:attributeBase o m X.env (WB o)=eval o X.env
 few:((backTo cpos (starEach [e,f] X.env)).all (λx=>!x.1)&&(backToKw cpos (keywordEach [] X.env)).all (λx=>x.1.isSome)
  && decide (([e,f]:List Expr).length+([]:List Keyword).length+(if([]:List Keyword).isEmpty then 0 else 1)<30))=true
 line:(apos.endLine==cpos.line)=true
 trees:backTo cpos (starEach [e,f] X.env)=[(false,WB e),(false,WB f)]
def IsD(H:Hp)(a:Nb):Prop:=(∃kvs,Rd H a (.dK kvs))∨∃kvs,Rd H a (.dT kvs)
def isD_at(I:QT)(d:IsD H a) :
  s.TypeIs (ZZ a) "dict" ∧ (∀b,Value.ref a=.ref b→∃ob,s.heap.get? b=some ob∧ob.dict=none)∧(a==sysModules)=false:=by
 rcases d with⟨kvs,e⟩ | ⟨kvs,e⟩
 ·obtain ⟨_,hd,vs,_,dd⟩:=dk_rd I.hok e
  refine⟨dd.typeIs,λb q=>?_,hd⟩
  cases q
  obtain⟨ob,_,_,h1,h2,_⟩:=dd
  exact⟨ob,h1,h2.2.1⟩
 ·obtain ⟨_,hd,xs,_,dd⟩:=dt_rd I.hok e
  refine⟨dd.typeIs,λb q=>?_,hd⟩
  cases q
  obtain⟨ob,_,_,h1,h2,_⟩:=dd
  exact⟨ob,h1,h2.2.1⟩
section
variable{X:Cx}{a7:Ng}{σ:St}{H:Hp}{s:Nh}{a:Nb}{y d:V}{u r:Value}{o:Option V}{A:No}{E:Nc}
def d_get2(hu:A.units+1<cLine)(I:QT)(g:DGet H a y o)(ry:RelV y u)(rd:RelV d r)(h:∀w' s',ZA H s'→RelV (o.getD d) w'→Q w' s') :
  wpAny ZY A (call (.builtin "dict.get") [ZZ a,u,r]) Q E s:=by
 rcases g with⟨kvs,k,e,ey,l⟩ | ⟨kvs,k,b,e,ey,eb,l⟩
 ·subst ey
  obtain⟨z,hd,vs,rel,dd⟩:=dk_rd I.hok e
  refine call_meetsIn Xl dd.typeIs PySem.F.entry_dict_get (PySem.F.args_dict_get_3 _ _ _) (meets_dict_get_default (zap X.prog X.w) a (kV_is ry) hd r) ⟨_,dd.mapOf,h _ _ (I.tok _) ?_⟩
  rw[l]
  exact(rel.val k).getD rd
 ·subst ey
  cases(show u=Value.ref b from ry)
  obtain⟨z,hd,xs,rel,dd⟩:=dt_rd I.hok e
  refine call_meetsIn Xl dd.typeIs PySem.F.entry_dict_get (PySem.F.args_dict_get_3 _ _ _) (meetsH_dict_get_default (tupleKind (zap X.prog X.w)) a b hd r) ⟨tupleKind_room_in1 hu,k,xs,zhg I.hok eb,dd,h _ _ (I.tok _) ?_⟩
  rw[l]
  exact(rel.val k).getD rd
end
def tDGet2(td ty tx:TE):TE:=λ σ H Q=>td σ H λx H1=>∃a,x=.ref a∧IsD H1 a∧ty σ H1 λy H2=>tx σ H2 λz H3=>∃o,DGet H3 a y o∧Q (o.getD z) H3
section
variable{X:Cx}{o e f:Expr}{apos cpos:Pos}{td ty tx:TE}
def pe_dget2(hu:X.A.units+1<cLine)(ho:PE X o td)(he:PE X e ty)(hf:PE X f tx)(m:M2 X o "get" apos e f cpos):PE X (.Call (.Attribute o "get" apos) [e,f] [] cpos) (tDGet2 td ty tx):=by
 intro a7 s σ H Q I h
 refine wpAny_Call_method m.base m.few m.line PySem.F.plainAttrs_dict Xl PySem.F.type_dict_get (thn (ho a7 s σ H _ I h) λu s1 ⟨x,H1,I1,rx,a,ex,d,q1⟩=>?_)
 subst ex
 obtain rfl:u=Value.ref a:=rx
 obtain⟨t1,t2,_⟩:=isD_at I1 d
 refine⟨t1,t2,?_⟩
 rw[m.trees]
 refine Calls.callWith_builtin rfl (Calls.evalArgs_plain (Jr (thn (he a7 s1 σ H1 _ I1 q1) λiv s2 ⟨y,H2,I2,ry,q2⟩ =>
  Jr (thn (hf a7 s2 σ H2 _ I2 q2) λfv s3 ⟨z,H3,I3,rz,ov,g,q3⟩=>Xi ?_))))
 exact d_get2 hu I3 g ry rz λw' s4 I4 cG=>⟨_,H3,I4,cG,q3⟩
end
section
variable{X:Cx}{a7:Ng}{σ:St}{H:Hp}{s:Nh}{a:Nb}{kvs:List (Key×V)}{A:No}{E:Nc}
end
section
variable{X:Cx}{a7:Ng}{σ:St}{H:Hp}{s:Nh}{a:Nb}{y:V}{u:Value}{A:No}{E:Nc}
end
end L2
namespace HT
open PySem PyProof.Rows
def eqAt_int(A:No)(s:Nh)(a:Int)(t:Tok)(c:Int)(u:Tok):∃e,SeqAt.EqAt A s (.int a t) (.int c u) e∧(e=true↔a=c) :=
 ⟨(a==c),SeqAt.EqAt.int_int a t c u,ZM⟩
def rcLt_int(A:No)(s:Nh)(a:Int)(t:Tok)(c:Int)(u:Tok)(prog:Ni)(w:Nk)(E:Nc)(Q:Nc)(h:Q (.bool (decide (a<c))) s) :
  wpAny Z8 A (richCompare .Lt (.int a t) (.int c u)) Q E s :=
 (PyProof.Rows.lt_int h:ZF (compareOp .Lt (.int a t) (.int c u)) Q E s)
section
open PySem.SeqAt
open PySem.AutoSeq1 (wpAny_loadPart')
open PySem.MeetsSeq PySem.MeetsSeq2 PySem.MeetsSeq3
end
section
variable{prog:Ni}{w:Nk}{A:No}{E:Nc}{s:Nh}
def sIx(n d:Nat):Option Int→Nat
 |none=>d
 |some v=>if v<0 then(v+(n:Int)).toNat else min v.toNat n
def sIx_nat(n d k:Nat):sIx n d (some (k:Int))=min k n:=by
 show(if(k:Int)<0 then((k:Int)+(n:Int)).toNat else min (k:Int).toNat n)=min k n
 rw[if_neg QL,Wv]
end
end HT
namespace L2
open PySem PySem.Spec PyProof.Rows
abbrev TO:=St→Hp→(Option Int→Hp→Prop)→Prop
def PO(X:Cx)(e:Option Expr)(t:TO):Prop :=
 ∀(a7:Ng) (s:Nh) (σ:St) (H:Hp) (Q:Option Int→Hp→Prop),ZA H s→t σ H Q →
  wpAny ZY X.A (evalPart e X.env) (λu s'=>∃o H',ZA H' s'∧IsPart u o∧Q o H') X.xe s
def tNoPart:TO:=λ_ H Q=>Q none H
inductive RPt(x:V)(R:Int→Prop):Prop
 |mk (i:Int) (e:x=.int i) (q:R i):RPt x R
def tPart(t:TE):TO:=λ σ H Q=>t σ H λx H1=>RPt x λi=>Q (QB i) H1
section
variable{X:Cx}{e:Expr}{te:TE}{lo hi:Option Expr}{tl th:TO}{pos p2:Pos}
def zc8:PO X none tNoPart:=by
 intro a7 s σ H Q I h
 rw[evalPart_none]
 exact wpAny_pure ⟨none,H,I,.none,h⟩
def zb6(h:PE X e te):PO X (QB e) (tPart te):=by
 intro a7 s σ H Q I hw
 rw[evalPart_some]
 refine thn (h a7 s σ H _ I hw) λu s1 ⟨x,H1,I1,r1,q1⟩=>?_
 obtain⟨i,rfl,q⟩:=q1
 obtain⟨t,rfl⟩:=r1
 exact⟨QB i,H1,I1,.int i t,q⟩
def SlR(X:Cx)(r:V→Option Int→Option Int→Hp→VK→Prop):Prop :=
 ∀(a7:Ng) (s:Nh) (σ:St) (H:Hp) (x:V) (v vl vu:Value) (lo hi:Option Int) (sl:Nb) (Q:VK),ZA H s→RelV x v→s.heap.IsSliceOf sl vl vu .none→IsPart vl lo→IsPart vu hi→r x lo hi H Q →
  ∃T id,typeLookup (.type T) "__getitem__" = pure (QB (.builtin id))∧s.TypeIs v T∧ZD (getItem v (ZZ sl)) WY X.xe s
def tSl(r:V→Option Int→Option Int→Hp→VK→Prop)(te:TE)(tl th:TO):TE:=λ σ H Q=>te σ H λx H1=>tl σ H1 λl H2=>th σ H2 λu H3=>r x l u H3 Q
def zcg(hr:SlR X r)(he:PE X e te)(hl:PO X lo tl)(hu:PO X hi th):PE X (.Subscript e (.Slice lo hi none p2) pos) (tSl r te tl th):=by
 intro a7 s σ H Q I h
 refine Subscript_ (thn (he a7 s σ H _ I h) λv s1 ⟨x,H1,I1,r1,q1⟩=>?_)
 refine wpAny_Slice (thn (hl a7 s1 σ H1 _ I1 q1) λvl s2 ⟨l,H2,I2,pl,q2⟩=>thn (hu a7 s2 σ H2 _ I2 q2) λvu s3 ⟨u,H3,I3,pu,q3⟩=>?_)
 rw[evalPart_none]
 refine wpAny_pure ?_
 have I4:ZA H3 {s3 with heap:=s3.heap.push {cls:=.type "slice",data:=.fields #[vl,vu,.none]}}:=I3.kept (t':=s3.toks) λb ob q=>Qi _ q
 obtain⟨T,id,hT,ht,hg⟩:=hr a7 {s3 with heap:=s3.heap.push {cls:=.type "slice",data:=.fields #[vl,vu,.none]}} σ H3 x v vl vu l u s3.heap.objs.size Q I4 r1 (Heap.IsSliceOf.new ..) pl pu q3
 show ZD (subscriptTail e (.Slice lo hi none p2) v (.ref s3.heap.objs.size)) WY X.xe {s3 with heap:=s3.heap.push {cls:=.type "slice",data:=.fields #[vl,vu,.none]}}
 exact tail_any (ops:=[.ref s3.heap.objs.size,v]) ht hT hg (by with_unfolding_all rfl)
def cutV(xs:List V)(lo hi:Option Int):List V:=(xs.drop (HT.sIx xs.length 0 lo)).take (HT.sIx xs.length xs.length hi-HT.sIx xs.length 0 lo)
def zbu(xs:List V)(lo hi:Option Int):(cutV xs lo hi).length≤xs.length:=by
 unfold cutV
 rw[Zt,Ky]
 lia
end
end L2
namespace L2
open PySem PySem.Spec PyProof.Rows
def ixN(n:Nat)(i:Int):Option Nat:=if 0≤i then(if i<n then some i.toNat else none) else if -(n:Int)≤i then some (i+n).toNat else none
def atI{α:Type}(xs:List α)(i:Int):Option α:=(ixN xs.length i).bind λj=>xs[j]?
def ixN_seq(h:ixN n i=some j):seqIndex? i n=some j∧j<n∧-(n:Int)≤i∧i<n:=by
 unfold ixN at h
 by_cases h0:0≤i
 ·rw [if_pos h0] at h
  by_cases h1:i<n
  ·rw [if_pos h1] at h
   have e:i.toNat=j:=Qn h
   exact⟨by rw[seqIndex_of h0 h1,e],QL,QL,h1⟩
  ·rw[if_neg h1]at h;cases h
 ·rw [if_neg h0] at h
  by_cases h1:-(n:Int)≤i
  ·rw [if_pos h1] at h
   have e:(i+n).toNat=j:=Qn h
   exact⟨by rw[seqIndex_neg QL h1,e],QL,h1,QL⟩
  ·rw[if_neg h1]at h;cases h
def atI_get{α:Type}{xs:List α}{i:Int}{v:α}(h:atI xs i=some v):∃j,seqIndex? i xs.length=some j∧xs[j]?=some v∧j<xs.length∧-(xs.length:Int)≤i∧i<xs.length:=by
 unfold atI at h
 cases e:ixN xs.length i with
 |none=>rw[e]at h;cases h
 |some j =>
  rw[e]at h
  obtain⟨h1,h2,h3,h4⟩:=ixN_seq e
  exact⟨j,h1,h,h2,h3,h4⟩
def zax{α:Type}{xs:List α}{j:Nat}{v:α}(h:xs[j]?=some v):atI xs (j:Int)=some v:=by
 have hj:j<xs.length:=(Qz.mp h).1
 have e:ixN xs.length (j:Int)=some j:=by
  unfold ixN
  rw[if_pos QL,if_pos (by exact zar9 ‹_›)];simp
 unfold atI;rw[e];exact h
def PlainIx(b:Expr):Prop:=∀o i,subscripted b false o i=operate [o,i] (getItem o i)
def IxR(X:Cx)(r:R2):Prop :=
 ∀(value slice:Expr) (a7:Ng) (s:Nh) (σ:St) (H:Hp) (x y:V) (v u:Value) (Q:VK),ZA H s→RelV x v→RelV y u→r x y H Q →
  subscripted slice false v u=operate [v,u] (getItem v u)→ZD (subscriptTail value slice v u) WY X.xe s
def MtR(X:Cx)(id:String)(r:V→List V→Hp→VK→Prop):Prop :=
 ∀(a7:Ng) (s:Nh) (σ:St) (H:Hp) (x:V) (xs:List V) (v:Value) (us:Nj) (Q:VK),ZA H s→RelV x v→Vals xs us→r x xs H Q →
  wpAny ZY X.A (call (.builtin id) (v::us)) WY X.xe s
section
variable{X:Cx}{a b:Expr}{ta tb:TE}{pos:Pos}
def za2(hr:IxR X r)(ha:PE X a ta)(hb:PE X b tb)(hs:PlainIx b):PE X (.Subscript a b pos) (tOp r ta tb):=by
 intro a7 s σ H Q I h
 exact Subscript_ (binT ha hb I h λv u s2 x y H2 I2 rx ry q=>hr a b a7 s2 σ H2 x y v u Q I2 rx ry q (hs _ _))
inductive RrIxL(K:Na)(x:V)(y:V)(H:Hp)(Q:VK):Prop
 |mk (p:_) (xs:_) (i:_) (v:_) (h0:x=.ref p) (h1:y=.int i) (h2:SqL K H p xs) (h3:atI xs i=some v) (h4:Q v H):RrIxL K x y H Q
def rIxL(K:Na):R2:=λx y H Q=>RrIxL K x y H Q
inductive RrIxT(K:Na)(x:V)(y:V)(H:Hp)(Q:VK):Prop
 |mk (p:_) (xs:_) (i:_) (v:_) (h0:x=.ref p) (h1:y=.int i) (h2:SqT K H p xs) (h3:atI xs i=some v) (h4:Q v H):RrIxT K x y H Q
def rIxT(K:Na):R2:=λx y H Q=>RrIxT K x y H Q
inductive RrIxS(x:V)(y:V)(H:Hp)(Q:VK):Prop
 |mk (z:_) (i:_) (c:_) (h0:x=.str z) (h1:y=.int i) (h2:z.length≤sizeLine) (h3:atI z.cps.toList i=some c) (h4:Q (.str ⟨#[c]⟩) H):RrIxS  x y H Q
def rIxS:R2:=λx y H Q=>RrIxS  x y H Q
def za0:IxR X (rIxL X.K):=by
 intro value slice a7 s σ H x y v u Q I rx ry h hs
 obtain⟨p,xs,i,z,rfl,rfl,hq,he,q⟩:=h
 cases rx
 obtain⟨t,rfl⟩:=ry
 obtain⟨a9,r,pl,hz⟩:=I.list hq
 obtain⟨j,h1,h2,h3,h4,h5⟩:=atI_get he
 obtain⟨w,ew,cG⟩:=r.get h2
 have hl:=r.length
 have hn:=zfi
 have fin:EP X a7 σ Q w s:=⟨z,H,I,cG,q⟩
 by_cases h0:0≤i
 ·have hj:i.toNat=j:=by
   rw[seqIndex_of h0 h5]at h1
   exact Qn h1
  exact item_listR pl.isList h0 QL (by rw[hj];simpa using ew) fin hs
 ·have hj:(i+(a9.toArray.size:Int)).toNat=j:=by
   rw[seqIndex_neg QL h4]at h1
   rw[Qx,←hl]
   exact Qn h1
  exact subscriptTail_builtinR (x:=w) pl.isList.typeIs slot_list_getitem.lookup
   (wpAny_getItem_list_neg (Q:=λr s'=>r=w∧EP X a7 σ Q r s') pl.isList QL (by rw[Qx]<;>lia) QL (by rw[hj];simpa using ew) ⟨rfl,fin⟩) hs
def zbr:IxR X (rIxT X.K):=by
 intro value slice a7 s σ H x y v u Q I rx ry h hs
 obtain⟨p,xs,i,z,rfl,rfl,hq,he,q⟩:=h
 cases rx
 obtain⟨t,rfl⟩:=ry
 obtain⟨a9,r,pl,hz⟩:=I.tuple hq
 obtain⟨j,h1,h2,h3,h4,h5⟩:=atI_get he
 obtain⟨w,ew,cG⟩:=r.get h2
 have hl:=r.length
 have hn:=zfi
 have fin:EP X a7 σ Q w s:=⟨z,H,I,cG,q⟩
 exact subscriptTail_builtinR (x:=w) pl.typeIs slot_tuple_getitem.lookup
  (getItem_tuple (j:=j) (Q:=λr s'=>r=w∧EP X a7 σ Q r s') pl QL QL (by rw[Qx,←hl];exact h1) (ZR ew) ⟨rfl,fin⟩) hs
def ix_str:IxR X rIxS:=by
 intro value slice a7 s σ H x y v u Q I rx ry h hs
 obtain⟨z,i,c,rfl,rfl,hz,he,q⟩:=h
 obtain⟨t,rfl⟩:=rx
 obtain⟨t',rfl⟩:=ry
 obtain⟨j,h1,h2,h3,h4,h5⟩:=atI_get he
 have hl:z.cps.toList.length=z.length:=by simp[Str.length]
 rw[hl]at h1 h4 h5
 have hn:=zfi
 exact tail_any (typeIs_str s z t) slot_str_getitem.lookup (getItem_str (c:=c) (by
  have e1:decide (i < -(2 ^ 63:Int))=false:=decide_eq_false QL
  have e2:decide (i≥2 ^ 63)=false:=decide_eq_false QL
  rw[e1,e2,Bool.or_false]) (by rw[h1];simpa using h2) ⟨.str ⟨#[c]⟩,H,I.tok _,⟨_,rfl⟩,q⟩) hs
def mapSeq_set(a9:Nj)(n j:Nat)(u:Value):Obj.mapSeq (·.setIfInBounds j u) {cls:=.type "list",data:=.seq a9.toArray n}={cls:=.type "list",data:=.seq (a9.set j u).toArray n}:=by
 simp[Obj.mapSeq]
def Inv.lst{a7:Ng}{σ:St}{H:Hp}{s:Nh}{p:Nb}{xs:List V}(I:QT)(h:H p=some (QZ xs)) :
  ∃(a9:Nj) (n:Nat),Vals xs a9∧s.heap.get? p=some {cls:=.type "list",data:=.seq a9.toArray n}∧xs.length≤sizeLine:=by
 obtain⟨z,a9,n,r,e⟩:=I.hok p _ h
 exact⟨a9,n,r,e,z⟩
def Inv.lstUpd{s:Nh}{xs ys:List V}{a9 its':Nj}{n n':Nat}{f:Obj→Obj}(I:QT)(h:H p=some (QZ xs))(ho:s.heap.get? p=some {cls:=.type "list",data:=.seq a9.toArray n})(hf:f {cls:=.type "list",data:=.seq a9.toArray n}={cls:=.type "list",data:=.seq its'.toArray n'})(r:Vals ys its')(hz:ys.length≤sizeLine)(t:Nat) :
  Inv X a7 σ (ZW H p ys) {s with heap:=s.heap.update p f,toks:=t}:=by
 have e:(s.heap.update p f).get? p=some {cls:=.type "list",data:=.seq its'.toArray n'}:=by
  rw[Um f ho (by rw[hf]<;>rfl),hf]
 refine I.write (x:=p) (e:=p) (by rw[h];trivial) QX (λb u hb q=>(Yc _ _ (Zn hb)).trans q) ⟨_,e⟩ ?_
 exact⟨hz,its',n',r,e⟩
inductive RrSetL(o:V)(i:V)(v:V)(H:Hp)(Q:Hp→Prop):Prop
 |mk (p:_) (xs:_) (k:_) (j:_) (h0:o=.ref p) (h1:i=.int k) (h2:H p=some (.lst xs)) (h3:ixN xs.length k=some j) (h4:Q (upd H p (.lst (xs.set j v)))):RrSetL  o i v H Q
def rSetL:V→V→V→Hp→(Hp→Prop)→Prop:=λo i v H Q=>RrSetL  o i v H Q
def set_list:PSet X rSetL:=by
 intro a7 s σ H o i v ov iv u Q I ro ri rv h
 obtain⟨p,xs,k,j,rfl,rfl,hp,hj,q⟩:=h
 cases ro
 obtain⟨t,rfl⟩:=ri
 obtain⟨a9,n,r,ho,hz⟩:=I.lst hp
 obtain⟨h1,h2,h3,h4⟩:=ixN_seq hj
 have hl:=r.length
 have hn:=zfi
 have I':ZA (ZW H p (xs.set j v)) {s with heap:=s.heap.update p (Obj.mapSeq (·.setIfInBounds j u))} :=
  I.lstUpd hp ho (mapSeq_set a9 n j u) (r.set rv j) (by rw[List.length_set];exact hz) s.toks
 by_cases h0:0≤k
 ·have hk:k.toNat=j:=by
   rw[seqIndex_of h0 h4]at h1
   exact Qn h1
  exact PySem.W.ki_setAt ho h0 QL (by rw[Qx,←hl];exact h4) (by rw[hk];exact⟨_,I',q⟩)
 ·have hk:(k+(a9.toArray.size:Int)).toNat=j:=by
   rw[seqIndex_neg QL h3]at h1
   rw[Qx,←hl]
   exact Qn h1
  exact PySem.W.ki_setBack ho QL (by rw[Qx,←hl];exact h3) QL (by rw[hk];exact⟨_,I',q⟩)
def slice_bounds(lo hi:Option Int)(n:Nat):(sliceBounds lo hi none n).1=((HT.sIx n 0 lo:Nat):Int)∧(sliceBounds lo hi none n).2.1=((HT.sIx n n hi:Nat):Int)∧(sliceBounds lo hi none n).2.2=1:=by
 refine⟨?_,?_,rfl⟩
 ·cases lo with
  |none=>simp[sliceBounds,HT.sIx]
  |some i =>
   simp only[sliceBounds,HT.sIx,Option.getD_none,show(1:Int)>0 by decide,if_true]
   by_cases h:i<0
   ·simp only[h,if_true]<;>lia
   ·simp only[h,if_false]<;>lia
 ·cases hi with
  |none=>simp[sliceBounds,HT.sIx]
  |some i =>
   simp only[sliceBounds,HT.sIx,Option.getD_none,show(1:Int)>0 by decide,if_true]
   by_cases h:i<0
   ·simp only[h,if_true]<;>lia
   ·simp only[h,if_false]<;>lia
def zhz(a9:Nj)(lo hi:Option Int):slicePick a9.toArray lo hi none=((a9.drop (HT.sIx a9.length 0 lo)).take (HT.sIx a9.length a9.length hi-HT.sIx a9.length 0 lo)).toArray:=by
 obtain⟨h1,h2,h3⟩:=slice_bounds lo hi a9.toArray.size
 unfold slicePick
 rw[h1,h2,h3]
 simp only[sliceRange_one,pick_run,Qx]<;>rfl
inductive RrSlL(K:Na)(x:V)(lo:Option Int)(hi:Option Int)(H:Hp)(Q:VK):Prop
 |mk (a:_) (xs:_) (h0:x=.ref a) (h1:SqL K H a xs) (h2:∀p,H p=none→Q (.ref p) (upd H p (.lst (cutV xs lo hi)))):RrSlL K x lo hi H Q
def rSlL(K:Na):V→Option Int→Option Int→Hp→VK→Prop:=λx lo hi H Q=>RrSlL K x lo hi H Q
def zcy:SlR X (rSlL X.K):=by
 intro a7 s σ H x v vl vu lo hi sl Q I rx hs pl pu h
 obtain⟨a,xs,rfl,hx,q⟩:=h
 cases rx
 obtain⟨a9,r,ht,hz⟩:=I.list hx
 have af:=r.length
 refine⟨"list",_,slot_list_getitem.lookup,ht.isList.typeIs,?_⟩
 refine wpAny_getItem_list_slice ht.isList hs pl pu .none ZM ?_ (by rw[Qx]<;>exact zex ‹_› ‹_›)
 rw[zhz,←af]
 refine⟨Z6,_,I.laid (t':=s.toks) (o:=.lst (cutV xs lo hi)) (λb ob q=>Qi _ q) QK ?_,rfl,q _ (I.hok.fresh QK)⟩
 exact⟨Zi (zbu xs lo hi) hz,_,0,(r.drop (HT.sIx xs.length 0 lo)).take (HT.sIx xs.length xs.length hi-HT.sIx xs.length 0 lo),Za _ rfl⟩
def zdf:V→Bool
 |.non=>true
 |.bl _=>true
 |.int _=>true
 |.str _=>true
 |_=>false
def eqV:V→V→Bool
 |.non,.non=>true
 |.bl a,.bl b=>a==b
 |.bl a,.int b=>(if a then 1 else 0)==b
 |.int a,.bl b=>a==(if b then 1 else 0)
 |.int a,.int b=>a==b
 |.str a,.str b=>a==b
 |_,_=>false
def eqAt_V(ry:RelV y u)(rx:RelV x v)(fy:zdf y=true)(fx:zdf x=true):SeqAt.EqAt A s u v (eqV y x):=by
 cases y with
 |non =>
  cases ry
  cases x with
  |non=>cases rx;exact SeqAt.EqAt.same _
  |bl b=>cases rx;exact SeqAt.EqAt.none_bool b
  |int b=>obtain⟨t,rfl⟩:=rx;exact SeqAt.EqAt.none_int b t
  |str b=>obtain⟨t,rfl⟩:=rx;exact SeqAt.EqAt.none_str b t
  |_=>exact absurd (show false=true from fx) Zh
 |bl a =>
  cases ry
  cases x with
  |non=>cases rx;exact SeqAt.EqAt.bool_none a
  |bl b=>cases rx;exact SeqAt.EqAt.bool_bool a b
  |int b=>obtain⟨t,rfl⟩:=rx;exact SeqAt.EqAt.bool_int a b t
  |str b=>obtain⟨t,rfl⟩:=rx;exact SeqAt.EqAt.bool_str a b t
  |_=>exact absurd (show false=true from fx) Zh
 |int a =>
  obtain⟨t',rfl⟩:=ry
  cases x with
  |non=>cases rx;exact SeqAt.EqAt.int_none a t'
  |bl b=>cases rx;exact SeqAt.EqAt.int_bool a t' b
  |int b=>obtain⟨t,rfl⟩:=rx;exact SeqAt.EqAt.int_int a t' b t
  |str b=>obtain⟨t,rfl⟩:=rx;exact SeqAt.EqAt.int_str a t' b t
  |_=>exact absurd (show false=true from fx) Zh
 |str a =>
  obtain⟨t',rfl⟩:=ry
  cases x with
  |non=>cases rx;exact SeqAt.EqAt.str_none a t'
  |bl b=>cases rx;exact SeqAt.EqAt.str_bool a t' b
  |int b=>obtain⟨t,rfl⟩:=rx;exact SeqAt.EqAt.str_int a t' b t
  |str b=>obtain⟨t,rfl⟩:=rx;exact Uu a t' b t
  |_=>exact absurd (show false=true from fx) Zh
 |_=>exact absurd (show false=true from fy) Zh
def eqU(x:V)(u:Value):Bool:=match u with
 |.none=>eqV .non x
 |.bool b=>eqV (.bl b) x
 |.int i _=>eqV (W6 i) x
 |.str z _=>eqV (.str z) x
 |_=>false
def eqU_of(r:RelV y u)(f:zdf y=true):eqU x u=eqV y x:=by
 cases y with
 |non=>cases r;rfl
 |bl b=>cases r;rfl
 |int i=>obtain⟨t,rfl⟩:=r;rfl
 |str z=>obtain⟨t,rfl⟩:=r;rfl
 |_=>exact absurd (show false=true from f) Zh
theorem zgs:∀{xs:List V} {us:Nj},Vals xs us→xs.all zdf=true→us.any (eqU x)=xs.any λy=>eqV y x
 |_,_,.nil,_=>rfl
 |y::xs,u::us,.cons r t,f=>by
  rw[List.all_cons,Ju]at f
  rw[Kp,Kp,eqU_of r f.1,zgs t f.2]
theorem zdz(rx:RelV x v)(fx:zdf x=true):∀{xs:List V} {us:Nj},Vals xs us→xs.all zdf=true→∀u∈us,SeqAt.EqAt A s u v (eqU x u)
 |_,_,.nil,_=>λu hu=>by cases hu
 |y::xs,u::us,.cons r t,f=>λu' hu=>by
  rw[List.all_cons,Ju]at f
  rcases Qg.mp hu with rfl | hu
  ·rw[eqU_of r f.1];exact eqAt_V r rx f.1 fx
  ·exact zdz rx fx t f.2 u' hu
def inV(x:V)(xs:List V):Bool:=xs.any λy=>eqV y x
inductive RrIn(K:Na)(neg:Bool)(x:V)(y:V)(H:Hp)(Q:VK):Prop
 |mk (p:_) (xs:_) (h0:y=.ref p) (h1:(SqL K H p xs∨SqT K H p xs)) (h2:zdf x=true) (h3:xs.all zdf=true) (h4:Q (.bl (if neg then !inV x xs else inV x xs)) H):RrIn K neg x y H Q
def rIn(K:Na)(neg:Bool):R2:=λx y H Q=>RrIn K neg x y H Q
def op_in_seq:OpR X (compareOp .In) (rIn X.K false):=by
 intro a7 s σ H x y v u Q I rx ry h
 obtain⟨p,xs,rfl,hq,fx,fs,q⟩:=h
 cases ry
 rcases hq with hq | hq
 ·obtain ⟨a9,r,pl,hz⟩:=I.list hq
  refine SeqAt.in_listAt (eqU x) pl.isList (λw hw=>zdz rx fx r fs w (ZR hw)) ⟨.bl _,H,I,rfl,?_⟩
  rw[show a9.toArray.any (eqU x)=a9.any (eqU x) by simp,zgs r fs]
  exact q
 ·obtain ⟨a9,r,pl,hz⟩:=I.tuple hq
  refine SeqAt.in_tupleAt (eqU x) pl (λw hw=>zdz rx fx r fs w (ZR hw)) ⟨.bl _,H,I,rfl,?_⟩
  rw[show a9.toArray.any (eqU x)=a9.any (eqU x) by simp,zgs r fs]
  exact q
def zcw:OpR X (compareOp .NotIn) (rIn X.K true):=by
 intro a7 s σ H x y v u Q I rx ry h
 obtain⟨p,xs,rfl,hq,fx,fs,q⟩:=h
 cases ry
 rcases hq with hq | hq
 ·obtain ⟨a9,r,pl,hz⟩:=I.list hq
  refine SeqAt.notIn_listAt (eqU x) pl.isList (λw hw=>zdz rx fx r fs w (ZR hw)) ⟨.bl _,H,I,rfl,?_⟩
  rw[show a9.toArray.any (eqU x)=a9.any (eqU x) by simp,zgs r fs]
  exact q
 ·obtain ⟨a9,r,pl,hz⟩:=I.tuple hq
  refine SeqAt.notIn_tupleAt (eqU x) pl (λw hw=>zdz rx fx r fs w (ZR hw)) ⟨.bl _,H,I,rfl,?_⟩
  rw[show a9.toArray.any (eqU x)=a9.any (eqU x) by simp,zgs r fs]
  exact q
def zat:zck X (.builtin "len") (λxs H Q=>Ex2 λp ys=>Aj3 (xs=[ZZ p]) ((SqL X.K H p ys)∨( SqT X.K H p ys)) (Q (.int ys.length) H)):=by
 intro a7 s σ H xs us Q I r h
 obtain⟨p,ys,rfl,hq,q⟩:=h
 obtain⟨u,rfl,rx⟩:=vals1 r
 cases rx
 have hn:=zfi
 rcases hq with hq | hq
 ·obtain ⟨a9,r',pl,hz⟩:=I.list hq
  have af:=r'.length
  exact Calls.call_len_list pl.isList (by simp only[Qx]<;>lia) ⟨.int ys.length,H,I.tok _,⟨s.toks+1,by rw[Qx,af]⟩,q⟩
 ·obtain ⟨a9,r',pl,hz⟩:=I.tuple hq
  have af:=r'.length
  exact len_tuple pl (by simp only[Qx]<;>lia) ⟨.int ys.length,H,I.tok _,⟨s.toks+1,by rw[Qx,af]⟩,q⟩
def call_len_str:zck X (.builtin "len") (λxs H Q=>Ex1 λz=>Aj3 (xs=[.str z]) (z.length≤sizeLine) (Q (.int z.length) H)):=by
 intro a7 s σ H xs us Q I r h
 obtain⟨z,rfl,hz,q⟩:=h
 obtain⟨u,rfl,t,rfl⟩:=vals1 r
 have hn:=zfi
 exact len_str QL ⟨.int z.length,H,I.tok _,⟨_,rfl⟩,q⟩
def zcx:zck X (.type "list") (λxs H Q=>Ex2 λp ys=>Aj3 (xs=[ZZ p]) ((SqL X.K H p ys)∨( SqT X.K H p ys)) (∀l,H l=none→Q (ZZ l) (ZW H l ys))):=by
 intro a7 s σ H xs us Q I r h
 obtain⟨p,ys,rfl,hq,q⟩:=h
 obtain⟨u,rfl,rx⟩:=vals1 r
 cases rx
 have fin:∀(a9:Nj),Vals ys a9→ys.length≤sizeLine→∀(h':Nm) (c':Nat),(∀b o',s.heap.get? b=some o'→h'.get? b=some o') →
   h'.get? s.heap.objs.size=some {cls:=.type "list",dict:=none,data:=.seq a9.toArray c',slots:=#[]}→EP X a7 σ Q Z6 {s with heap:=h'}:=λa9 r' hz h' c' kp e =>
  ⟨Z6,_,I.laid (t':=s.toks) kp QK (show zbw X.prog X.w _ h' _ (QZ ys) from⟨hz,a9,c',r',e⟩),rfl,q _ (I.hok.fresh QK)⟩
 rcases hq with hq | hq
 ·obtain ⟨a9,r',pl,hz⟩:=I.list hq
  have af:=r'.length
  obtain⟨o,ho,hc,n,hd⟩:=pl.isList
  exact call_list_seq p QX ho hc hd (λh' c' kp e=>fin a9 r' hz h' c' kp e) (by simp only[Qx]<;>exact zex ‹_› ‹_›)
 ·obtain ⟨a9,r',pl,hz⟩:=I.tuple hq
  have af:=r'.length
  obtain⟨o,ho,hc,n,hd⟩:=pl
  exact call_list_seq p (.inr rfl) ho hc hd (λh' c' kp e=>fin a9 r' hz h' c' kp e) (by simp only[Qx]<;>exact zex ‹_› ‹_›)
def ziw:zck X (.type "tuple") (λxs H Q=>Ex2 λp ys=>Aj2 (xs=[ZZ p]) ((Aj2 (SqL X.K H p ys) (∀l,H l=none→Q (ZZ l) (upd H l (.tup ys))))∨(Aj2 (SqT X.K H p ys) (Q (ZZ p) H)))):=by
 intro a7 s σ H xs us Q I r h
 obtain⟨p,ys,rfl,h⟩:=h
 obtain⟨u,rfl,rx⟩:=vals1 r
 cases rx
 rcases h with⟨hq,q⟩ | ⟨hq,q⟩
 ·obtain ⟨a9,r',pl,hz⟩:=I.list hq
  have af:=r'.length
  refine call_tuple_list pl.isList (λh' kp=>?_) (by simp only[Qx]<;>exact zex ‹_› ‹_›)
  have I1:ZA H {s with heap:=h'}:=I.kept (t':=s.toks) kp
  have I2:ZA (upd H h'.objs.size (.tup ys)) {s with heap:=h'.push {cls:=.type "tuple",data:=.seq a9.toArray}} :=
   I1.laid (t':=s.toks) (λb o e=>Qi _ e) QK (show zbw X.prog X.w _ _ _ (.tup ys) from⟨hz,a9,r',IsTup.new _ _⟩)
  exact⟨.ref h'.objs.size,_,I2,rfl,q _ (I1.hok.fresh QK)⟩
 ·obtain ⟨a9,r',pl,hz⟩:=I.tuple hq
  exact call_tuple_same pl ⟨ZZ p,H,I,rfl,q⟩
def tyV(K:Na)(T:String)(x:V)(H:Hp):Prop:=match x with
 |.str _=>T = "str"
 |.int _=>T = "int"
 | .ref p=>(T = "list" ∧ ∃ xs,SqL K H p xs)∨(T = "tuple" ∧ ∃ o,K.lookup p=some o∧o.cls=.type "tuple" ∧ o.dict=none) ∨
   (T = "dict" ∧ ((∃kvs,H p=some (.dK kvs))∨∃kvs,H p=some (.dT kvs)))∨(T = "set" ∧ ∃S n,H p=some (.set S n))
 |_=>False
def tyV_is(I:QT)(r:RelV x v)(ty:tyV X.K T x H) :
  s.TypeIs v T∧∀a,v=.ref a→∃ob,s.heap.get? a=some ob∧ob.dict=none:=by
 cases x with
 |str z =>
  obtain⟨t,rfl⟩:=r
  cases(show T = "str" from ty)
  exact⟨typeIs_str s z t,λ_ e=>nomatch e⟩
 |int i =>
  obtain⟨t,rfl⟩:=r
  cases(show T = "int" from ty)
  exact⟨typeIs_int s i t,λ_ e=>nomatch e⟩
 | ref p =>
  cases r
  rcases ty with⟨rfl,xs,hq⟩ | ⟨rfl,o,hk,hc,hd⟩ | ⟨rfl,hk⟩ | ⟨rfl,S,n,hk⟩
  ·obtain ⟨a9,_,pl,_⟩:=I.list hq
   refine⟨pl.isList.typeIs,λa e=>?_⟩
   cases e
   obtain⟨o,n,e,c,hd,_⟩:=pl
   exact⟨o,e,hd⟩
  ·refine ⟨⟨o,I.kIn p o hk,hc⟩,fun a e=>?_⟩
   cases e
   exact⟨o,I.kIn _ o hk,hd⟩
  ·have z:∃ o,s.heap.get? p=some o∧o.ExactDict:=by
    rcases hk with⟨kvs,hk⟩ | ⟨kvs,hk⟩
    ·obtain ⟨_,_,_,_,o,_,_,e,ex,_⟩:=I.hok p _ hk
     exact⟨o,e,ex⟩
    ·obtain ⟨_,_,_,_,o,_,_,e,ex,_⟩:=I.hok p _ hk
     exact⟨o,e,ex⟩
   obtain⟨o,e,ex⟩:=z
   refine⟨⟨o,e,ex.1⟩,λa e2=>?_⟩
   cases e2
   exact⟨o,e,ex.2.1⟩
  ·obtain ⟨o,_,_,_,e,ex,_⟩:=I.hok p _ hk
   refine⟨⟨o,e,ex.1⟩,λa e2=>?_⟩
   cases e2
   exact⟨o,e,ex.2.1⟩
 |_=>exact False.elim ty
def tBM0(K:Na)(T:String)(r:V→List V→Hp→VK→Prop)(to:TE):TE:=λ σ H Q=>to σ H λx H1=>tyV K T x H1∧r x [] H1 Q
def tBM(K:Na)(T:String)(r:V→List V→Hp→VK→Prop)(to:TE)(t:TA):TE:=λ σ H Q=>to σ H λx H1=>tyV K T x H1∧t σ H1 λxs H2=>r x xs H2 Q
variable{o e:Expr}{es:Np}{to:TE}{t:TA}{name:Str}{apos cpos:Pos}{T id:String}{r:V→List V→Hp→VK→Prop}
def pe_bm0(pa:PlainAttrs T)(slot:Slot T name id)(qK:typeOf (.builtin id)=pure (.type "method_descriptor"))(hm:MtR X id r)(ho:PE X o to)(f':attributeBase o name X.env (WB o)=eval o X.env:=by rfl)(fk:(apos.endLine==cpos.line)=true:=by rfl):PE X (.Call (.Attribute o name apos) [] [] cpos) (tBM0 X.K T r to):=by
 intro a7 s σ H Q I h
 refine wpAny_Call_method0_late f' fk (thn (ho a7 s σ H _ I h) λv s1 ⟨x,H1,I1,r1,ty,q1⟩=>?_)
 obtain⟨h1,h2⟩:=tyV_is I1 r1 ty
 exact⟨T,id,pa,slot,qK,h1,h2,Calls.callWith_builtin rfl (PySem.evalArgs_none (hm a7 s1 σ H1 x [] v [] Q I1 r1 .nil q1))⟩
def zfn(pa:PlainAttrs T)(slot:Slot T name id)(qK:typeOf (.builtin id)=pure (.type "method_descriptor"))(hm:MtR X id r)(ho:PE X o to)(ha:PA X (e::es) t)(f':attributeBase o name X.env (WB o)=eval o X.env:=by rfl)(sx:((backTo cpos (starEach (e::es) X.env)).all (fun x=>!x.1) && (backToKw cpos (keywordEach [] X.env)).all (fun x=>x.1.isSome)
   && decide ((e::es).length+([]:List Keyword).length+(if([]:List Keyword).isEmpty then 0 else 1)<30))=true:=by rfl)(fk:(apos.endLine==cpos.line)=true:=by rfl)(hs:starEach (e::es) X.env=(false,WB e)::starEach es X.env:=by rfl)(jc:(backTo cpos (starEach es X.env)).any (·.1)=false:=by rfl) :
  PE X (.Call (.Attribute o name apos) (e::es) [] cpos) (tBM X.K T r to t):=by
 intro a7 s σ H Q I h
 refine wpAny_Call_method_late f' sx fk rfl (thn (ho a7 s σ H _ I h) λv s1 ⟨x,H1,I1,r1,ty,q1⟩=>?_)
 obtain⟨h1,h2⟩:=tyV_is I1 r1 ty
 refine⟨T,id,pa,slot,qK,h1,h2,?_⟩
 have hA:=ha cpos a7 s1 σ H1 _ I1 q1
 rw[hs]at hA ⊢
 refine Calls.callWith_builtin (by show(false||(backTo cpos (starEach es X.env)).any (·.1))=false;rw[jc]<;>rfl) (Calls.evalArgs_plain ?_)
 exact thn hA λus s2 ⟨vs,H2,I2,r2,q2⟩=>hm a7 s2 σ H2 x vs v us Q I2 r1 r2 q2
end
end L2
namespace L2
open PySem PySem.Spec PyProof.Rows
def MtM(X:Cx)(id:String)(r:V→List V→Hp→VK→Prop):Prop :=
 ∀(a7:Ng) (s:Nh) (σ:St) (H:Hp) (x:V) (xs:List V) (v:Value) (us:Nj) (Q:VK),ZA H s→RelV x v→Vals xs us→r x xs H Q →
  wpAny ZY X.A (call (.builtin id) (v::us)) WY X.xe s
theorem Vals.one:∀{x:V} {us:Nj},Vals [x] us→∃u,us=[u]∧RelV x u
 |_,_,.cons r .nil=>⟨_,rfl,r⟩
theorem Vals.zero:∀{us:Nj},Vals [] us→us=[]
 |_,.nil=>rfl
def Vals.dropLast{xs:List V}{us:Nj}(h:Vals xs us):Vals xs.dropLast us.dropLast:=by
 induction h with
 |nil=>exact .nil
 |cons r t ih =>
  cases t with
  |nil=>exact .nil
  |cons q t'=>exact .cons r ih
def Vals.reverse{xs:List V}{us:Nj}(h:Vals xs us):Vals xs.reverse us.reverse:=by
 induction h with
 |nil=>exact .nil
 |cons r t ih=>rw[List.reverse_cons,List.reverse_cons];exact Vals.append ih (.cons r .nil)
def erase_last{α:Type}(l:List α):l.eraseIdx (l.length - 1)=l.dropLast:=by
 induction l with
 |nil=>rfl
 | cons a r ih =>
  cases r with
  |nil=>rfl
  | cons b r =>
   have e:(a::b::r).length-1=((b::r).length-1)+1:=by
    have h1:(a::b::r).length=r.length+2:=rfl
    have h2:(b::r).length=r.length+1:=rfl
    assumption
   rw[e,List.eraseIdx_cons_succ,ih]
   all_goals rfl
section
variable{X:Cx}{a7:Ng}{σ:St}{H:Hp}{s:Nh}{l b:Nb}{xs ys zs:List V}
def Inv.lset{a9 its':Nj}{n:Nat}{f:Array Value→Array Value}{t':Nat}(I:QT)(hH:H l=some (QZ xs))(e:s.heap.get? l=some {cls:=.type "list",data:=.seq a9.toArray n})(hf:f a9.toArray=its'.toArray)(hv:Vals ys its')(hz:ys.length≤sizeLine) :
  Inv X a7 σ (ZW H l ys) {s with heap:=s.heap.update l (Obj.mapSeq f),toks:=t'}:=by
 have q:=PySem.IsL.update e f
 rw[hf]at q
 refine I.write (x:=l) (e:=l) (by rw[hH];exact trivial) QX (λb' u hb hu=>(Yc s.heap (Obj.mapSeq f) (Zn hb)).trans hu) ⟨_,q⟩ ?_
 exact⟨hz,its',_,hv,q⟩
def Inv.lnew(I:QT)(hv:Vals ys a9)(hz:ys.length≤sizeLine) :
  Inv X a7 σ (upd H s.heap.objs.size (QZ ys)) {s with heap:=s.heap.push {cls:=.type "list",data:=.seq a9.toArray},toks:=t'} :=
 I.laid (λ_ _ q=>Qi _ q) QK ⟨hz,a9,0,hv,Za _ rfl⟩
def Inv.fresh(I:QT):H s.heap.objs.size=none:=I.hok.fresh QK
def Inv.lstM(I:QT)(hH:H l=some (QZ xs)):xs.length≤sizeLine∧∃(a9:Nj) (n:Nat),Vals xs a9∧xs.length=a9.length∧s.heap.get? l=some {cls:=.type "list",data:=.seq a9.toArray n}:=by
 obtain⟨z,a9,n,r,e⟩:=I.hok l _ hH
 exact⟨z,a9,n,r,r.length,e⟩
end
section
variable{X:Cx}
inductive RrAppend(x:V)(vs:List V)(H:Hp)(Q:VK):Prop
 |mk (l:_) (xs:_) (y:_) (h0:x=.ref l) (h1:vs=[y]) (h2:H l=some (.lst xs)) (h3:xs.length<sizeLine) (h4:Q .non (upd H l (.lst (xs++[y])))):RrAppend  x vs H Q
def rAppend:V→List V→Hp→VK→Prop:=λx vs H Q=>RrAppend  x vs H Q
def zb8:MtM X "list.append" rAppend:=by
 intro a7 s σ H x vs v us Q I rx rv h
 obtain⟨l,xs,y,rfl,rfl,hH,hz,q⟩:=h
 cases rx
 obtain⟨u,rfl,ru⟩:=rv.one
 obtain⟨z,a9,n,r,hl,e⟩:=I.lstM hH
 refine call_meets F.slot_list_append ⟨_,e,rfl⟩ F.entry_list_append (F.args_list_append_2 _ _) (PySem.list_append l a9.toArray n u (by rw[Qx];exact zex ‹_› ‹_›)) ⟨e,?_⟩
 refine⟨.non,_,I.lset (its':=a9++[u]) hH e ZM (r.append (.cons ru .nil)) ?_,rfl,q⟩
 rw[Qy,Ur]
 assumption
inductive RrPop(x:V)(vs:List V)(H:Hp)(Q:VK):Prop
 |mk (l:_) (xs:_) (y:_) (h0:x=.ref l) (h1:vs=[]) (h2:H l=some (.lst xs)) (h3:xs[xs.length-1]?=some y) (h4:Q y (upd H l (.lst xs.dropLast))):RrPop  x vs H Q
def rPop:V→List V→Hp→VK→Prop:=λx vs H Q=>RrPop  x vs H Q
def mt_pop:MtM X "list.pop" rPop:=by
 intro a7 s σ H x vs v us Q I rx rv h
 obtain⟨l,xs,y,rfl,rfl,hH,hy,q⟩:=h
 cases rx
 have hus:=rv.zero
 subst hus
 obtain⟨z,a9,n,r,hl,e⟩:=I.lstM hH
 obtain⟨u,hu,ru⟩:=r.get hy
 have bQ:a9.toArray[a9.toArray.size-1]?=some u:=by
  show a9.toArray[a9.length-1]?=some u
  rw[←Uh,←hl]
  exact hu
 refine call_meets F.slot_list_pop ⟨_,e,rfl⟩ F.entry_list_pop (F.args_list_pop_1 _) (MeetsSeq.list_pop_last l a9.toArray n u bQ (by rw[Qx];exact zex ‹_› ‹_›)) ⟨e,?_⟩
 refine⟨y,_,I.lset (its':=a9.dropLast) hH e ?_ r.dropLast ?_,ru,q⟩
 ·show a9.toArray.eraseIdxIfInBounds (a9.toArray.size - 1)=a9.dropLast.toArray
  rw[Qx,List.eraseIdxIfInBounds_toArray,erase_last]
 ·rw [List.length_dropLast]
  lia
inductive RrCat(x:V)(y:V)(H:Hp)(Q:VK):Prop
 |mk (l:_) (b:_) (xs:_) (zs:_) (h0:x=.ref l) (h1:y=.ref b) (h2:H l=some (.lst xs)) (h3:H b=some (.lst zs)) (h4:xs.length+zs.length≤sizeLine) (h5:∀p,H p=none→Q (.ref p) (upd H p (.lst (xs++zs)))):RrCat  x y H Q
def rCat:R2:=λx y H Q=>RrCat  x y H Q
def zhb:OpR X (binaryOp .Add) rCat:=by
 intro a7 s σ H x y v u Q I rx ry h
 obtain⟨l,b,xs,zs,rfl,rfl,hH,hB,hz,q⟩:=h
 cases rx
 cases ry
 obtain⟨z,a9,n,r,hl,e⟩:=I.lstM hH
 obtain⟨z2,aH,n2,r2,aA,e2⟩:=I.lstM hB
 refine PySem.P.add_list e e2 ?_ (by rw[Qx,Qx];lia)
 have ea:a9.toArray++aH.toArray=(a9++aH).toArray:=by simp
 rw[ea]
 exact⟨ZZ _,_,I.lnew (t':=s.toks) (r.append r2) (by rw[Qy];assumption),rfl,q _ I.fresh⟩
end
section
variable{prog:Ni}{w:Nk}{A:No}{E:Nc}{s:Nh}
end
section
variable{X:Cx}
end
end L2
namespace Att
open PySem PySem.W PySem.Calls PyProof.Rows
def zgm:∀(ns:List Int) (vs:Nj),WellAll P h vs (ns.map WData.int)→IntsAre vs ns:=by
 intro ns
 induction ns with
 |nil =>
  intro vs w
  rw[Xf]at w
  cases w
  exact .nil
 | cons n ns ih =>
  intro vs w
  rw[Qm]at w
  cases w with
  |cons a b =>
   cases a
   exact .cons _ _ (ih _ b)
def script_of{l:OpenLaw}{n:Nat}(hn:l.most=some n){P:Params}{h:Nm}{args:List WData}{iI:Nj}(gN:l.row.toRowW.claim.pre args=true)(dh:WellAll P h iI args) :
  ∃a vs ns,iI=[Value.ref a]∧args=[WData.list (ns.map WData.int)]∧h.get? a=some {cls:=.type "list",data:=.seq vs.toArray}∧IntsAre vs ns∧ns.length≤n:=by
 have r9:WShape.hasAll [] args [.list .int]=true:=(pre_splitW gN).1
 have hc:l.pre.holds [] {args:=args}=true:=(pre_splitW gN).2
 obtain⟨d,r,rfl,h1,h2⟩:=hasAllW_cons r9
 obtain rfl:=hasAllW_nil h2
 obtain⟨xs,rfl,h3⟩:=hasW_list h1
 obtain⟨ns,rfl⟩:=items_int h3
 have af:ns.length≤n:=by
  unfold OpenLaw.pre at hc
  have h4:(WTm.not (.lt (.lit (.int (n:Int))) (.len (.arg 0)))).holds [] {args:=[.list (ns.map .int)]}=true:=by
   have h4:=(holds_andW hc).1
   rw[hn]at h4
   exact h4
  have h5:=condW_of h4 (w_not (w_lt w_lit (w_len_list (w_arg rfl))))
  rw[Qa]at h5
  refine Nat.le_of_not_lt λq=>?_
  have q':(n:Int)<((ns.length:Nat):Int):=by exact zar9 ‹_›
  first
   |(rw[decide_eq_true q']at h5;exact absurd h5 (by decide))
   |(simp at h5;lia)
 cases dh with
 |cons w1 w2 =>
  cases w2
  cases w1 with
  |list ho aI=>exact⟨_,_,ns,rfl,rfl,ho,zgm ns _ aI,af⟩
def post_true(l:OpenLaw)(args:List WData):l.row.toRowW.claim.post args (.bool true) args=true :=
 postW_of (r:=l.row.toRowW) (X:=(true==true))
  (show WShape.has [] (.bool true) .bool=true by first | rfl | decide | simp[WShape.has,WShape.arms,WShape.armsAll])
  (show(WTm.eq .res (.lit (.bool true))).value [] {args:=args,res:=some (.bool true),after:=args}=some (.bool (true==true)) from w_eq_bool (w_res rfl) w_lit) rfl
def attach_call{l:OpenLaw}{n:Nat}{q:Ni}{loose:Nf}{XP:(Str→Option Value)→Heap→Prop}{YP:World→Heap→Prop}{d:DefRec}(hn:l.most=some n)(nj:d.params.defaults=[])(call:∀ (w:Nk) (s₀ s₁:Nh) (mg mb:Nd) (fa:Nb) (o:Obj) (pm cd doc:Value) (a:Nb) (vs:Nj) (ns:List Int),
   Ground q loose [] XP w s₀ mg mb s₁.heap→YP w s₁.heap →
   s₁.heap.get? fa=some o→o.data=.func (docDef d.name d.params d.body d.scope pm cd doc)→s₁.heap.CodeRec cd d.name→mg d.name=some (ZZ fa) →
   s₁.heap.get? a=some {cls:=.type "list",data:=.seq vs.toArray}→IntsAre vs ns→ns.length≤n→s₁.gens=#[] →
   codeAny (model l.prog w) callerA (.call (ZZ fa) ⟨[ZZ a],[]⟩) (λr s'=>r=.ok (.ret (.bool true))∧OldK s₁.heap s'.heap∧s'.os=s₁.os∧AllBare s'.gens) s₁) :
  WalkO q loose XP YP l.row.toRowW d [] (λf vs=>PySem.call f vs):=by
 intro w s₀ s₁ mg mb G Y fa o pm cd doc dV kV ho hd aD hD rV hg args iI as gN hlay hrd dh ku
 obtain rfl:dV=.none:=Dflts.none hD nj
 obtain rfl:kV=.none:=Dflts.noKw hD
 obtain⟨a,vs,ns,rfl,rfl,jh,fG,af⟩:=script_of hn gN dh
 refine enter_call (codeAny_mono (call w s₀ s₁ mg mb fa o pm cd doc a vs ns G Y ho (fd_plain hd) aD rV jh fG af hg) λr s' hq=>?_)
 obtain⟨rfl,h2,h3,h4⟩:=hq
 exact⟨.inl ⟨.bool true,.bool true,[],rfl,λ_=>rfl,.bool true,post_true l _,λ_=>⟨List.Pairwise.nil,λ_ hm=>(nomatch hm)⟩⟩,h2,h3,h4⟩
section
variable{prog:Ni}{w:Nk}{A:No}{E:Nc}{s:Nh}{K:Frag}
end
end Att
namespace L2
open PySem PySem.Spec PyProof.Rows
theorem vals_ints:∀{vs:Nj} {ns:List Int},IntsAre vs ns→Vals (ns.map V.int) vs
 |_,_,.nil=>.nil
 |_,_,.cons n t h=>.cons ⟨t,rfl⟩ (vals_ints h)
def Only(H:Hp):Prop:=∀b,H b=none∨∃o xs,H b=some (.frz o (QZ xs))
def law_call{P:Ni}{w:Nk}{K:Na}{mg mb:Nd}{CX:CXT}{k:Nat}{fa a:Nb}{fd:Nr}{x:Str}{sp:Sp}{s₁:Nh}{vs:Nj}{ns:List Int}(KX:K.In s₁.heap)(lX:s₁.heap.Ns mainGlobals mg)(hb:s₁.heap.Ns builtinsNs mb)(hbb:∀x:Str,x ≠ "__name__" → mb x=bootBuiltins x)(sf:s₁.heap.NoLimit)(hg:s₁.gens=#[])(ha:s₁.heap.get? a=some {cls:=.type "list",data:=.seq vs.toArray})(hi:IntsAre vs ns)(hl:ns.length≤sizeLine)(hr:Room k callerA)(F:∀base:Heap,K.In base→base.Ns mainGlobals mg→FnOk P w K mg base CX k fa fd [x] sp)(nF:∀(s:Shared) (u:Value),BindsTo s fd ⟨[u],[]⟩ [(x,u)])(bB:∀H:Hp,Only H→SqL K H a (ns.map V.int)→sp [ZZ a] H (λv _=>v=.bl true) λ_ _ _=>False)(tS:∀H e s',CX [] H s₁ (λ_ _ _=>False) e s'→False) :
  codeAny (model P w) callerA (.call (ZZ fa) ⟨[ZZ a],[]⟩) (λr s'=>r=.ok (.ret (.bool true))∧OldK s₁.heap s'.heap∧s'.os=s₁.os∧AllBare s'.gens) s₁:=by
 have rv:=vals_ints hi
 have lenV:=hi.length
 have core:∀ H:Hp,Only H→SqL K H a (ns.map V.int)→HOk P w H s₁.heap→(∀ b,H b≠none→b=a)→(H a≠none→K.lookup a=none) →
   codeAny (model P w) callerA (.call (ZZ fa) ⟨[ZZ a],[]⟩) (λr s'=>r=.ok (.ret (.bool true))∧OldK s₁.heap s'.heap∧s'.os=s₁.os∧AllBare s'.gens) s₁:=by
  intro H hO hS hok hA hK
  have base_of:∀{b:Nb} {o:Obj},s₁.heap.get? b=some o→H b=none→(hidT s₁.heap H).get? b=some o:=λe n=>hidT_get e n
  have noA:∀{b:Nb} {o:Obj} {es:Array DictEntry} {ep:Nat},s₁.heap.get? b=some o→o.data=.dict es ep→H b=none:=λ{b o es ep} e d=>by
   cases q:H b with
   |none=>rfl
   |some u =>
    have e':b=a:=hA b (by rw[q];simp)
    subst e'
    rw[ha]at e;cases e
    have d':Data.seq vs.toArray _=Data.dict es ep:=d
    cases d'
  have nsK:∀{b:Nb} {m:Nd},s₁.heap.Ns b m→(hidT s₁.heap H).Ns b m:=λ{b m} ⟨o,es,ep,e,d,r⟩=>⟨o,es,ep,base_of e (noA e d),d,r⟩
  have hKb:K.In (hidT s₁.heap H):=λb o e=>base_of (KX b o e) (by
   cases q:H b with
   |none=>rfl
   |some u =>
    have e':b=a:=hA b (by rw[q];simp)
    subst e'
    rw[hK (by rw[q];simp)]at e;cases e)
  have hM:Mod K mg (hidT s₁.heap H):=⟨hKb,nsK lX,⟨mb,nsK hb,hbb⟩,let⟨mc,h1,h2⟩:=sf;⟨mc,nsK h1,h2⟩⟩
  have e0:Env0 P w K mg (hidT s₁.heap H) callerA [] s₁ H:=⟨rfl,hM,λb o e=>of_hidT e,Xe (hidT_size _ _),trivial,λb hb=>absurd (show b∈([]:List Addr) from hb) ZM,hok,.of_eq hg⟩
  refine codeAny_mono ((F _ hKb (nsK lX)).run callerA [] s₁ H ⟨[ZZ a],[]⟩ [ZZ a] [ZZ a] _ _ hr e0 (nF s₁ (ZZ a)) (.cons rfl .nil) (bB H hO hS)) λr s' h=>?_
  cases r with
  |error e=>exact(tS H e s' h).elim
  | ok fl =>
   cases fl with
   |next=>exact False.elim h
   |brk=>exact False.elim h
   |cont=>exact False.elim h
   | ret u =>
    obtain⟨v,H',os,bare,un,rN,r',q⟩:=h
    have q':v=.bl true:=q
    subst q'
    obtain rfl:u=Value.bool true:=r'
    refine⟨rfl,OldK.of_keep λb o e=>?_,os,bare⟩
    cases q:H b with
    |none=>exact un.keep b o e q (by intro z;exact absurd (show b∈([]:List Addr) from z) ZM) ZM
    | some u =>
     rcases hO b with z | ⟨ob,xs,z⟩
     ·rw[q]at z;cases z
     ·have z2:=un.frzs b ob _ z
      obtain⟨e1,_⟩:=hok b _ z
      obtain⟨e2,_⟩:=rN b _ z2
      rw[e]at e1;cases e1
      exact e2
 cases hk:K.lookup a with
 |some o =>
  have e:=KX a o hk
  rw[ha]at e
  cases e
  refine core (λ_=>none) (λ_=>.inl rfl) (.inr ⟨_,vs.toArray,_,hk,rfl,rfl,rfl,by rw[Qx,lenV];exact hl,ZR rv⟩) (λb u z=>by have z':(none:Option HO)=some u:=z;cases z') (λb z=>absurd rfl z) λz=>absurd rfl z
 | none =>
  refine core (λb=>if b=a then some (.frz {cls:=.type "list",data:=.seq vs.toArray} (QZ (ns.map V.int))) else none) (λb=>?_) (.inl (.inr ⟨{cls:=.type "list",data:=.seq vs.toArray},if_pos rfl⟩)) (λb u z=>?_) (λb z=>?_) λ_=>hk
  ·by_cases hb:b=a
   ·exact .inr ⟨_,_,if_pos hb⟩
   ·exact .inl (if_neg hb)
  ·by_cases hb:b=a
   ·have z':=(if_pos hb).symm.trans z
    cases z'
    subst hb
    exact⟨ha,Z2 Qa hl,vs,_,rv,ha⟩
   ·have z':=(if_neg hb).symm.trans z
    cases z'
  ·by_cases hb:b=a
   ·exact hb
   ·exact absurd (if_neg hb) z
end L2
namespace L2
open PySem PySem.Spec PyProof.Rows
def walk_of{l:PySem.W.OpenLaw}{n k:Nat}{q:Ni}{loose:Nf}{XP:(Str→Option Value)→Heap→Prop}{YP:World→Heap→Prop}{d:DefRec}{K:Params→PySem.W.Frag}{CX:World→CXT}{sp:World→Sp}{x:Str}(hn:l.most=some n)(bm:n≤sizeLine)(nj:d.params.defaults=[])(hr:Room k callerA)(hY:∀(w:World) (h:Heap),YP w h→(K w.params).In h)(F:∀ (w:Nk) (mg:Nd) (fa:Nb) (h:Nm),(K w.params).In h→h.Ns mainGlobals mg→mg d.name=some (ZZ fa) →
   ∃fd:FuncData,(∀(s:Nh) (u:Value),BindsTo s fd ⟨[u],[]⟩ [(x,u)]) ∧
    ∀base:Heap,(K w.params).In base→base.Ns mainGlobals mg→FnOk l.prog w (K w.params) mg base (CX w) k fa fd [x] (sp w))(bB:∀(w:Nk) (H:Hp) (a:Nb) (ns:List Int),ns.length≤n→Only H→SqL (K w.params) H a (ns.map V.int)→sp w [ZZ a] H (λv _=>v=.bl true) λ_ _ _=>False)(tS:∀(w:World) (H:Hp) (s:Shared) (e:Value) (s':Shared),CX w [] H s (λ_ _ _=>False) e s'→False) :
  PySem.W.WalkO q loose XP YP l.row.toRowW d [] (λf vs=>PySem.call f vs):=by
 refine Att.attach_call hn nj λw s₀ s₁ mg mb fa o pm cd doc a vs ns G Y ho hd aD rV jh fG af hg=>?_
 have KX:=hY w _ Y
 obtain⟨fd,hb,hF⟩:=F w mg fa _ KX G.T.g rV
 exact law_call KX G.T.g G.T.b G.T.builtins G.T.nolimit hg jh fG (Zi af bm) hr hF hb (λH hO hS=>bB w H a ns af hO hS) λH e s'=>tS w H s₁ e s'
end L2
namespace L2
open PySem PySem.Spec PyProof.Rows
def inClass(s:Stmt)(j:Nat):Stmt:=match s with
 |.ClassDef _ _ _ body _ _ _ _ _ _ _=>body.getD j (.Pass ⟨0,0,0,0⟩)
 |_=>.Pass ⟨0,0,0,0⟩
def zcu(s:Stmt):Arguments:=match s with
 |.FunctionDef _ a _ _ _ _ _ _ _ _=>a
 |_=>{posonlyargs:=[],args:=[],vararg:=none,kwonlyargs:=[],kw_defaults:=[],kwarg:=none,defaults:=[]}
def zca(s:Stmt):List Stmt:=match s with
 |.FunctionDef _ _ b _ _ _ _ _ _ _=>b
 |_=>[]
def zag(s:Stmt):Scope:=match s with
 |.FunctionDef _ _ _ _ _ _ sc _ _ _=>sc
 |_=>{kind:=.function,names:=[],isGenerator:=false,isCoroutine:=false}
abbrev CX0:CXT:=λ_ _ _ _ _ _=>False
abbrev E0:XK:=λ_ _ _=>False
def zc9:zgv CX0 X E0:=λ_ _ _ _ _ _ _ h=>h.elim
structure Fun(K:Na)(x qual:Str)(st:Stmt)(f:Nb)(fd:Nr):Prop where
 ex:∃(oc:Value) (od:Option Addr) (kV doc pm:Value) (an:Option Addr) (cdv ct:Value) (osl:Array (Option Value)),
  fd=PySem.W.fnOf x qual (zcu st) (zca st) (zag st) .none kV doc pm an cdv ct∧K.lookup f=some ⟨oc,od,.func fd,osl⟩∧PySem.W.codeIn K cdv qual=true
 kp:PySem.W.keepIn K (ZZ f)=true
section
variable{P:Ni}{w:Nk}{K:Na}{mg:Nd}{base:Nm}
def Fun.ok{x qual:Str}{st:Stmt}{f:Nb}{fd:Nr}{N ps:Nf}{k:Nat}{sp:Sp}(F:Fun K x qual st f fd)(S:zak N ps (zag st))(len:∀vs H Q E,sp vs H Q E→vs.length=ps.length)(cp:∀ (cdv:Value) (A:No) (outer:List Env) (s:Nh) (H:Hp) (vs:List V) (Q:VK) (E:XK),Room k (A.deeper (envOfC qual (zag st) s.heap.objs.size f cdv))→sp vs H Q E →
   ∃t,PSs (cxOf CX0 P w K mg base N qual (zag st) f cdv A outer s H E).nox (zca st) t∧t {nx:=λ_ H'=>Q .non H',rt:=Q} (start N vs) H):ZC (k+1) f fd ps sp:=by
 obtain⟨oc,od,kV,doc,pm,an,cdv,ct,osl,rfl,lk,aD⟩:=F.ex
 refine fn_of lk aD S len λA outer s H vs Q E hr bB=>?_
 obtain⟨t,h,q⟩:=cp cdv A outer s H vs Q E hr bB
 exact⟨t,h.nox,q⟩
def Fun.binds{x qual:Str}{st:Stmt}{f:Nb}{fd:Nr}{ps:Nf}(F:Fun K x qual st f fd)(h:∀(kV doc pm:Value) (an:Option Addr) (cdv ct:Value) (us:Nj),us.length=ps.length→bindArgs Z7 ⟨us,[]⟩=pure (ps.zip us)):Binds K fd ps []:=by
 obtain⟨oc,od,kV,doc,pm,an,cdv,ct,osl,rfl,lk,aD⟩:=F.ex
 exact .all (h kV doc pm an cdv ct)
def fun_mk{x qual:Str}{st:Stmt}{f:Nb}{oc:Value}{od an:Option Addr}{osl:Array (Option Value)}{kV doc pm cdv ct:Value}(l:K.lookup f=some ⟨oc,od,.func Z7,osl⟩)(c:PySem.W.codeIn K cdv qual=true)(k:PySem.W.keepIn K (ZZ f)=true):Fun K x qual st f Z7:=⟨⟨oc,od,kV,doc,pm,an,cdv,ct,osl,rfl,l,c⟩,k⟩
end
def zcd(hr:Room k A):A.units+1<cLine:=Kc (Nat.add_le_add_left (by decide:1≤64) _) hr.units
section
variable{X:Cx}
def pv(i:Nat)(hN:X.N[i]?=some x:=by rfl)(hv:Vis X.env.scope x:=by first | exact Or.inl rfl | exact Or.inr (Or.inl rfl) | exact Or.inr (Or.inr rfl))(hd:WT=false:=by decide)(aD:(x==("__classdict__" : Str))=false:=by decide):PE X (.Name x pos) (tVar i):=pe_var hN hv hd aD
end
def iteF{A B:Prop}(h:B):if false=true then A else B:=by
 rw[if_neg Zh]
 exact h
def iteT{A B:Prop}(h:A):if true=true then A else B:=by
 rw[if_pos rfl]
 exact h
def ite2{c A B:Prop}[Decidable c](h1:c→A)(h2:¬c→B):if c then A else B:=by
 by_cases h:c
 ·rw [if_pos h]
  exact h1 h
 ·rw [if_neg h]
  exact h2 h
section
variable{κ:Type}[DecidableEq κ]
end
end L2
end
section
namespace L2
open PySem PySem.Spec PyProof.Rows
def clOf(sc:Scope)(env:Env):List (Str×Addr):=sc.names.foldl WD []
theorem cl_fold:∀(l:List (Str×NameKind)) (cs:List (Str×Addr)),(∀y∈l,y.2=.free→∃c,env.cells.lookup y.1=some c) →
  (forIn l cs (fun (y:Str×NameKind) (r:List (Str×Addr))=>(do
   let(name,kind):=y
   if(kind==.free)=true then do
    let a ←cellOf env name
    pure (ForInStep.yield ((name,a)::r))
   else pure (ForInStep.yield r):Sem (ForInStep (List (Str×Addr))))))=(pure (l.foldl WD cs):Sem (List (Str×Addr)))
 |[],cs,_=>rfl
 | (n,k)::r,cs,h=>by
  rw[List.forIn_cons]
  have ih:=λcs=>cl_fold (env:=env) r cs λy hy=>h y (Qe _ hy)
  by_cases hk:(k==NameKind.free)=true
  ·obtain ⟨c,hc⟩:=h (n,k) Qb (ZR hk)
   have cn:env.cells.lookup n=some c:=hc
   have e:cellOf env n=pure c:=by unfold cellOf;rw[cn]
   rw[Jg]
   dsimp only
   rw[if_pos hk,if_pos hk,e,cn]
   exact ih _
  ·rw [Jg]
   dsimp only
   rw[if_neg hk,if_neg hk]
   exact ih _
def zbv(h:∀y∈sc.names,y.2=.free→∃c,env.cells.lookup y.1=some c):closureFor sc env=pure (clOf sc env):=by
 unfold closureFor
 have e:=cl_fold (env:=env) sc.names [] h
 exact(congrArg (λt:Sem (List (Str×Addr))=>t >>= λcs=>pure cs) e).trans rfl
theorem clOf_in{env:Env}{x:Str}{c:Nb}:∀(l:List (Str×NameKind)) (cs:List (Str×Addr)),(∀y∈l,y.2=.free→∃c,env.cells.lookup y.1=some c)→(∀x c,cs.lookup x=some c→env.cells.lookup x=some c) →
  (l.foldl WD cs).lookup x=some c→env.cells.lookup x=some c
 |[],cs,_,hc,e=>hc _ _ e
 | (n,k)::r,cs,h,hc,e=>by
  rw[Jg]at e
  refine clOf_in r _ (λy hy=>h y (Qe _ hy)) ?_ e
  by_cases hk:(k==NameKind.free)=true
  ·obtain ⟨a,ha⟩:=h (n,k) Qb (ZR hk)
   have kO:env.cells.lookup n=some a:=ha
   dsimp only
   rw[if_pos hk,kO]
   intro x c q
   rw[Uc]at q
   cases hx:x==n with
   |true =>
    rw[hx]at q
    have q':a=c:=Qn q
    have:x=n:=by simpa using hx
    rw[this,←q'];exact kO
   |false =>
    rw[hx]at q
    exact hc x c q
  ·dsimp only
   rw[if_neg hk]
   exact hc
theorem zit{env:Env}{x:Str}:∀(l:List (Str×NameKind)) (cs:List (Str×Addr)),((x,NameKind.free)∈l∨∃c,cs.lookup x=some c) →
  ∃c,(l.foldl WD cs).lookup x=some c
 |[],cs,h=>by
  rcases h with h | h
  ·exact absurd h ZM
  ·exact h
 | (n,k)::r,cs,h=>by
  rw[Jg]
  refine zit r _ ?_
  rcases h with h | ⟨c,h⟩
  ·rcases Qg.mp h with e | e
   ·obtain ⟨rfl,rfl⟩:=Uv e
    exact .inr ⟨(env.cells.lookup x).getD 0,by dsimp only;rw[if_pos Q4,List.lookup_cons];simp⟩
   ·exact .inl e
  ·refine .inr ?_
   dsimp only
   by_cases hk:(k==NameKind.free)=true
   ·rw [if_pos hk,Uc]
    cases hx:x==n with
    |true=>exact⟨W7⟩
    |false=>exact⟨c,h⟩
   ·rw[if_neg hk];exact⟨c,h⟩
structure Blk(X:Cx)(sc:Scope)(M:Nf)(ix:Nt):Prop where
 kind:sc.kind=.function
 nocell:∀y∈sc.names,y.2≠.cell
 names:∀y∈sc.names,y.2=.local→sc.names.lookup y.1=some .local
 frees:∀y∈sc.names,y.2=.free→X.env.scope.names.lookup y.1=some .cell∨X.env.scope.names.lookup y.1=some .free
 len:ix.length=M.length
 nd:M.Nodup
 caps:∀(j i:Nat) (x:Str),M[j]?=some x→ix[j]?=some (QB i)→X.N[i]?=some x∧sc.names.lookup x=some .free
def inner(ix:Nt)(σ:St):St:=ix.map λo=>match o with | none=>none | some i=>(σ[i]?).join
def zh6{sc:Scope}{env:Env}{x:Str}{oz:Option Str}(hn:∀ y∈sc.names,y.2=.cell→oz=some y.1)(h:(relabel sc env).names.lookup x=some .cell∨(relabel sc env).names.lookup x=some .free):(x,NameKind.free)∈sc.names∨oz=some x:=by
 have key:∀k',k'=.cell∨k'=.free→(x,k')∈(relabel sc env).names→(x,NameKind.free)∈sc.names∨oz=some x:=λk' mr hm=>by
  obtain⟨⟨n,k⟩,hy,e⟩:=Qj.mp hm
  dsimp only at e
  by_cases hb:(k==NameKind.free&&env.scope.kind==.function&&env.kindOf n==some .cell)=true
  ·rw [if_pos hb] at e
   obtain⟨rfl,_⟩:=Uv e
   have hk:k=.free:=by
    have:=(Bool.and_eq_true_iff.mp (Bool.and_eq_true_iff.mp hb).1).1
    simpa using this
   rw[hk]at hy
   exact .inl hy
  ·rw [if_neg hb] at e
   obtain⟨rfl,rfl⟩:=Uv e
   rcases mr with q | q
   ·exact .inr (hn _ hy q)
   ·rw[q]at hy;exact .inl hy
 rcases h with h | h
 ·exact key _ QX (Wk h)
 ·exact key _ (.inr rfl) (Wk h)
def ocl(oz:Option Str)(C:Nb)(cl:List (Str×Addr)):List (Str×Addr):=match oz with
 |none=>cl
 |some z=>(z,C+1)::cl
def och(oz:Option Str)(h:Nm):Heap:=match oz with
 |none=>h
 |some _=>h.push {cls:=.type "cell",data:=.cell none}
structure BlkG(X:Cx)(sc:Scope)(oz:Option Str)(M:Nf)(ix:Nt):Prop where
 kind:sc.kind=.function
 own:∀y∈sc.names,y.2=.cell→oz=some y.1
 one:∀n cl,cellsFrom (n+1) sc.names cl=ocl oz n cl
 psh:∀h,pushCells h sc.names=och oz h
 zc:∀z,oz=some z→sc.names.lookup z=some .cell
 names:∀y∈sc.names,y.2=.local→sc.names.lookup y.1=some .local
 frees:∀y∈sc.names,y.2=.free→X.env.scope.names.lookup y.1=some .cell∨X.env.scope.names.lookup y.1=some .free
 len:ix.length=M.length
 nd:M.Nodup
 caps:∀(j i:Nat) (x:Str),M[j]?=some x→ix[j]?=some (QB i)→X.N[i]?=some x∧sc.names.lookup x=some .free
theorem ziv:∀{l:List (Str×NameKind)} (_:∀y∈l,y.2≠.cell),(∀n cl,cellsFrom n l cl=cl)∧∀h,pushCells h l=h
 |[],_=>⟨QC,λ_=>rfl⟩
 |(a,k)::t,h=>by
  obtain⟨h1,h2⟩:=ziv λy hy=>h y (Qe _ hy)
  have hk:(k==NameKind.cell)=false:=beq_eq_false_iff_ne.mpr (h (a,k) Qb)
  exact⟨λn cl=>by unfold cellsFrom;rw[hk];exact h1 n cl,λg=>by unfold pushCells;rw[hk];exact h2 g⟩
def Blk.g{X:Cx}{sc:Scope}{M:Nf}{ix:Nt}(B:Blk X sc M ix):BlkG X sc none M ix :=
 ⟨B.kind,λy hy h=>absurd h (B.nocell y hy),λn cl=>(ziv B.nocell).1 _ cl,(ziv B.nocell).2,λ_ h=>(by cases h),B.names,B.frees,B.len,B.nd,B.caps⟩
def zeu(X:Cx)(sc:Scope)(oz:Option Str)(M:Nf)(C:Nb)(a7:Ng)(ex:Nl)(s:Nh)(H:Hp):Cx :=
 {X with N:=M,s₀:=s,H₀:=H,env:=compEnvC sc (ocl oz C (clOf sc X.env)) C X.env,outer:=X.stack,ex:=ex,fn:=λx=>oz==some x,pn:=X.pn++a7,xe:=λ_ _=>False}
abbrev zbz(X:Cx)(sc:Scope)(M:Nf)(C:Nb)(a7:Ng)(ex:Nl)(s:Nh)(H:Hp):Cx:=zeu X sc none M C a7 ex s H
section
variable{M:Model}{A:No}{E:Nc}{s:Nh}
def newEnv_own{sc:Scope}{g:Nb}{cl:List (Str×Addr)}{q:Str}{env:Env}{oz:Option Str}{Q:Env→Shared→Prop}(one:∀n cl,cellsFrom (n+1) sc.names cl=ocl oz n cl)(psh:∀h,pushCells h sc.names=och oz h)(hQ:Q (newEnv sc s.heap.objs.size g (ocl oz s.heap.objs.size cl) q none .none (QB env) builtinsNs) {s with heap:=och oz (s.heap.push {cls:=.type "dict",data:=.dict #[]})}) :
  wpAny M A (newFunctionEnv sc g cl [] q none .none (QB env)) Q E s:=by
 simp only[newFunctionEnv,Option.isSome_some,if_true]
 refine wpAny_bind (wpAny_alloc ?_)
 refine wpAny_bind (wpAny_layCells _ (λname kind cells=>by cases hkc:kind==NameKind.cell<;>simp[hkc]) _ _ _ _ ?_)
 rw[psh,show({s with heap:=s.heap.push {cls:=.type "dict",data:=.dict #[]}}:Shared).heap.objs.size=s.heap.objs.size+1 from Wo ..,one]
 exact wpAny_pure hQ
end
section
variable{X:Cx}{sc:Scope}{oz:Option Str}{M:Nf}{ix:Nt}{a7:Ng}{σ:St}{H:Hp}{s:Nh}
def BlkG.clos(B:BlkG X sc oz M ix)(I:QT):∀y∈sc.names,y.2=.free→∃c,X.env.cells.lookup y.1=some c:=λy hy hf =>
 I.ok.has y.1 (by rcases B.frees y hy hf with z | z;exact .inl z;exact .inr z)
def Blk.clos(B:Blk X sc M ix)(I:QT):∀y∈sc.names,y.2=.free→∃c,X.env.cells.lookup y.1=some c:=B.g.clos I
def inv_blkG{ex:Nl}{s':Nh}{C:Nb}(B:BlkG X sc oz M ix)(I:QT)(hx:∀ b∈ex,FpOk X a7 H b)(ae:∀ b∈ex,b < s.heap.objs.size)(hC:C=s.heap.objs.size)(hn:s'.heap.Ns C λ_=>none)(hz:∀z,oz=some z→s'.heap.IsCell (C+1) none)(hk:∀b o,s.heap.get? b=some o→s'.heap.get? b=some o)(hg:s'.gens=s.gens)(ho:s'.os=s.os):Inv (zeu X sc oz M C a7 ex s H) [] (inner ix σ) H s':=by
 have cls:=B.clos I
 have cin:∀x c,(clOf sc X.env).lookup x=some c→X.env.cells.lookup x=some c:=λx c e=>clOf_in sc.names [] cls (λ_ _ z=>by cases z) e
 have cne:∀x c,(clOf sc X.env).lookup x=some c→c<s.heap.objs.size:=λx c e=>by
  obtain⟨v,q⟩:=I.cell x c (cin x c e)
  exact q.lt
 have zne:∀c:Addr,c<s.heap.objs.size→c≠C+1:=λc h e=>by
  rw[e,hC]at h;exact absurd (Kk h) (Ys _)
 have zin:∀x c,(ocl oz C (clOf sc X.env)).lookup x=some c→(oz=some x∧c=C+1)∨oz≠some x∧(clOf sc X.env).lookup x=some c:=λx c e=>by
  cases oz with
  |none=>exact .inr ⟨λz=>(by cases z),e⟩
  |some zn =>
   have e:((zn,C+1)::clOf sc X.env).lookup x=some c:=e
   rw[Uc]at e
   cases q:x==zn with
   |true=>rw[q]at e;exact .inl ⟨by rw[eq_of_beq q],(Qn e).symm⟩
   |false=>rw[q]at e;exact .inr ⟨λz=>(by rw[Qn z,beq_self_eq_true]at q;cases q),e⟩
 have zout:∀x c,oz≠some x→(clOf sc X.env).lookup x=some c→(ocl oz C (clOf sc X.env)).lookup x=some c:=λx c hx e=>by
  cases oz with
  |none=>exact e
  |some zn =>
   show((zn,C+1)::clOf sc X.env).lookup x=_
   rw[Uc,beq_eq_false_iff_ne.mpr λz=>hx (by rw[z])];exact e
 refine⟨⟨I.ok.mod,?_,I.ok.glob,I.ok.blt,?_,λx y c h1 h2=>?_,λx hx=>?_,λx c h e=>?_,I.ok.hd,I.ok.frames,QX,λb hb=>?_,I.bs,?_,λb o e hb=>?_,λb hb=>?_,I.stack,I.stkFree⟩,
  ?_,?_,Un.kept hk,⟨_,hn,λj x v e1 e2 e3=>?_⟩,λx c e=>?_,?_,λx c e=>?_,λp hp=>?_,I.hok.kept hk,?_⟩
 ·show (relabel sc X.env).kind=.function
  exact B.kind
 ·show s.heap.objs.size≤C
  rw[hC];exact Qf _
 ·rcases zin x c h1 with ⟨a,b⟩ | ⟨_,a⟩ <;> rcases zin y c h2 with ⟨a',b'⟩ | ⟨_,a'⟩
  ·exact Qn (a.symm.trans a')
  ·exact absurd b (zne c (cne y c a'))
  ·exact absurd b' (zne c (cne x c a))
  ·exact I.ok.inj x y c (cin x c a) (cin y c a')
 ·by_cases q:oz=some x
  ·exact⟨C+1,by show(ocl oz C (clOf sc X.env)).lookup x=_;rw[q];show((x,C+1)::clOf sc X.env).lookup x=_;rw[Uc,beq_self_eq_true]⟩
  ·obtain ⟨c,hc⟩:=zit (env:=X.env) sc.names [] (.inl ((zh6 B.own hx).resolve_right q))
   exact⟨c,zout x c q hc⟩
 ·have h':oz=some x:=by
   have:(oz==some x)=true:=h
   exact eq_of_beq this
  rcases zin x c e with⟨_,b⟩ | ⟨b,_⟩
  ·show s.heap.objs.size≤c
   rw[b,hC];exact Uj _
  ·exact absurd h' b
 ·have:=ae b hb
  refine⟨λz=>?_,λx c e=>(zin x c e).elim (λq h=>zne b this (h.symm.trans q.2)) λe=>(hx b hb).2.2.2.2.1 x c (cin x c e.2)⟩
  have z':b=C:=z
  rw[z',hC]at this
  exact Ys _ this
 ·exact Zi I.ok.bsz I.sz
 ·rcases (hx b hb).2.2.2.1 with z | z
  ·exact I.ok.noex b o e z
  ·have h1:b < X.base.objs.size:=Qu e
   have h2:=I.ok.bsz
   have h3:X.s₀.heap.objs.size≤b:=z
   exact absurd (Zu h1 (Zi h2 h3)) (Ys _)
 ·intro z
  rcases Qg.mp (I.stkSub b z) with q | q
  ·exact(hx b hb).2.1 q
  ·exact(hx b hb).2.2.1 q
 ·exact ho
 ·rw[hg];exact I.bare
 ·have hj:∃ i,ix[j]?=some (QB i)∧σ[i]?=some (QB v):=by
   unfold inner at e2
   rw[Qo]at e2
   cases q:ix[j]? with
   |none=>rw[q]at e2;cases e2
   | some o =>
    rw[q]at e2
    cases o with
    |none=>cases e2
    |some i =>
     have pO:(σ[i]?).join=some v:=Qn e2
     cases q2:σ[i]? with
     |none=>rw[q2]at pO;cases pO
     |some w=>rw[q2]at pO;exact⟨i,rfl,by rw[q2];exact congrArg some pO⟩
  obtain⟨i,hi,hσ⟩:=hj
  obtain⟨hN,be⟩:=B.caps j i x e1 hi
  have hm:=Wk be
  have cT:=B.frees (x,.free) hm rfl
  obtain⟨m,_,hl⟩:=I.loc
  obtain⟨u,ru,lk⟩:=hl i x v hN hσ (by rcases cT with z | z;exact .inr (.inl z);exact .inr (.inr z))
  refine⟨u,ru,.inr ?_⟩
  obtain⟨c,hc⟩:=zit (env:=X.env) sc.names [] (.inl hm)
  have cn:=cin x c hc
  have lk2:s.heap.IsCell c (QB u):=by
   rcases lk with⟨k,_⟩ | ⟨_,c',e',z⟩
   ·have k':X.env.scope.names.lookup x=some .local:=k
    rcases cT with q | q<;>(rw[show X.env.scope.names.lookup x=_ from q]at k';cases k')
   ·rw[cn]at e';cases e';exact z
  refine⟨?_,c,zout x c (λq=>by rw[B.zc x q]at be;cases be) hc,?_⟩
  ·have e3':Vis (relabel sc X.env) x:=e3
   rcases e3' with z | z | z
   ·exfalso
    have:=@lookup_relabel_local
    have cR:∀(l:List (Str×NameKind)),l.lookup x=some .free→(l.map λ(y:Str×NameKind)=>match y with | (n,k)=>if(k==NameKind.free&&X.env.scope.kind==.function&&X.env.kindOf n==some .cell) then(n,NameKind.cell) else(n,k)).lookup x≠some .local:=by
     intro l
     induction l with
     |nil=>intro h;cases h
     | cons y r ih =>
      obtain⟨n,k⟩:=y
      intro h
      rw[Uc]at h
      rw[Qm]
      dsimp only
      by_cases hb:(k==NameKind.free&&X.env.scope.kind==.function&&X.env.kindOf n==some .cell)=true
      ·rw [if_pos hb,Uc]
       cases hx:x==n with
       |true=>intro q;cases q
       |false=>rw[hx]at h;exact ih h
      ·rw [if_neg hb,Uc]
       cases hx:x==n with
       |true =>
        rw[hx]at h
        intro q
        have h':k=NameKind.free:=Qn h
        have q':k=NameKind.local:=Qn q
        rw[h']at q';cases q'
       |false=>rw[hx]at h;exact ih h
    exact cR sc.names be z
   ·exact .inl z
   ·exact .inr z
  ·obtain ⟨o,cK,gZ⟩:=lk2
   exact⟨o,hk c o cK,gZ⟩
 ·rcases zin x c e with ⟨a,b⟩ | ⟨_,b⟩
  ·rw[b];exact⟨none,hz x a⟩
  ·obtain ⟨v,o,cK,gZ⟩:=I.cell x c (cin x c b)
   exact⟨v,o,hk c o cK,gZ⟩
 ·show H C=none
  rw[hC]
  exact I.hok.fresh QK
 ·rcases zin x c e with ⟨_,b⟩ | ⟨_,b⟩
  ·rw[b];exact I.hok.fresh (by rw[hC];exact Uj _)
  ·exact I.freeC x c (cin x c b)
 ·have gp:p∈X.pn++a7:=by
   have:p∈(X.pn++a7)++[]:=hp
   rwa[Zw]at this
  obtain⟨e,n,ne,nf,d⟩:=I.pin p gp
  refine⟨hk _ _ e,n,?_,λz=>?_,d⟩
  ·intro z
   have z':p.1=C:=z
   have:=Qu e
   rw[z',hC]at this
   exact Ys _ this
  ·rcases Qg.mp (I.stkSub _ z) with q | q
   ·exact ne q
   ·exact nf q
 ·unfold inner
  rw[Qa]
  exact B.len
def inv_blk(B:Blk X sc M ix)(I:QT)(hx:∀b∈ex,FpOk X a7 H b)(ae:∀b∈ex,b<s.heap.objs.size)(hC:C=s.heap.objs.size)(hn:s'.heap.Ns C λ_=>none)(hk:∀b o,s.heap.get? b=some o→s'.heap.get? b=some o)(hg:s'.gens=s.gens)(ho:s'.os=s.os):Inv (ZJ H) [] (inner ix σ) H s':=inv_blkG B.g I hx ae hC hn (λ_ h=>by cases h) hk hg ho
def PTs(X:Cx)(ifs:Np)(t:TT):Prop :=
 ∀(a7:Ng) (s:Nh) (σ:St) (H:Hp) (Q:Bool→Hp→Prop),ZA H s→t σ H Q →
  wpAny ZY X.A (forIn ifs true λc r=>if r=true then do let ok ←isTrue c X.env (WB c);pure (ForInStep.yield ok) else pure (ForInStep.yield r)) (TP X a7 σ Q) X.xe s
def tAll:TT:=λ_ H Q=>Q true H
def zc0:PTs X [] tAll:=λ_ _ _ H _ I h=>wpAny_tests_nil ⟨H,I,h⟩
def zco(h:PT X c t):PTs X [c] t:=λa7 s σ H Q I q=>wpAny_tests_one (h a7 s σ H Q I q)
def compLoop_any{prog:Ni}{w:Nk}{A:No}{s:Nh}{elt target iter:Expr}{ifs:Np}{scope:Scope}{pos:Pos}{it ag:Value}{env:Env}{R:Nu}(I:Nat→Shared→Prop)(turn:∀ n s,I n s→wpAny (model prog w) A (pyNext it) (fun r s₁=>match r with
   |none=>R (.ok .next) s₁
   | some v=>ZF (letOwnedTupleGo target it v) (fun _ s₁'=>ZF (assign target env v) (fun _ s₂ =>
     wpAny Z8 A WC (λok s₃ =>
      if ok=true then ZF (eval elt env) (λx s₄ =>
       wpAny Z8 A (call (.builtin "list.append") [ag,x]) (λ_ s₅=>∃m,m<n∧I m s₅) Q6 s₄) Q6 s₃
      else ∃m,m<n∧I m s₃) Q6 s₂) Q6 s₁') Q6 s₁) Q6 s)(n:Nat)(h:I n s):codeAny Z8 A (.compLoop (.ListComp elt [⟨target,iter,ifs,0⟩] scope pos) 0 it ag env) R s:=by
 refine codeAny_loop rfl I (λn s hI=>?_) n h
 show wpAny _ A ((compTurn (.ListComp elt [⟨target,iter,ifs,0⟩] scope pos) 0 it ag env).onRaise (λx=>do noteFrame x env;theTreesLotGoes x)) _ _ s
 refine wpAny_noted ?_
 rw[compTurn_list]
 refine wpAny_bind WA
 cases r with
 |none=>exact wpAny_pure h₁
 | some v =>
  refine wpAny_bind (wpAny_mono h₁ (λ_ s₁' h₁'=>?_) λ_ _ h'=>h'.elim)
  refine wpAny_bind WK
  cases ok with
  |false=>exact wpAny_pure ⟨rfl,h₃⟩
  |true =>
   exact wpAny_bind (wpAny_bind (wpAny_mono h₃ (λx s₄ h₄=>wpAny_bind (wpAny_mono h₄ (λ_ s₅ h₅=>wpAny_pure (wpAny_pure ⟨rfl,h₅⟩)) λ_ _ h'=>h'.elim)) λ_ _ h'=>h'.elim))
def rLC(g:TG)(tc:TT)(te:TE)(Q:VK)(J:It)(τ:St)(H1:Hp):Prop:=∃W:Nat→Nat→List V→St→Hp→Prop,(∃m,W 0 m [] τ H1)∧∀i m ys τ H,W i m ys τ H →
 (J.stop i H∧∀D,H D=none→Q (ZZ D) (ZW H D ys)) ∨
 (J.go i H∧ys.length<sizeLine∧∀x H',J.yld i H x H'→g x τ H' λ τ2 H2=>tc τ2 H2 λb H3=>if b=true then te τ2 H3 λy H4=>∃m',m'<m∧W QY m' (ys++[y]) τ2 H4 else ∃m',m'<m∧W QY m' ys τ2 H3)
def tLC(ix:Nt)(wi:TI)(g:TG)(tc:TT)(te:TE):TE:=λ σ H Q=>wi σ H λJ H1=>rLC g tc te Q J (inner ix σ) H1
def lc_blockG{tg elt iter:Expr}{ifs:Np}{pos:Pos}{g:TG}{tc:TT}{te:TE}{fp:Nl}{it:Nb}{tn:Nat→Heap→Prop}{J:It}{Q:VK}{RR:Value→Addr→Result→Shared→Prop}{E:Nc}(B:BlkG X sc oz M ix)(hc:X.calm=true)(hg:∀C ex s H,PG (zeu X sc oz M C a7 ex s H) tg g)(ht:∀C ex s H,PTs (zeu X sc oz M C a7 ex s H) ifs tc)(he:∀C ex s H,PE (zeu X sc oz M C a7 ex s H) elt te)(I:QT)(T:Turn X.prog X.w X.K tg J fp it tn)(h0:tn 0 s.heap)(hf:∀b∈fp,FpOk X a7 H b)(q:rLC g tc te Q J (inner ix σ) H)(jI:W2) :
  wpAny ZY X.A (newList []) (λag s₃=>ZD WH (λcenv s₄ =>
   codeAny ZY X.A (.compStart Q3 0 (ZZ it) ag {cenv with scope:=relabel sc X.env}) (RR ag cenv.locals) s₄) E s₃) E s:=by
 refine wpAny_newObj_type (newEnv_own B.one B.psh ?_)
 dsimp only
 generalize hD:s.heap.objs.size=D
 generalize cX:s.heap.push {cls:=.type "list",dict:=none,data:=.seq ([]:List Value).toArray}=g2
 generalize mE:och oz (g2.push {cls:=.type "dict",data:=.dict #[]})=h₁
 have kp:∀(q:Nm) (b:Nb) (o:Obj),q.get? b=some o→(och oz q).get? b=some o:=λq b o e=>by
  cases oz with
  |none=>exact e
  |some _=>exact Qi _ e
 have hns₁:h₁.Ns g2.objs.size (λ_=>none):=mE▸(Heap.Ns.new g2 (.type "dict")).keeps λb o e=>kp _ b o e
 have hz₁:∀z,oz=some z→h₁.IsCell (g2.objs.size+1) none:=λz ez=>by
  have e:(g2.push {cls:=.type "dict",data:=.dict #[]}).objs.size=g2.objs.size+1:=Wo ..
  rw[←mE,←e,ez]
  exact⟨_,Za _ rfl,rfl⟩
 have hC:g2.objs.size=D+1:=by rw[←cX,Wo,hD]
 have k2:∀b o,s.heap.get? b=some o→g2.get? b=some o:=λb o e=>by rw[←cX];exact Qi _ e
 have I3:ZA H {s with heap:=g2}:=I.kept (t':=s.toks) k2
 have HD:H D=none:=I.hok.fresh (W0 hD)
 have fD:FpOk X a7 H D:=I.fpOk (W0 hD) HD
 have D2:g2.get? D=some {cls:=.type "list",dict:=none,data:=.seq ([]:List Value).toArray}:=by rw[←cX,←hD];exact Za _ rfl
 have k1:∀b o,g2.get? b=some o→h₁.get? b=some o:=λb o e=>mE▸kp _ b o (Qi _ e)
 have fpx:∀b∈D::fp,FpOk X a7 H b:=λb hb=>by
  rcases Qg.mp hb with e | e
  ·rw[e];exact fD
  ·exact hf b e
 have fplt:∀b∈D::fp,b<g2.objs.size:=λb hb=>by
  rcases Qg.mp hb with e | e
  ·rw[e,hC];exact Yz _
  ·obtain ⟨o,q,_⟩:=T.obj _ _ h0 b e
   exact Qu (k2 b o q)
 have fpD:D∉fp:=λhm=>by
  obtain⟨o,q,_⟩:=T.obj _ _ h0 D hm
  have:=Qu q
  rw[hD]at this
  exact Ys _ this
 generalize ak:zeu X sc oz M g2.objs.size a7 (D::fp) {s with heap:=g2} H=Y
 have IY:Inv Y [] (inner ix σ) H {s with heap:=h₁,toks:=s.toks+([]:List (Str×Value)).length}:=by
  rw[←ak]
  exact inv_blkG B I3 fpx fplt rfl hns₁ hz₁ k1 rfl rfl
 have Yg:=ak▸hg g2.objs.size (D::fp) {s with heap:=g2} H
 have Yt:=ak▸ht g2.objs.size (D::fp) {s with heap:=g2} H
 have Ye:=ak▸he g2.objs.size (D::fp) {s with heap:=g2} H
 have eP:Y.prog=X.prog:=by rw[←ak];rfl
 have eW:Y.w=X.w:=by rw[←ak];rfl
 have eK:Y.K=X.K:=by rw[←ak];rfl
 have eA:Y.A=X.A:=by rw[←ak];rfl
 have eC:Y.calm=true:=by rw[←ak];exact hc
 have eE:Y.env=compEnvC sc (ocl oz g2.objs.size (clOf sc X.env)) g2.objs.size X.env:=by rw[←ak];rfl
 have eX:Y.xe=λ_ _=>False:=by rw[←ak];rfl
 have eEx:Y.ex=D::fp:=by rw[←ak];rfl
 have eFs:Y.fs=frs X.stack:=by rw[←ak];rfl
 have ePn:Y.pn=X.pn++a7:=by rw[←ak];rfl
 have eL:Y.env.locals=g2.objs.size:=by rw[eE];rfl
 have o9:Y.H₀=H:=by rw[←ak];rfl
 have iG:Y.s₀={s with heap:=g2}:=by rw[←ak];rfl
 have fY:∀{H':Hp} {pl:Ng} {b:Nb},b∈D::fp→H' b=none→(∀p∈pl,p.1≠b)→FpOk Y pl H' b:=λ{H' pl b} hb hn hp=>by
  obtain⟨f0,f1,f2,f3,f4,f5⟩:=fpx b hb
  refine⟨hn,?_,?_,.inl (Z2 eEx hb),IY.ok.exf b (Z2 eEx hb) |>.2,λp gp=>?_⟩
  ·rw[eL];exact Zg (fplt b hb)
  ·rw [eFs]
   intro z
   rcases Qg.mp (I3.stkSub b z) with q | q
   ·exact f1 q
   ·exact f2 q
  ·rw [ePn] at gp
   rcases Qk.mp gp with z | z
   ·exact f5 p z
   ·exact hp p z
 obtain⟨W,⟨m0,w0⟩,turn⟩:=q
 have loop:∀ sN:Shared,sN={ s with heap:=h₁,toks:=s.toks+([]:List (Str×Value)).length } →
   codeAny ZY X.A (.compLoop Q3 0 (ZZ it) (ZZ D) (compEnvC sc (ocl oz g2.objs.size (clOf sc X.env)) g2.objs.size X.env)) (RR (ZZ D) g2.objs.size) sN:=by
  rintro sN rfl
  refine compLoop_any WX ?_ m0
   ⟨0,inner ix σ,H,[],[],0,IY,W1,λb hb=>(fpx b hb).1,k1 _ _ D2,.nil,Zc _,w0⟩
  rintro n s5 ⟨i,τ,H5,ys,a9,k,I5,t5,n5,d5,v5,z5,w5⟩
  have oD:∀{s':Nh} {its':Nj} {k':Nat},s'.heap.get? D=some {cls:=.type "list",data:=.seq its'.toArray k'}→∀b∈[D],∃o,s'.heap.get? b=some o∧∀v,o.data≠.cell v:=λ{s' its' k'} e b hb=>by
   rw[Qd.mp hb]
   exact⟨_,e,λv z=>by cases z⟩
  have dQ:Inv Y ([]++zbd [D] s5.heap) τ H5 s5:=I5.pinned (λb hb=>fY (by rw[Qd.mp hb];exact Qb) (n5 b (by rw[Qd.mp hb];exact Qb)) ZM) (oD d5)
  have pD:∀p∈zbd [D] s5.heap,p.1=D∧p.2={cls:=.type "list",data:=.seq a9.toArray k}:=λp hp=>by
   obtain⟨e1,e2⟩:=zc4 hp
   have dP:p.1=D:=Qd.mp e1
   rw[dP,d5]at e2
   exact⟨dP,(Qn e2).symm⟩
  have fN:∀{H':Hp},(∀b∈fp,H' b=none)→∀b∈fp,FpOk Y ([]++zbd [D] s5.heap) H' b:=λhn b hb=>fY (Qe _ hb) (hn b hb) λp hp z=>by
   rw[Ww]at hp
   rw[(pD p hp).1]at z
   exact fpD (z▸hb)
  rcases turn i n ys τ H5 w5 with⟨stop,qn⟩ | ⟨go,zl,step⟩
  ·have h6:=T.done Y eP eW eK eC i _ s5 τ H5 (fun _ _=>False) dQ (fN fun b hb=>n5 b (Qe _ hb)) t5 stop
   rw[eA]at h6
   refine thn h6 λr s6 ⟨hr,I6⟩=>?_
   subst hr
   have d6:s6.heap.get? D=some {cls:=.type "list",data:=.seq a9.toArray k}:=by
    have hp:=za7 (fp:=[D]) (Qd.mpr rfl) d5
    exact(I6.pin (D,_) (Qh _ hp)).1
   have H5D:H5 D=none:=n5 D Qb
   obtain⟨mL,nL,_⟩:=I6.loc
   rw[eL]at nL
   have CD:g2.objs.size≠D:=by rw[hC];exact Kv _
   refine jI D _ mL ys H5 s6 ?_ (qn D H5D) nL ?_ (by rw[hC,hD];exact Yz _)
   ·have u6:=I6.base
    rw[eFs,eEx,o9,iG]at u6
    refine I3.call' (ch:=D::fp) (I6.os.trans (by rw[iG])) ⟨u6.keep,u6.slot,λb o e n hx=>?_,u6.there,λb xs e=>?_,λb o u e=>?_,λb ps e=>?_⟩ ?_ I6.bare λb hb=>?_
    ·rw[zaf (λz=>hx (Z2 z Qb))];exact u6.free b o e n hx
    ·rw[zaf (zab e HD)];exact u6.tups b xs e
    ·rw[zaf (zab e HD)];exact u6.frzs b o u e
    ·rw[zaf (zab e HD)];exact u6.tbls b ps e
    ·have i6:=I6.hok
     rw[eP,eW]at i6
     intro b u e
     by_cases hb:b=D
     ·subst hb
      rw[zac]at e
      cases e
      exact⟨z5,a9,k,v5,d6⟩
     ·rw [zaf hb] at e
      exact(i6 b u e).stay (λc v _ q=>q) (λc q=>by rw[zaf (zab q H5D)];exact q) λc xs q=>by rw[zaf (zab q H5D)];exact q
    ·obtain ⟨f0,f1,f2,f3,f4,f5⟩:=fpx b hb
     exact⟨f3,f1,f4,f5⟩
   ·rw [zaf CD]
    have:=I6.free
    rw[eL]at this
    exact this
  ·have h6:=T.item Y eP eW eK eC i _ s5 τ H5 (fun _ _=>False) dQ (fN fun b hb=>n5 b (Qe _ hb)) t5 go
   rw[eA]at h6
   refine thn h6 λr s6 ⟨u,hr,h7⟩=>?_
   subst hr
   refine thn h7 λ_ s7 ⟨x,H7,I7,r7,y7,t7,n7⟩=>?_
   have jN:=I7.pinned (fN n7) (T.obj _ _ t7)
   have h8:=Yg _ s7 τ H7 x u _ jN r7 (step x H7 y7)
   rw[eP,eW,eA,eX,eE]at h8
   refine thn h8 λ_ s8 ⟨τ8,H8,I8,q8⟩=>?_
   have h9:=Yt _ s8 τ8 H8 _ I8 q8
   rw[eP,eW,eA,eX,eE]at h9
   refine thn h9 λok s9 ⟨H9,I9,q9⟩=>?_
   have again:∀{τ':St} {H':Hp} {s':Nh},Inv Y (([]++zbd [D] s5.heap)++zbd fp s7.heap) τ' H' s'→s'.heap.get? D=some {cls:=.type "list",data:=.seq a9.toArray k}∧H' D=none∧tn QY s'.heap∧∀b∈fp,H' b=none:=λ{τ' H' s'} I'=>by
    have pp:∀{b:Nb} {o:Obj},b∈fp→s7.heap.get? b=some o→s'.heap.get? b=some o∧H' b=none:=λ{b o} hb e =>
     let z:=I'.pin (b,o) (Qh _ (Qh _ (za7 hb e)))
     ⟨z.1,z.2.1⟩
    have hp:=za7 (fp:=[D]) (Qd.mpr rfl) d5
    have z:=I'.pin (D,_) (Qh _ (Qp _ hp))
    refine⟨z.1,z.2.1,T.keep _ _ _ t7 λb hb o e=>(pp hb e).1,λb hb=>?_⟩
    obtain⟨o,e,_⟩:=T.obj _ _ t7 b hb
    exact(pp hb e).2
   have drop:∀{pl:Ng} {τ':St} {H':Hp} {s':Nh},Inv Y pl τ' H' s'→Inv Y [] τ' H' s':=λI'=>I'.pins_of ZM
   cases ok with
   |false =>
    rw[if_neg ZU]at q9 ⊢
    obtain⟨m',hm,w9⟩:=q9
    obtain⟨d9,H9D,t9,n9⟩:=again I9
    exact⟨m',hm,i+1,τ8,H9,ys,a9,k,drop I9,t9,λb hb=>(Qg.mp hb).elim (λe=>e▸H9D) (n9 b),d9,v5,z5,w9⟩
   | true =>
    rw[if_pos rfl]at q9 ⊢
    have gC:=Ye _ s9 τ8 H9 _ I9 q9
    rw[eP,eW,eA,eX,eE]at gC
    refine thn gC λy cF ⟨yv,eF,ga,jQ,m',hm,pX⟩=>?_
    obtain⟨jL,H10D,l0,ql⟩:=again ga
    refine call_meets F.slot_list_append ⟨_,jL,rfl⟩ F.entry_list_append (F.args_list_append_2 _ _) (PySem.list_append D a9.toArray k y (by rw[Qx,←v5.length];assumption)) ⟨jL,?_⟩
    have q:=PySem.IsL.update jL (λa=>a.push y)
    have u5:(a9.toArray.push y)=(a9++[y]).toArray:=by simp
    rw[u5]at q
    have kk:∀b o,b≠D→cF.heap.get? b=some o→(cF.heap.update D (Obj.mapSeq λa=>a.push y)).get? b=some o:=λb o hb e=>(Yc cF.heap (Obj.mapSeq λa=>a.push y) (Zn hb)).trans e
    obtain⟨g0,g1,g2',g3,g4,g5⟩:=fY (pl:=[]) (H':=eF) (b:=D) Qb H10D ZM
    have kZ:=(drop ga).turned (h':=cF.heap.update D (Obj.mapSeq λa=>a.push y)) (t':=cF.toks) (it:=D) kk H10D g1 g3 g4 g5
    exact⟨m',hm,i+1,τ8,eF,ys++[yv],a9++[y],_,kZ,T.keep _ _ _ l0 λb hb o e=>kk b o (λz=>fpD (z▸hb)) e,λb hb=>(Qg.mp hb).elim (λe=>e▸H10D) (ql b),q,v5.append (.cons jQ .nil),
     by rw[Qy,Ur];assumption,pX⟩
 exact codeAny_compStart_list (loop _ rfl) (T.self _ 0 _ _ _ W1 (loop _ rfl))
def lc_block{tg elt iter:Expr}{ifs:Np}{pos:Pos}{g:TG}{tc:TT}{te:TE}{fp:Nl}{it:Nb}{tn:Nat→Heap→Prop}{J:It}{Q:VK}{RR:Value→Addr→Result→Shared→Prop}{E:Nc}(B:Blk X sc M ix)(hc:X.calm=true)(hg:∀C ex s H,PG (ZJ H) tg g)(ht:∀C ex s H,PTs (ZJ H) ifs tc)(he:∀C ex s H,PE (ZJ H) elt te)(I:QT)(T:Turn X.prog X.w X.K tg J fp it tn)(h0:tn 0 s.heap)(hf:∀b∈fp,FpOk X a7 H b)(q:rLC g tc te Q J (inner ix σ) H)(jI:W2) :
  wpAny ZY X.A (newList []) (λag s₃=>ZD WH (λcenv s₄ =>
   codeAny ZY X.A (.compStart Q3 0 (ZZ it) ag {cenv with scope:=relabel sc X.env}) (RR ag cenv.locals) s₄) E s₃) E s:=lc_blockG B.g hc hg ht he I T h0 hf q jI
def Inv.letgo{C:Nb}{m:Nd}{h':Nm}{s₀:Nm}(I:QT)(hn:s.heap.Ns C m)(hC:H C=none)(ae:X.env.locals<s₀.objs.size)(gv:∀x c,X.env.cells.lookup x=some c→c<s₀.objs.size)(hp:∀p∈X.pn++a7,p.1<s₀.objs.size)(aw:X.s₀.heap.objs.size≤s₀.objs.size)(hc:s₀.objs.size<C)(hs:Heap.SameBut C s.heap h'):ZA H {s with heap:=h'} :=
 I.turned (t':=s.toks) (it:=C) (λb o hb e=>(hs.2 b hb).trans e) hC (Yp (Wj ae hc)) (.inr (Zi aw (Wt hc))) (λx c e=>Zg (Wj (gv x c e) hc)) λp q=>Zg (Wj (hp p q) hc)
def Inv.cl_lt(I:QT):∀x c,X.env.cells.lookup x=some c→c<s.heap.objs.size:=λx c e=>by
 obtain⟨v,q⟩:=I.cell x c e
 exact q.lt
def Inv.pin_lt(I:QT):∀p∈X.pn++a7,p.1<s.heap.objs.size:=λp hp=>Qu (I.pin p hp).1
def pe_lcC(B:BlkG X sc oz M ix)(hc:X.calm=true)(hi:PI X tg iter wi)(hg:∀C a7 ex s H,PG (zeu X sc oz M C a7 ex s H) tg g)(ht:∀C a7 ex s H,PTs (zeu X sc oz M C a7 ex s H) ifs tc)(he:∀C a7 ex s H,PE (zeu X sc oz M C a7 ex s H) elt te)(hs:∀x,foldedSetIterable iter X.env x=pure x:=by intro _;rfl):PE X Q3 (tLC ix wi g tc te):=by
 intro a7 s σ H Q I h
 rw[eval_ListComp]
 refine wpAny_comprehension_free (use:=none) rfl hs (zbv (B.clos I)) B.kind B.names (thn (hi a7 s σ H _ I h) λv s1 h1=>thn h1 λitv s2 h2=>?_)
 obtain⟨it,fp,tn,J,H2,e,I2,T,aW,f2,q⟩:=h2
 subst e
 refine lc_blockG (RR:=λag C=>compPost ZY X.A X.xe none WY ag C) B hc (hg · a7) (ht · a7) (he · a7) I2 T aW f2 q ?_
 intro D C m ys H' s' I' q' hn hC ae
 refine⟨m,hn,λh' bf=>⟨ZZ D,_,I'.letgo hn hC I2.lt I2.cl_lt I2.pin_lt I2.sz ae bf,rfl,q'⟩⟩
def zgd(B:Blk X sc M ix)(hc:X.calm=true)(hi:PI X tg iter wi)(hg:∀C a7 ex s H,PG (ZJ H) tg g)(ht:∀C a7 ex s H,PTs (ZJ H) ifs tc)(he:∀C a7 ex s H,PE (ZJ H) elt te)(hs:∀x,foldedSetIterable iter X.env x=pure x:=by intro _;rfl):PE X Q3 (tLC ix wi g tc te):=pe_lcC B.g hc hi hg ht he hs
def ps_lc(hN:X.N.Nodup)(aK:X.N[i]?=some y)(hy:X.env.scope.names.lookup y=some .local)(B:Blk X sc M ix)(hc:X.calm=true)(hi:PI X tg iter wi)(hg:∀C a7 ex s H,PG (ZJ H) tg g)(ht:∀C a7 ex s H,PTs (ZJ H) ifs tc)(he:∀C a7 ex s H,PE (ZJ H) elt te)(j':swapsWith Q3 (QB (.Name y py)) spos.line X.env=pure true)(hs:∀x,foldedSetIterable iter X.env x=pure x:=by intro _;rfl):PS X (.Assign [.Name y py] Q3 spos) (tAsg (tLC ix wi g tc te) (ze9 i)):=by
 intro a7 s σ H D' I h
 rw[exec_Assign_Name_used _ _ _ _ j']
 refine wpAny_bind (wpAny_standAt (wpAny_bind ?_))
 show wpAny _ X.A (do let _ ←comprehension Q3 sc X.env _ (newList []) false (eval iter X.env) (QB (assign (.Name y py) X.env))) _ _ s
 refine wpAny_bind (wpAny_mono (wpAny_comprehension_free (use:=some (assign (.Name y py) X.env)) (Q:=λ_ s'=>SP X a7 D' .next s') rfl hs (zbv (B.clos I)) B.kind B.names
  (thn (hi a7 s σ H _ I h) λv s1 h1=>thn h1 λitv s2 h2=>?_)) (λ_ s' hq=>wpAny_pure (wpAny_pure hq)) λ_ _ e=>e)
 obtain⟨it,fp,tn,J,H2,e,I2,T,aW,f2,q⟩:=h2
 subst e
 refine lc_block (RR:=λag C=>compPost ZY X.A X.xe (QB (assign (.Name y py) X.env)) (λ_ s'=>SP X a7 D' .next s') ag C) B hc (hg · a7) (ht · a7) (he · a7) I2 T aW f2 q ?_
 intro D C m ys H' s' I' q' hn hC ae
 show wpAny _ X.A (assign (.Name y py) X.env (ZZ D)) _ _ s'
 refine wpAny_assign_Name (zf4 I' hN aK (.inl hy) (v:=.ref D) rfl (λlf uK ⟨a,sb,ha⟩=>?_) (.inr hy))
 have aC:C≠a:=by
  rcases ha with z | z
  ·rw[z];exact Yp (Wj I2.lt ae)
  ·exact Yp (Wj (I2.cl_lt _ _ z) ae)
 have bm:=hn.sameBut sb aC
 exact⟨m,bm,λh' bf=>⟨_,_,uK.letgo bm hC I2.lt I2.cl_lt I2.pin_lt I2.sz ae bf,q'⟩⟩
end
end L2
end
section
namespace Tm
open PySem PyProof.Rows
def gallopT:Bool→Keyed→Array Keyed→Nat→Nat→Nat→StateT SortSt Sem (Option Nat):=sortPriv% PySem.Builtin.gallop
def mergeLoT:Array Keyed→Array Keyed→StateT SortSt Sem (Array Keyed):=sortPriv% PySem.Builtin.mergeLo
def mergeHiT:Array Keyed→Array Keyed→StateT SortSt Sem (Array Keyed):=sortPriv% PySem.Builtin.mergeHi
section
variable{σ α β:Type}{M:Model}{A:No}{E:Nc}{s:Nh}{Q:α→σ→Prop}{st:σ}{c:Prop}[Decidable c]
def zda(h:∀Q0:α→σ→Prop,(∀r ad,Q r ad→Q0 r ad)→wpS M A E s m Q0 st):wpS M A E s m Q st:=h Q λ_ _ z=>z
def jp_if{f:Unit→β→StateT σ Sem α}(h:∀z,wpS M A E s (f () z) Q st):wpS M A E s (if c then f () x else f () y) Q st:=by
 split
 ·exact h _
 ·exact h _
def zam{x y:StateT σ Sem α}(h1:c→wpS M A E s x Q st)(h2:¬c→wpS M A E s y Q st):wpS M A E s (if c then x else y) Q st:=by
 split
 next z=>exact h1 z
 next z=>exact h2 z
end
section
variable{prog:Ni}{w:Nk}{A:No}{E:Nc}{s:Nh}{kd:SortKind}{a₀:Array Keyed}
def Cmp(prog:Ni)(w:Nk)(A:No)(E:Nc)(s:Nh)(kd:SortKind)(a₀:Array Keyed):Prop :=
 ∀(x y:Keyed) (st:SortSt) (Q:Option Bool→SortSt→Prop),x∈a₀.toList→y∈a₀.toList→kindOf st=kd→(∀b,Q (QB b) st)→ZK (lt' x y) Q st
def Of(a₀ xs:Array Keyed):Prop:=∀(i:Nat) (p:Keyed),xs[i]?=some p→p∈a₀.toList
def zay{arr:Array Keyed}{i:Nat}{p:Keyed}{Q:Keyed→SortSt→Prop}{st:SortSt}(h:arr[i]?=some p)(q:Q p st):ZK (elem' arr i) Q st:=by
 rw[elem'_eq,h];exact wpS_pure q
def beyondT(left:Bool)(ky:Keyed)(arr:Array Keyed)(i:Nat):StateT SortSt Sem (Option Bool):=do
 let x ←elem' arr i
 if left=true then lt' x ky else do
  let r ←lt' ky x
  pure (r.map λz=>!z)
def wpS_beyond{left:Bool}{ky:Keyed}{arr:Array Keyed}{i:Nat}{Q:Option Bool→SortSt→Prop}{st:SortSt}(C:Cmp prog w A E s kd a₀)(hk:kindOf st=kd)(hO:Of a₀ arr)(hy:ky∈a₀.toList)(hi:i<arr.size)(q:∀b,Q (QB b) st):ZK (beyondT left ky arr i) Q st:=by
 have e:=getElem?_pos arr i hi
 unfold beyondT
 refine wpS_bind (zay e ?_)
 have m:=hO _ _ e
 cases left with
 |true=>exact C _ _ _ _ m hy hk q
 |false=>exact wpS_bind (C _ _ _ _ hy m hk λb=>wpS_pure (q _))
def zcn{left:Bool}{ky:Keyed}{arr:Array Keyed}{base n hint:Nat}{Q:Option Nat→SortSt→Prop}{st:SortSt}(C:Cmp prog w A E s kd a₀)(hk:kindOf st=kd)(hO:Of a₀ arr)(hy:ky∈a₀.toList)(hb:base+n≤arr.size)(hh:hint<n)(h:∀k,k≤n→Q (QB k) st):ZK (gallopT left ky arr base n hint) Q st:=by
 have ask:∀{i:Nat} {Q':Option Bool→SortSt→Prop},i<n→(∀b,Q' (QB b) st)→ZK (beyondT left ky arr (base+i)) Q' st:=λ{i Q'} hi q=>wpS_beyond C hk hO hy ZO q
 have last:∀(f:Nat→(Option (Option Nat)×Nat×Nat)→StateT SortSt Sem (ForInStep (Option (Option Nat)×Nat×Nat))) (lo hi:Nat),lo≤hi→hi≤n →
   (∀x l r Q',l≥r→Q' (ForInStep.done (none,l,r)) st→ZK (f x (none,l,r)) Q' st) →
   (∀x l r Q',¬l≥r→r≤n→Q' (ForInStep.yield (none,l+(r-l)/2+1,r)) st→Q' (ForInStep.yield (none,l,l+(r-l)/2)) st→ZK (f x (none,l,r)) Q' st) →
   wpS Z8 A E s (forIn [:n] (none,lo,hi) f) (λc ad=>ad=st∧∃k,c=(none,k,k)∧k≤n) st:=by
  intro f lo hi h1 h2 f1 f2
  refine wpS_forRange (I:=λx c ad=>Aj2 (ad=st) (Ex2 λl r=>Aj4 (c=(none,l,r)) (l≤r) (r≤n) (r-l≤n-x))) ?step ?fin ?init
  case init=>exact⟨rfl,lo,hi,rfl,h1,h2,ZO⟩
  case fin =>
   rintro c ad ⟨rfl,l,r,rfl,a1,a2,a3⟩
   have:l=r:=by omega
   subst this
   exact⟨rfl,l,rfl,a2⟩
  case step =>
   rintro x c ad _ hx ⟨rfl,l,r,rfl,a1,a2,a3⟩
   by_cases dG:l≥r
   ·refine f1 x l r _ dG ?_
    have:l=r:=Nat.le_antisymm a1 dG
    subst this
    exact⟨rfl,l,rfl,a2⟩
   ·exact f2 x l r _ dG a2 ⟨rfl,_,_,rfl,ZO,a2,ZO⟩ ⟨rfl,_,_,rfl,Wq _ _,ZO,ZO⟩
 unfold gallopT
 refine wpS_bind (ask (i:=hint) hh λb0=>?_)
 cases b0 with
 | true =>
  refine wpS_bind (wpS_mono (wpS_forRange
   (I:=λx c ad=>Aj2 (ad=st) (Ex2 λla of=>Aj4 (c=(none,la,of)) (hint+la<n) (la<of) (x<of)))
   (Q:=λc ad=>Aj2 (ad=st) (Ex2 λla of=>Aj3 (c=(none,la,of)) (hint+la<n) (la<of))) ?step ?fin ?init) ?post)
  case init=>exact⟨rfl,0,1,rfl,hh,QK,QK⟩
  case fin =>
   rintro c ad ⟨rfl,la,of,rfl,a2,a3,a4⟩
   exact⟨rfl,la,of,rfl,a2,a3⟩
  case step =>
   rintro x c ad _ hx ⟨rfl,la,of,rfl,a2,a3,a4⟩
   dsimp only
   refine zam (λ_=>wpS_pure ⟨rfl,la,of,rfl,a2,a3⟩) λdG=>wpS_bind (ask (i:=hint+of) ZO λb=>?_)
   cases b with
   |true=>exact wpS_pure ⟨rfl,of,2*of+1,rfl,ZO,ZO,ZO⟩
   |false=>exact wpS_pure ⟨rfl,la,of,rfl,a2,a3⟩
  case post =>
   rintro c ad ⟨rfl,la,of,rfl,a2,a3⟩
   refine wpS_bind (wpS_mono (last _ (hint+la+1) (hint+min of (n-hint)) ZO ZO ?_ ?_) ?_)
   ·intro x l r Q' dG q
    exact zam (λ_=>wpS_pure q) λz=>absurd dG z
   ·intro x l r Q' dG hr q1 q2
    refine zam (λz=>absurd z dG) λ_=>wpS_bind (ask (i:=l+(r-l)/2) ZO λb=>?_)
    cases b with
    |true=>exact wpS_pure q1
    |false=>exact wpS_pure q2
   ·rintro c ad ⟨rfl,k,rfl,b1⟩
    exact wpS_pure (h k b1)
 | false =>
  refine wpS_bind (wpS_mono (wpS_forRange
   (I:=λx c ad=>Aj2 (ad=st) (Ex2 λla of=>Aj4 (c=(none,la,of)) (la≤hint) (la<of) (x<of)))
   (Q:=λc ad=>Aj2 (ad=st) (Ex2 λla of=>Aj3 (c=(none,la,of)) (la≤hint) (la<of))) ?step ?fin ?init) ?post)
  case init=>exact⟨rfl,0,1,rfl,Zc _,QK,QK⟩
  case fin =>
   rintro c ad ⟨rfl,la,of,rfl,a2,a3,a4⟩
   exact⟨rfl,la,of,rfl,a2,a3⟩
  case step =>
   rintro x c ad _ hx ⟨rfl,la,of,rfl,a2,a3,a4⟩
   dsimp only
   refine zam (λ_=>wpS_pure ⟨rfl,la,of,rfl,a2,a3⟩) λdG=>wpS_bind (ask (i:=hint-of) ZO λb=>?_)
   cases b with
   |true=>exact wpS_pure ⟨rfl,la,of,rfl,a2,a3⟩
   |false=>exact wpS_pure ⟨rfl,of,2*of+1,rfl,ZO,ZO,ZO⟩
  case post =>
   rintro c ad ⟨rfl,la,of,rfl,a2,a3⟩
   refine wpS_bind (wpS_mono (last _ (hint+1-min of (hint+1)) (hint-la) ZO ZO ?_ ?_) ?_)
   ·intro x l r Q' dG q
    exact zam (λ_=>wpS_pure q) λz=>absurd dG z
   ·intro x l r Q' dG hr q1 q2
    refine zam (λz=>absurd z dG) λ_=>wpS_bind (ask (i:=l+(r-l)/2) ZO λb=>?_)
    cases b with
    |true=>exact wpS_pure q1
    |false=>exact wpS_pure q2
   ·rintro c ad ⟨rfl,k,rfl,b1⟩
    exact wpS_pure (h k b1)
end
section
variable{prog:Ni}{w:Nk}{A:No}{E:Nc}{s:Nh}{kd:SortKind}{a₀:Array Keyed}
variable{all out ra rb seg:List Keyed}
def Pm(all out ra rb:List Keyed):Prop:=(out++(ra++rb)).Perm all
def Pm.appA(j:Pm all out (seg++ra) rb):Pm all (out++seg) ra rb:=by
 unfold Pm at *
 rw[Qw,←Qw seg];exact j
def Pm.appB(j:Pm all out ra (seg++rb)):Pm all (out++seg) ra rb:=by
 unfold Pm at *
 rw[Qw]
 refine List.Perm.trans (Zz _ ?_) j
 rw[←Qw,←Qw]
 exact Wf.append_right _
def drop_cons{a:Array Keyed}{i:Nat}(h:i<a.size):a.toList.drop i=a[i]::a.toList.drop QY:=by
 rw[Yo (ZR h)];simp
def zdb{a:Array Keyed}{i:Nat}:(a.extract i a.size).toList=a.toList.drop i:=by
 simp[Qt]
def zgn{a:Array Keyed}{i k:Nat}(h:i+k≤a.size):(a.extract i (i+k)).toList++a.toList.drop (i+k)=a.toList.drop i:=by
 rw[Array.toList_extract,Kh]
 have:i+k-i=k:=by omega
 rw[this,←List.drop_drop,We]
abbrev Pa(a b o:Array Keyed)(i k:Nat):Prop:=Pm WN o.toList (a.toList.drop i) (b.toList.drop k)
variable{a b o:Array Keyed}{i k n:Nat}
def Pa.pushA(j:Pa a b o i k)(h:i<a.size):Pa a b (o.push a[i]) QY k:=by
 have:=Pm.appA (seg:=[a[i]]) (ra:=a.toList.drop QY) (by rw[Xm,←drop_cons h];exact j)
 rwa[←Jq]at this
def Pa.pushB(j:Pa a b o i k)(h:k<b.size):Pa a b (o.push b[k]) i (k+1):=by
 have:=Pm.appB (seg:=[b[k]]) (rb:=b.toList.drop (k+1)) (by rw[Xm,←drop_cons h];exact j)
 rwa[←Jq]at this
def Pa.runA(j:Pa a b o i k)(h:i+n≤a.size):Pa a b (o++a.extract i (i+n)) (i+n) k:=by
 have:=Pm.appA (seg:=(a.extract i (i+n)).toList) (ra:=a.toList.drop (i+n)) (by rw[zgn h];exact j)
 show Pm _ (o++a.extract i (i+n)).toList _ _
 rw[Yn];exact this
def Pa.runB(j:Pa a b o i k)(h:k+n≤b.size):Pa a b (o++b.extract k (k+n)) i (k+n):=by
 have:=Pm.appB (seg:=(b.extract k (k+n)).toList) (rb:=b.toList.drop (k+n)) (by rw[zgn h];exact j)
 show Pm _ (o++b.extract k (k+n)).toList _ _
 rw[Yn];exact this
def Pa.end1(j:Pa a b o i k):(o++a.extract i++b.extract k).toList.Perm WN:=by
 rw[Yn,Yn,zdb,zdb,Qw];exact j
def Pa.end2(j:Pa a b o i k):(o++b.extract k++a.extract i).toList.Perm WN:=by
 rw[Yn,Yn,zdb,zdb,Qw]
 exact(Zz _ Wf).trans j
def SG(st ad:SortSt):Prop:=∃g,ad=SortSt.mk' (kindOf st) (arrOf st) (WF st) g (failedOf st)
def wpS_mergeLo{Q:Array Keyed→SortSt→Prop}{st:SortSt}(C:Cmp prog w A E s kd a₀)(hk:kindOf st=kd)(oa:Of a₀ a)(ob:Of a₀ b)(ha:0 < a.size)(hb:0 < b.size)(h:∀(res:Array Keyed) (ad:SortSt),res.toList.Perm WN→SG st ad→Q res ad):ZK (mergeLoT a b) Q st:=by
 have ia_:∀i (hi:i<a.size),a[i]∈a₀.toList:=λi hi=>oa i _ (getElem?_pos a i hi)
 have ib_:∀i (hi:i<b.size),b[i]∈a₀.toList:=λi hi=>ob i _ (getElem?_pos b i hi)
 have ea:∀i (hi:i<a.size),a[i]?=some a[i]:=λi hi=>getElem?_pos a i hi
 have eb:∀i (hi:i<b.size),b[i]?=some b[i]:=λi hi=>getElem?_pos b i hi
 have sgk:∀{ad},SG st ad→kindOf ad=kd:=λ⟨g,e⟩=>by rw[e];exact hk
 unfold mergeLoT
 refine wpS_bind (wpS_lift (wpAny_rule ⟨rfl,?_⟩))
 refine wpS_bind (zay (eb 0 hb) ?_)
 have j0:Pa a b (#[b[0]]:Array Keyed) 0 1:=by
  have j:Pa a b (#[]:Array Keyed) 0 0:=by show List.Perm _ _;simp
  exact j.pushB hb
 refine zam (λc1=>wpS_pure (h _ _ j0.end1 ⟨_,rfl⟩)) λc1=>zam (λc2=>wpS_pure (h _ _ j0.end2 ⟨_,rfl⟩)) λc2=>?_
 have ua:¬b.size=1:=λz=>c1 (by simp[z])
 have c2':¬a.size=1:=λz=>c2 (by simp[z])
 refine wpS_bind (wpS_get ?_)
 refine wpS_bind (wpS_mono (wpS_forRange
  (I:=λx c ad=>Aj2 (SG st ad) (Ex4 λo i k g=>Aj5 (c=(none,o,i,k,g)) (i+1<a.size) (k<b.size) (Pa a b o i k) (x≤i+k)))
  (Q:=λc ad=>Aj2 (SG st ad) W3) ?step ?fin ?init) ?post)
 case init=>exact⟨⟨W7⟩,_,0,1,W7,ZO,ZO,j0,ZO⟩
 case fin =>
  rintro c ad ⟨_,o,i,k,g,rfl,a1,a2,a3,a4⟩
  exfalso;omega
 case post =>
  rintro c ad ⟨g,res,r,rfl,m⟩
  exact wpS_pure (h res ad m g)
 case step =>
  rintro x c aX _ hx ⟨g1,o1,i1,k1,mg,rfl,a1,a2,a3,a4⟩
  dsimp -zeta only
  refine wpS_bind (wpS_mono (wpS_forRange
   (I:=λy c ad=>Aj2 (ad=aX) (Ex5 λo i k ac bc=>Aj5 (c=(none,o,i,k,ac,bc)) (i+1<a.size) (k<b.size) (Pa a b o i k) (i1+k1+y≤i+k)))
   (Q:=λc ad=>Aj2 (ad=aX) (W3∨Ex5 λo i k ac bc=>Aj5 (c=(none,o,i,k,ac,bc)) (i+1<a.size) (k<b.size) (Pa a b o i k) (i1+k1<i+k))) ?step1 ?fin1 ?init1) ?post1)
  case init1=>exact⟨rfl,o1,i1,k1,0,0,rfl,a1,a2,a3,QK⟩
  case fin1 =>
   rintro c ad ⟨_,o,i,k,ac,bc,rfl,b1,b2,b3,b4⟩
   exfalso;omega
  case step1 =>
   rintro y c aW _ hy ⟨rfl,o,i,k,ac,bc,rfl,b1,b2,b3,b4⟩
   have pS:i<a.size:=by omega
   dsimp -zeta only
   refine wpS_bind (zay (eb k b2) (wpS_bind (zay (ea i pS) (wpS_bind (C _ _ _ _ (ib_ k b2) (ia_ i pS) (sgk g1) λe=>?_)))))
   dsimp -zeta only
   refine zam (λ_=>?_) (λ_=>?_)
   ·refine wpS_bind (zay (eb k b2) ?_)
    have j:=b3.pushB b2
    refine zam (λ_=>wpS_pure ⟨rfl,.inl ⟨_,_,rfl,j.end1⟩⟩) λd1=>?_
    have oe:¬k+1=b.size:=λz=>d1 WG
    exact zam (λ_=>wpS_pure ⟨rfl,.inr ⟨_,i,k+1,_,_,rfl,b1,ZO,j,ZO⟩⟩) λ_=>wpS_pure ⟨rfl,_,i,k+1,_,_,rfl,b1,ZO,j,ZO⟩
   ·refine wpS_bind (zay (ea i pS) ?_)
    have j:=b3.pushA pS
    refine zam (λ_=>wpS_pure ⟨rfl,.inl ⟨_,_,rfl,j.end2⟩⟩) λd1=>?_
    have oe:¬i+1+1=a.size:=λz=>d1 WG
    exact zam (λ_=>wpS_pure ⟨rfl,.inr ⟨_,i+1,k,_,_,rfl,ZO,b2,j,ZO⟩⟩) λ_=>wpS_pure ⟨rfl,_,i+1,k,_,_,rfl,ZO,b2,j,ZO⟩
  case post1 =>
   rintro c aW ⟨rfl,⟨res,r,rfl,m⟩ | ⟨o2,i2,k2,ac2,bc2,rfl,b1,b2,b3,b4⟩⟩
   ·exact wpS_pure ⟨g1,res,_,rfl,m⟩
   dsimp -zeta only
   refine wpS_bind (wpS_lift (wpAny_rule ⟨rfl,?_⟩))
   refine wpS_bind (wpS_mono (wpS_forRange
    (I:=λy c ad=>Aj2 (SG st ad) (Ex6 λo i k g ac bc=>Aj5 (c=(none,o,i,k,g,ac,bc)) (i+1<a.size) (k<b.size) (Pa a b o i k) (i2+k2≤i+k)))
    (Q:=λc ad=>Aj2 (SG st ad) (W3∨Ex6 λo i k g ac bc=>Aj5 (c=(none,o,i,k,g,ac,bc)) (i+1<a.size) (k<b.size) (Pa a b o i k) (i2+k2≤i+k))) ?step2 ?fin2 ?init2) ?post2)
   case init2=>exact⟨g1,o2,i2,k2,_,_,W7,b1,b2,b3,QK⟩
   case fin2 =>
    rintro c ad ⟨g,o,i,k,g',ac,bc,rfl,c1,c2,c3,c4⟩
    exact⟨g,.inr ⟨o,i,k,g',ac,bc,rfl,c1,c2,c3,c4⟩⟩
   case post2 =>
    rintro c au ⟨g3,⟨res,r,rfl,m⟩ | ⟨o3,i3,k3,g',uI,ub,rfl,c1,c2,c3,c4⟩⟩
    ·exact wpS_pure ⟨g3,res,_,rfl,m⟩
    dsimp -zeta only
    refine wpS_bind (wpS_modify ?_)
    obtain⟨gg,e3⟩:=g3
    exact wpS_pure ⟨⟨_,by rw[e3]⟩,o3,i3,k3,_,rfl,c1,c2,c3,ZO⟩
   case step2 =>
    rintro y c au _ hy ⟨g3,o3,i3,k3,mg3,uI,ub,rfl,c1,c2,c3,c4⟩
    refine zda λQ0 bv=>?_
    dsimp -zeta only
    have sgm:∀g',SG st (Q5 g'):=λg'=>by
     obtain⟨g,e⟩:=g3
     exact⟨g',by rw[e]⟩
    extract_lets -underBinder +onlyGivenNames s1 out s2 ia s3 ib s4 mn s5 ac bc jp
    refine jp_if (f:=jp) λm'=>?_
    refine wpS_bind (wpS_modify ?_)
    refine wpS_bind (zay (eb k3 c2) ?_)
    refine wpS_bind (zcn (base:=i3) (n:=a.size-i3) (hint:=0) C (sgk (sgm _)) oa (ib_ k3 c2) ZO ZO λk q1=>?_)
    dsimp -zeta only
    have jr:=c3.runA (n:=k) ZO
    extract_lets -underBinder +onlyGivenNames ac' jp2
    have h2:∀(n':Nat) (o':Array Keyed) (f1:n'+1<a.size),i3≤n'→Pa a b o' n' k3→ZK (jp2 () o' n') Q0 (Q5 m'):=by
     intro n' o' f1 f2 fJ
     have f0:n'<a.size:=by omega
     refine wpS_bind (zay (eb k3 c2) ?_)
     have fK:=fJ.pushB c2
     refine zam (λ_=>wpS_pure (bv _ _ ⟨sgm _,.inl ⟨_,_,rfl,fK.end1⟩⟩)) λd=>?_
     have d':¬k3+1=b.size:=λz=>d WG
     refine wpS_bind (zay (ea n' f0) ?_)
     refine wpS_bind (zcn (base:=k3+1) (n:=b.size-(k3+1)) (hint:=0) C (sgk (sgm _)) ob (ia_ n' f0) ZO ZO λk' r1=>?_)
     dsimp -zeta only
     have js:=fK.runB (n:=k') ZO
     extract_lets -underBinder +onlyGivenNames bc' jp3
     have h3:∀(m2:Nat) (o2:Array Keyed) (p1:m2<b.size),k3+1≤m2→Pa a b o2 n' m2→ZK (jp3 () o2 m2) Q0 (Q5 m'):=by
      intro m2 o2 p1 p2 pJ
      refine wpS_bind (zay (ea n' f0) ?_)
      have pK:=pJ.pushA f0
      refine zam (λ_=>wpS_pure (bv _ _ ⟨sgm _,.inl ⟨_,_,rfl,pK.end2⟩⟩)) λd=>?_
      have d2:¬n'+1+1=a.size:=λz=>d WG
      exact zam (λ_=>wpS_pure (bv _ _ ⟨sgm _,.inr ⟨_,n'+1,m2,_,_,_,rfl,ZO,p1,pK,ZO⟩⟩)) λ_=>wpS_pure (bv _ _ ⟨sgm _,_,n'+1,m2,_,_,_,rfl,ZO,p1,pK,ZO⟩)
     refine zam (λkz=>?_) (λkz=>?_)
     ·refine zam (fun _=>wpS_pure (bv _ _ ⟨sgm _,.inl ⟨_,_,rfl,js.end1⟩⟩)) fun d4=>?_
      have d4':¬k3+1+k'=b.size:=λz=>d4 WG
      exact h3 (k3+1+k') _ ZO (Wq _ _) js
     ·exact h3 (k3+1) _ ZO QK fK
    refine zam (λkz=>?_) (λkz=>?_)
    ·refine zam (fun _=>wpS_pure (bv _ _ ⟨sgm _,.inl ⟨_,_,rfl,jr.end2⟩⟩)) fun d=>zam (fun _=>wpS_pure (bv _ _ ⟨sgm _,.inl ⟨_,_,rfl,jr.end1⟩⟩)) fun e=>?_
     have d':¬i3+k+1=a.size:=λz=>d WG
     have e':¬i3+k=a.size:=λz=>e WG
     exact h2 (i3+k) _ ZO (Wq _ _) jr
    ·exact h2 i3 _ c1 QK c3
end
section
variable{prog:Ni}{w:Nk}{A:No}{E:Nc}{s:Nh}{kd:SortKind}{a₀:Array Keyed}
variable{a b o:Array Keyed}{na nb at_:Nat}
def zfz:(a.extract 0 n).toList=a.toList.take n:=by simp
def zfu{a:Array Keyed}{i n:Nat}(hi:i≤n)(h:n≤a.size):a.toList.take i++(a.extract i n).toList=a.toList.take n:=by
 rw[Array.toList_extract,Kh]
 have e:a.toList.take i=(a.toList.take n).take i:=by rw[List.take_take];congr 1;omega
 have e2:(a.toList.drop i).take (n-i)=(a.toList.take n).drop i:=by rw[List.drop_take]
 rw[e,e2,We]
def Ph(a b o:Array Keyed)(na nb:Nat):Prop:=(a.toList.take na++(b.toList.take nb++o.toList)).Perm WN
def mvA{t sg l9 u r all:List Keyed}(h:((t++sg)++(u++r)).Perm all)(hs:l9.Perm sg):(t++(u++(r++l9))).Perm all:=by
 refine List.Perm.trans ?_ h
 rw[Qw,←Qw u]
 exact Zz _ ((Zz _ hs).trans Wf)
def mvB{t sg l9 u r all:List Keyed}(h:(t++((u++sg)++r)).Perm all)(hs:l9.Perm sg):(t++(u++(r++l9))).Perm all:=by
 refine List.Perm.trans ?_ h
 rw[Qw]
 exact Zz _ (Zz _ ((Zz _ hs).trans Wf))
def Ph.runA(j:Ph a b o na nb)(hi:at_≤na)(h:na≤a.size):Ph a b (o++(a.extract at_ na).reverse) at_ nb:=by
 unfold Ph at *
 rw[←zfu hi h]at j
 rw[Yn,Jx]
 exact mvA j (Jo _)
def Ph.runB(j:Ph a b o na nb)(hi:at_≤nb)(h:nb≤b.size):Ph a b (o++(b.extract at_ nb).reverse) na at_:=by
 unfold Ph at *
 rw[←zfu hi h]at j
 rw[Yn,Jx]
 exact mvB j (Jo _)
def Ph.pushA(j:Ph a b o (na+1) nb)(h:na<a.size):Ph a b (o.push a[na]) na nb:=by
 unfold Ph at *
 rw[Ql (ZR h)]at j
 rw[Jq]
 exact mvA j ZM
def Ph.pushB(j:Ph a b o na (nb+1))(h:nb<b.size):Ph a b (o.push b[nb]) na nb:=by
 unfold Ph at *
 rw[Ql (ZR h)]at j
 rw[Jq]
 exact mvB j ZM
def Ph.end1(j:Ph a b o na nb):(a.extract 0 na++b.extract 0 nb++o.reverse).toList.Perm WN:=by
 rw[Yn,Yn,Jx,zfz,zfz,Qw]
 exact(Zz _ (Zz _ (Jo _))).trans j
def Ph.end2(j:Ph a b o na nb):(b.extract 0 nb++a.extract 0 na++o.reverse).toList.Perm WN:=by
 rw[Yn,Yn,Jx,zfz,zfz]
 refine List.Perm.trans ?_ j
 rw[←Qw]
 exact(Wf).append (Jo _)
def wpS_mergeHi{Q:Array Keyed→SortSt→Prop}{st:SortSt}(C:Cmp prog w A E s kd a₀)(hk:kindOf st=kd)(oa:Of a₀ a)(ob:Of a₀ b)(ha:0 < a.size)(hb:0 < b.size)(h:∀(res:Array Keyed) (ad:SortSt),res.toList.Perm WN→SG st ad→Q res ad):ZK (mergeHiT a b) Q st:=by
 have ia_:∀i (hi:i<a.size),a[i]∈a₀.toList:=λi hi=>oa i _ (getElem?_pos a i hi)
 have ib_:∀i (hi:i<b.size),b[i]∈a₀.toList:=λi hi=>ob i _ (getElem?_pos b i hi)
 have ea:∀i (hi:i<a.size),a[i]?=some a[i]:=λi hi=>getElem?_pos a i hi
 have eb:∀i (hi:i<b.size),b[i]?=some b[i]:=λi hi=>getElem?_pos b i hi
 have sgk:∀{ad},SG st ad→kindOf ad=kd:=λ⟨g,e⟩=>by rw[e];exact hk
 obtain⟨n0,p9⟩:∃n0,a.size=n0+1:=⟨a.size-1,ZO⟩
 have c9:n0<a.size:=by omega
 have j0:Ph a b (#[a[n0]]:Array Keyed) n0 b.size:=by
  have j:Ph a b (#[]:Array Keyed) (n0+1) b.size:=by
   have e1:a.toList.take (n0+1)=a.toList:=Qt (by simp;omega)
   have e2:b.toList.take b.size=b.toList:=Qt ZM
   unfold Ph;rw[e1,e2];simp
  exact j.pushA c9
 unfold mergeHiT
 refine wpS_bind (wpS_lift (wpAny_rule ⟨rfl,?_⟩))
 have e2:a.size-1=n0:=by omega
 simp -zeta only [e2]
 refine wpS_bind (zay (ea n0 c9) ?_)
 refine zam (λc1=>wpS_pure (h _ _ j0.end1 ⟨_,rfl⟩)) λc1=>zam (λc2=>wpS_pure (h _ _ j0.end2 ⟨_,rfl⟩)) λc2=>?_
 have ua:¬n0=0:=λz=>c1 (by simp[z])
 have c2':¬b.size=1:=λz=>c2 (by simp[z])
 refine wpS_bind (wpS_get ?_)
 obtain⟨n1,rfl⟩:∃n1,n0=n1+1:=⟨n0-1,ZO⟩
 obtain⟨m1,bC⟩:∃m1,b.size=m1+1+1:=⟨b.size-2,ZO⟩
 rw[bC]at j0
 refine wpS_bind (wpS_mono (wpS_forRange
  (I:=λx c ad=>Aj2 (SG st ad) (Ex4 λo i k g=>Aj5 (c=(none,i+1,k+1+1,o,g)) (i<a.size) (k+1<b.size) (Ph a b o QY (k+1+1)) (i+k+x+4≤a.size+b.size)))
  (Q:=λc ad=>Aj2 (SG st ad) W3) ?step ?fin ?init) ?post)
 case init=>exact⟨⟨W7⟩,_,n1,m1,_,by rw[bC],ZO,ZO,j0,ZO⟩
 case fin =>
  rintro c ad ⟨_,o,i,k,g,rfl,a1,a2,a3,a4⟩
  exfalso;omega
 case post =>
  rintro c ad ⟨g,res,r,rfl,m⟩
  exact wpS_pure (h res ad m g)
 case step =>
  rintro x c aX _ hx ⟨g1,o1,i1,k1,mg,rfl,a1,a2,a3,a4⟩
  dsimp -zeta only
  refine wpS_bind (wpS_mono (wpS_forRange
   (I:=λy c ad=>Aj2 (ad=aX) (Ex5 λo i k ac bc=>Aj5 (c=(none,i+1,k+1+1,o,ac,bc)) (i<a.size) (k+1<b.size) (Ph a b o QY (k+1+1)) (i+k+y≤i1+k1)))
   (Q:=λc ad=>Aj2 (ad=aX) (W3∨Ex5 λo i k ac bc=>Aj5 (c=(none,i+1,k+1+1,o,ac,bc)) (i<a.size) (k+1<b.size) (Ph a b o QY (k+1+1)) (i+k<i1+k1))) ?step1 ?fin1 ?init1) ?post1)
  case init1=>exact⟨rfl,o1,i1,k1,0,0,rfl,a1,a2,a3,QK⟩
  case fin1 =>
   rintro c ad ⟨_,o,i,k,ac,bc,rfl,b1,b2,b3,b4⟩
   exfalso;omega
  case step1 =>
   rintro y c aW _ hy ⟨rfl,o,i,k,ac,bc,rfl,b1,b2,b3,b4⟩
   dsimp -zeta only
   refine wpS_bind (zay (eb (k+1) b2) (wpS_bind (zay (ea i b1) (wpS_bind (C _ _ _ _ (ib_ (k+1) b2) (ia_ i b1) (sgk g1) λe=>?_)))))
   dsimp -zeta only
   refine zam (λ_=>?_) (λ_=>?_)
   ·refine wpS_bind (zay (ea i b1) ?_)
    have j:=b3.pushA b1
    refine zam (λ_=>wpS_pure ⟨rfl,.inl ⟨_,_,rfl,j.end1⟩⟩) λd1=>?_
    have oe:¬i=0:=λz=>d1 WG
    cases i with
    |zero=>exact absurd rfl oe
    |succ i'=>exact zam (λ_=>wpS_pure ⟨rfl,.inr ⟨_,i',k,_,_,rfl,ZO,b2,j,ZO⟩⟩) λ_=>wpS_pure ⟨rfl,_,i',k,_,_,rfl,ZO,b2,j,ZO⟩
   ·refine wpS_bind (zay (eb (k+1) b2) ?_)
    have j:=b3.pushB b2
    refine zam (λ_=>wpS_pure ⟨rfl,.inl ⟨_,_,rfl,j.end2⟩⟩) λd1=>?_
    have oe:¬k+1=1:=λz=>d1 WG
    cases k with
    |zero=>exact absurd rfl oe
    |succ k'=>exact zam (λ_=>wpS_pure ⟨rfl,.inr ⟨_,i,k',_,_,rfl,b1,ZO,j,ZO⟩⟩) λ_=>wpS_pure ⟨rfl,_,i,k',_,_,rfl,b1,ZO,j,ZO⟩
  case post1 =>
   rintro c aW ⟨rfl,⟨res,r,rfl,m⟩ | ⟨o2,i2,k2,ac2,bc2,rfl,b1,b2,b3,b4⟩⟩
   ·exact wpS_pure ⟨g1,res,_,rfl,m⟩
   dsimp -zeta only
   refine wpS_bind (wpS_lift (wpAny_rule ⟨rfl,?_⟩))
   refine wpS_bind (wpS_mono (wpS_forRange
    (I:=λy c ad=>Aj2 (SG st ad) (Ex6 λo i k g ac bc=>Aj5 (c=(none,i+1,k+1+1,o,g,ac,bc)) (i<a.size) (k+1<b.size) (Ph a b o QY (k+1+1)) (i+k≤i2+k2)))
    (Q:=λc ad=>Aj2 (SG st ad) (W3∨Ex6 λo i k g ac bc=>Aj5 (c=(none,i+1,k+1+1,o,g,ac,bc)) (i<a.size) (k+1<b.size) (Ph a b o QY (k+1+1)) (i+k≤i2+k2))) ?step2 ?fin2 ?init2) ?post2)
   case init2=>exact⟨g1,o2,i2,k2,_,_,W7,b1,b2,b3,QK⟩
   case fin2 =>
    rintro c ad ⟨g,o,i,k,g',ac,bc,rfl,c1,c2,c3,c4⟩
    exact⟨g,.inr ⟨o,i,k,g',ac,bc,rfl,c1,c2,c3,c4⟩⟩
   case post2 =>
    rintro c au ⟨g3,⟨res,r,rfl,m⟩ | ⟨o3,i3,k3,g',uI,ub,rfl,c1,c2,c3,c4⟩⟩
    ·exact wpS_pure ⟨g3,res,_,rfl,m⟩
    dsimp -zeta only
    refine wpS_bind (wpS_modify ?_)
    obtain⟨gg,e3⟩:=g3
    exact wpS_pure ⟨⟨_,by rw[e3]⟩,o3,i3,k3,_,rfl,c1,c2,c3,ZO⟩
   case step2 =>
    rintro y c au _ hy ⟨g3,o3,i3,k3,mg3,uI,ub,rfl,c1,c2,c3,c4⟩
    refine zda λQ0 bv=>?_
    dsimp -zeta only
    have sgm:∀g',SG st (Q5 g'):=λg'=>by
     obtain⟨g,e⟩:=g3
     exact⟨g',by rw[e]⟩
    extract_lets -underBinder +onlyGivenNames s1 na s2 nb s3 out s4 mn s5 ac bc jp
    refine jp_if (f:=jp) λm'=>?_
    refine wpS_bind (wpS_modify ?_)
    refine wpS_bind (zay (eb (k3+1) c2) ?_)
    refine wpS_bind (zcn (n:=i3+1) (hint:=i3) C (sgk (sgm _)) oa (ib_ (k3+1) c2) ZO ZO λpT q1=>?_)
    dsimp -zeta only
    have jr:=c3.runA (at_:=pT) q1 ZO
    extract_lets -underBinder +onlyGivenNames kk ac' jp2
    have h2:∀(n':Nat) (o':Array Keyed) (f1:n'<a.size),n'≤i3→Ph a b o' (n'+1) (k3+1+1)→ZK (jp2 () (n'+1) o') Q0 (Q5 m'):=by
     intro n' o' f1 f2 fJ
     refine wpS_bind (zay (eb (k3+1) c2) ?_)
     have fK:=fJ.pushB c2
     refine zam (λ_=>wpS_pure (bv _ _ ⟨sgm _,.inl ⟨_,_,rfl,fK.end2⟩⟩)) λd=>?_
     have d':¬k3+1=1:=λz=>d WG
     refine wpS_bind (zay (ea n' f1) ?_)
     refine wpS_bind (zcn (n:=k3+1) (hint:=k3) C (sgk (sgm _)) ob (ia_ n' f1) ZO ZO λoh r1=>?_)
     dsimp -zeta only
     have js:=fK.runB (at_:=oh) r1 ZO
     extract_lets -underBinder +onlyGivenNames kk2 bc' jp3
     have h3:∀(m2:Nat) (o2:Array Keyed) (p1:m2+1<b.size),m2≤k3→Ph a b o2 (n'+1) (m2+1+1)→ZK (jp3 () (m2+1+1) o2) Q0 (Q5 m'):=by
      intro m2 o2 p1 p2 pJ
      refine wpS_bind (zay (ea n' f1) ?_)
      have pK:=pJ.pushA f1
      refine zam (λ_=>wpS_pure (bv _ _ ⟨sgm _,.inl ⟨_,_,rfl,pK.end1⟩⟩)) λd=>?_
      have d2:¬n'=0:=λz=>d WG
      cases n' with
      |zero=>exact absurd rfl d2
      |succ t=>exact zam (λ_=>wpS_pure (bv _ _ ⟨sgm _,.inr ⟨_,t,m2,_,_,_,rfl,ZO,p1,pK,ZO⟩⟩)) λ_=>wpS_pure (bv _ _ ⟨sgm _,_,t,m2,_,_,_,rfl,ZO,p1,pK,ZO⟩)
     refine zam (λkz=>?_) (λkz=>?_)
     ·refine zam (fun _=>wpS_pure (bv _ _ ⟨sgm _,.inl ⟨_,_,rfl,js.end2⟩⟩)) fun d4=>zam (fun _=>wpS_pure (bv _ _ ⟨sgm _,.inl ⟨_,_,rfl,js.end1⟩⟩)) fun d5=>?_
      have d4':¬oh=1:=λz=>d4 WG
      have d5':¬oh=0:=λz=>d5 WG
      obtain⟨m2,e2⟩:∃m2,oh=m2+1+1:=⟨oh-2,ZO⟩
      have:=h3 m2 _ ZO ZO (by rw[←e2];exact js)
      rw[←e2]at this
      exact this
     ·obtain ⟨m2,e2⟩:∃ m2,k3=m2+1:=⟨k3 - 1,ZO⟩
      have:=h3 m2 _ ZO ZO (by rw[←e2];exact fK)
      rw[←e2]at this
      exact this
    refine zam (λkz=>?_) (λkz=>?_)
    ·refine zam (fun _=>wpS_pure (bv _ _ ⟨sgm _,.inl ⟨_,_,rfl,jr.end1⟩⟩)) fun d=>?_
     have d':¬pT=0:=λz=>d WG
     obtain⟨n',e1⟩:∃n',pT=n'+1:=⟨pT-1,ZO⟩
     have:=h2 n' _ ZO ZO (by rw[←e1];exact jr)
     rw[←e1]at this
     exact this
    ·exact h2 i3 _ c1 QK c3
end
section
variable{prog:Ni}{w:Nk}{A:No}{E:Nc}{s:Nh}{kd:SortKind}{a₀:Array Keyed}{p:Array (Nat×Nat×Nat)}{lo:Nat}
structure Bs(kd:SortKind)(a₀:Array Keyed)(p:Array (Nat×Nat×Nat))(st:SortSt):Prop where
 kind:kindOf st=kd
 failed:failedOf st=none
 pend:pendingOf st=p
 perm:(arrOf st).Perm a₀
def Bs.size{st:SortSt}(B:Bs kd a₀ p st):(arrOf st).size=a₀.size:=B.perm.size_eq
def Bs.mem{st:SortSt}(B:Bs kd a₀ p st){i:Nat}(hi:i<a₀.size):∃q,(arrOf st)[i]?=some q∧q∈a₀.toList:=by
 have aK:i<(arrOf st).size:=by rw[B.size];exact hi
 exact⟨_,getElem?_pos _ i aK,(Ym.mp B.perm).mem_iff.mp ZM⟩
def zg1{st:SortSt}{i j:Nat}{Q:Option Bool→SortSt→Prop}(C:Cmp prog w A E s kd a₀)(B:Bs kd a₀ p st)(hi:i<a₀.size)(hj:j<a₀.size)(h:∀b,Q (QB b) st):ZK (ltAt' i j) Q st:=by
 obtain⟨x,e1,m1⟩:=B.mem hi
 obtain⟨y,e2,m2⟩:=B.mem hj
 rw[ltAt'_eq]
 refine wpS_bind (wpS_get ?_)
 refine wpS_bind (zay e1 (wpS_bind (zay e2 ?_)))
 exact C x y st Q m1 m2 B.kind h
def Bs.mirror{st:SortSt}(B:Bs kd a₀ p st)(i j k:Nat):Bs kd a₀ p (setArr st (mirror (arrOf st) i j k)):=⟨B.kind,B.failed,B.pend,(mirror_perm _ _ _ _).trans B.perm⟩
def Bs.bubble{st:SortSt}(B:Bs kd a₀ p st)(src d:Nat):Bs kd a₀ p (setArr st (bubble (arrOf st) src d)):=⟨B.kind,B.failed,B.pend,(bubble_perm _ _ _).trans B.perm⟩
def wpS_binary{st:SortSt}{n ok:Nat}{Q:Bool→SortSt→Prop}(C:Cmp prog w A E s kd a₀)(hn:lo+n≤a₀.size)(B:Bs kd a₀ p st)(h:∀ad,Bs kd a₀ p ad→Q true ad):ZK (binarySort' lo n ok) Q st:=by
 rw[binarySort'_eq]
 refine wpS_bind (wpS_mono (wpS_forRange (I:=λk c ad=>Aj2 (c=(none,())) (Bs kd a₀ p ad)) (Q:=λc ad=>Aj2 (c=(none,())) (Bs kd a₀ p ad)) ?step (λ_ _ z=>z) ⟨rfl,B⟩) ?post)
 case post =>
  rintro c ad ⟨rfl,B'⟩
  exact wpS_pure (h ad B')
 case step =>
  rintro k c ad hak dZ ⟨rfl,B'⟩
  refine wpS_bind (wpS_mono (wpS_forRange
   (I:=λx c db=>Aj2 (db=ad) (Ex2 λl r=>Aj4 (c=(none,l,r)) (l≤r) (r≤k) (r-l≤k-x)))
   (Q:=λc db=>Aj2 (db=ad) (Ex1 λl=>Aj2 (c=(none,l,l)) (l≤k))) ?is ?if_ ?ii) ?ip)
  case ii=>exact⟨rfl,0,k,rfl,Zc _,QK,QK⟩
  case if_ =>
   rintro c db ⟨rfl,l,r,rfl,b1,b2,b3⟩
   have:l=r:=by omega
   subst this
   exact⟨rfl,l,rfl,b2⟩
  case is =>
   rintro x c db _ hx ⟨rfl,l,r,rfl,b1,b2,b3⟩
   dsimp only
   refine zam (λge=>?_) λge=>wpS_bind (zg1 C B' ZO ZO λb=>?_)
   ·have:l=r:=Nat.le_antisymm b1 ge
    subst this
    exact wpS_pure ⟨rfl,l,rfl,b2⟩
   ·cases b with
    |true=>exact wpS_pure ⟨rfl,l,(l+r)/2,rfl,ZO,ZO,ZO⟩
    |false=>exact wpS_pure ⟨rfl,(l+r)/2+1,r,rfl,ZO,b2,ZO⟩
  case ip =>
   rintro c db ⟨rfl,l,rfl,b2⟩
   show wpS _ _ _ _ (do moveDown' (lo+k) (lo+l);pure (ForInStep.yield (none,()))) _ _
   rw[moveDown'_eq]
   exact wpS_bind (wpS_modify (wpS_pure ⟨rfl,B'.bubble _ _⟩))
def jp_rev{α:Type}{c:Prop}[Decidable c]{i j:Nat}{f:Unit→StateT SortSt Sem α}{Q:α→SortSt→Prop}{st:SortSt}(B:Bs kd a₀ p st)(h:∀ad,Bs kd a₀ p ad→ZK (f ()) Q ad):ZK (if c then reverseSlice' i j >>= f else f ()) Q st:=by
 split
 ·exact wpS_bind (wpS_reverse (h _ (B.mirror _ _ _)))
 ·exact h _ B
def wpS_count{st:SortSt}{nrem:Nat}{Q:Option Nat→SortSt→Prop}(C:Cmp prog w A E s kd a₀)(hn:lo+nrem≤a₀.size)(h1:1≤nrem)(B:Bs kd a₀ p st)(h:∀m ad,Bs kd a₀ p ad→1≤m→m≤nrem→Q (QB m) ad):ZK (countRun' lo nrem) Q st:=by
 have asc:∀(f:Nat→(Option (Option Nat)×Nat)→StateT SortSt Sem (ForInStep (Option (Option Nat)×Nat))) (a:Nat) (aX:SortSt),1≤a→a≤nrem →
   (∀x y Q',1≤y→y<nrem→Q' (ForInStep.done (none,y)) aX→Q' (ForInStep.yield (none,y+1)) aX→ZK (f x (none,y)) Q' aX) →
   wpS Z8 A E s (forIn [a:nrem] (none,a) f) (λc ad=>Aj2 (ad=aX) (Ex1 λn=>Aj3 (c=(none,n)) (a≤n) (n≤nrem))) aX:=by
  intro f a aX a1 a2 hf
  refine wpS_forRange (I:=λx c ad=>Aj2 (ad=aX) (c=(none,x))) ?step ?fin ⟨rfl,rfl⟩
  case fin =>
   rintro c ad ⟨rfl,rfl⟩
   rw[show max a nrem=nrem by omega]
   exact⟨rfl,nrem,rfl,a2,QK⟩
  case step =>
   rintro x c ad g1 g2 ⟨rfl,rfl⟩
   exact hf x x _ ZO g2 ⟨rfl,x,rfl,g1,Wt g2⟩ ⟨rfl,rfl⟩
 have two:∀{aX:SortSt},Bs kd a₀ p aX→∀{y:Nat},1≤y→y<nrem→lo+y<a₀.size∧lo+y-1<a₀.size:=λ_ y y1 y2=>⟨ZO,ZO⟩
 rw[countRun'_eq]
 refine wpS_bind (wpS_mono (asc _ 1 st QK h1 ?_) ?_)
 ·intro x y Q' y1 y2 q1 q2
  refine wpS_bind (zg1 C B (two B y1 y2).1 (two B y1 y2).2 λb=>?_)
  cases b with
  |true=>exact wpS_pure q1
  |false=>exact wpS_pure q2
 rintro c ad ⟨rfl,n,rfl,n1,n2⟩
 refine zda λQ0 bv=>?_
 refine zam (λd=>wpS_pure (bv _ _ (h n _ B n1 n2))) λd=>?_
 have d':n<nrem:=by have:¬n=nrem:=λz=>d WG;omega
 extract_lets -underBinder +onlyGivenNames jp
 have mw:∀aX,Bs kd a₀ p aX→ZK (jp ()) Q0 aX:=by
  intro aX B1
  refine wpS_bind (wpS_lift (wpAny_rule ⟨rfl,?_⟩))
  refine wpS_bind (wpS_mono (wpS_forRange
   (I:=λx c aW=>Ex1 λq=>Aj4 (c=(none,x,q)) (Bs kd a₀ p aW) (2≤x) (x≤nrem))
   (Q:=λc aW=>Ex2 λx q=>Aj4 (c=(none,x,q)) (Bs kd a₀ p aW) (2≤x) (x≤nrem)) ?step ?fin ⟨0,rfl,B1,ZO,d'⟩) ?post)
  case fin =>
   rintro c aW ⟨q,rfl,b1,b2,b3⟩
   exact⟨_,q,rfl,b1,b2,b3⟩
  case step =>
   rintro x c aW x1 x2 ⟨q,rfl,b1,b2,b3⟩
   refine zda λQ1 gB=>?_
   refine wpS_bind (zg1 (i:=lo+x) (j:=lo+x-1) C b1 ZO ZO λe1=>?_)
   cases e1 with
   |true =>
    refine zam (λ_=>?_) (λz=>absurd rfl z)
    exact jp_rev b1 λau B3=>wpS_pure (gB _ _ ⟨0,rfl,B3,ZO,x2⟩)
   |false =>
    refine zam (λz=>absurd z ZU) λ_=>wpS_bind (zg1 (i:=lo+x-1) (j:=lo+x) C b1 ZO ZO λe2=>?_)
    cases e2 with
    |true=>exact zam (λ_=>wpS_pure (gB _ _ ⟨x,q,rfl,b1,b2,b3⟩)) (λz=>absurd rfl z)
    |false=>exact zam (λz=>absurd z ZU) λ_=>wpS_pure (gB _ _ ⟨q+1,rfl,b1,ZO,x2⟩)
  case post =>
   rintro c aW ⟨x,q,rfl,b1,b2,b3⟩
   refine jp_rev b1 λau B3=>?_
   refine wpS_bind (wpS_reverse ?_)
   have B6:=B3.mirror lo (lo+x) ((lo+x-lo)/2)
   refine wpS_bind (wpS_mono (asc _ x _ ZO b3 ?_) ?_)
   ·intro z y Q' y1 y2 q1 q2
    refine wpS_bind (zg1 C B6 (two B6 y1 y2).1 (two B6 y1 y2).2 λb=>?_)
    cases b with
    |true=>exact wpS_pure q1
    |false=>exact wpS_pure q2
   ·rintro c st6 ⟨rfl,m,rfl,m1,m2⟩
    exact wpS_pure (bv _ _ (h m _ B6 ZO m2))
 refine zam (λd2=>?_) λd2=>mw _ B
 refine wpS_bind (zg1 C B ZO ZO λe=>?_)
 cases e with
 |true=>exact zam (λ_=>wpS_pure (bv _ _ (h n _ B n1 n2))) (λz=>absurd rfl z)
 |false=>exact zam (λz=>absurd z ZU) λ_=>wpS_bind (wpS_reverse (mw _ (B.mirror _ _ _)))
end
def PL:List (Nat×Nat×Nat)→Nat→Nat→Prop
 |[],off,tot=>off=tot
 |q::ps,off,tot=>q.1=off∧0<q.2.1∧PL ps (off+q.2.1) tot
def PL.split{gb:List (Nat×Nat×Nat)}{tot:Nat}:∀{cI:List (Nat×Nat×Nat)} {off:Nat},PL (cI++gb) off tot→∃mid,PL cI off mid∧PL gb mid tot:=by
 intro cI
 induction cI with
 |nil=>intro off h;exact⟨off,rfl,h⟩
 |cons q ps ih =>
  intro off h
  obtain⟨mid,a,b⟩:=ih h.2.2
  exact⟨mid,⟨h.1,h.2.1,a⟩,b⟩
def PL.join{gb:List (Nat×Nat×Nat)}{mid tot:Nat}:∀{cI:List (Nat×Nat×Nat)} {off:Nat},PL cI off mid→PL gb mid tot→PL (cI++gb) off tot:=by
 intro cI
 induction cI with
 |nil=>intro off a b;cases(show off=mid from a);exact b
 |cons q ps ih=>intro off a b;exact⟨a.1,a.2.1,ih a.2.2 b⟩
def PL.len{tot:Nat}:∀{ps:List (Nat×Nat×Nat)} {off:Nat},PL ps off tot→off+ps.length≤tot:=by
 intro ps
 induction ps with
 |nil=>intro off h;exact Xe h
 |cons q ps ih =>
  intro off h
  have:=ih h.2.2
  have:=h.2.1
  rw[Qv];omega
def put_back{sa:Nat}:∀ (l:List Keyed) (n:Nat) (arr:Array Keyed) (F M S:List Keyed),arr.toList=F++(M++S)→F.length=sa+n→M.length=l.length →
  ((l.zipIdx n).foldl (λ(a:Array Keyed) (q:Keyed×Nat)=>a.setIfInBounds (sa+q.2) q.1) arr).toList=F++(l++S):=by
 intro l
 induction l with
 |nil =>
  intro n arr F M S e _ hl
  have:M=[]:=List.length_eq_zero_iff.mp (ZR hl)
  rw[this]at e
  simpa using e
 | cons p l ih =>
  intro n arr F M S e hf hl
  cases M with
  |nil=>simp at hl
  | cons m M =>
   rw[List.zipIdx_cons,Jg]
   have e2:(arr.setIfInBounds (sa+n) p).toList=(F++[p])++(M++S):=by
    rw[Array.toList_setIfInBounds,e,←hf,List.set_append_right _ _ QK,Kb]
    simp
   rw[ih (n+1) _ (F++[p]) M S e2 (by rw[Qy];simp;omega) (ZR hl)]
   simp
section
variable{prog:Ni}{w:Nk}{A:No}{E:Nc}{s:Nh}{kd:SortKind}{a₀:Array Keyed}
structure Rn(kd:SortKind)(a₀:Array Keyed)(tot:Nat)(st:SortSt):Prop where
 kind:kindOf st=kd
 failed:failedOf st=none
 perm:(arrOf st).Perm a₀
 pend:PL (WF st).toList 0 tot
 le:tot≤a₀.size
def of_perm{xs:Array Keyed}(h:xs.Perm a₀):Of a₀ xs:=λi p e=>by
 refine(Ym.mp h).mem_iff.mp ?_
 have:xs.toList[i]?=some p:=by simpa using e
 exact Yv this
def of_ext{xs:Array Keyed}(h:xs.Perm a₀)(i j:Nat):Of a₀ (xs.extract i j):=λk p e=>by
 have e1:(xs.extract i j).toList[k]?=some p:=by rw[Uh];exact e
 have:=Yv e1
 rw[Array.toList_extract,Kh]at this
 exact(Ym.mp h).mem_iff.mp (List.mem_of_mem_drop (Uy this))
def wpS_set{Q:PUnit→SortSt→Prop}{st ad:SortSt}(h:Q ⟨⟩ ad):ZK (set ad:StateT SortSt Sem PUnit) Q st:=by
 unfold wpS;rw[StateT.run_set];exact wpAny_pure ⟨rfl,h⟩
def zf1{i tot:Nat}{Q:Bool→SortSt→Prop}{st:SortSt}(C:Cmp prog w A E s kd a₀)(R:Rn kd a₀ tot st)(hi:i+1 < (WF st).size)(h:∀ad,Rn kd a₀ tot ad→(WF ad).size+1=(WF st).size→Q true ad):ZK (mergeAt' i) Q st:=by
 obtain⟨cI,q1,q2,gb,hp,hl⟩:∃cI q1 q2 gb,(WF st).toList=cI++q1::q2::gb∧cI.length=i:=by
  have h1:i<(WF st).toList.length:=by simp;omega
  have h2:i+1<(WF st).toList.length:=by simp;omega
  refine⟨(WF st).toList.take i,(WF st).toList[i],(WF st).toList[i+1],(WF st).toList.drop (i+2),?_,QS Zt⟩
  rw[←Yo h2,←Yo h1,We]
 have pr:=R.pend
 rw[hp]at pr
 obtain⟨sa,pr1,e1,hA,e2,hB,qd⟩:=pr.split
 obtain⟨az,na,pw⟩:=q1
 obtain⟨sb',nb,pw2⟩:=q2
 dsimp only at e1 hA e2 hB qd
 subst e1 e2
 have x1:(WF st)[i]?=some (az,na,pw):=by
  have:(WF st)[i]?=(WF st).toList[i]?:=by simp
  rw[this,hp,←hl];simp
 have x2:(WF st)[i+1]?=some (az+na,nb,pw2):=by
  have:(WF st)[i+1]?=(WF st).toList[i+1]?:=by simp
  rw[this,hp,←hl];simp
 have hsz:az+na+nb≤(arrOf st).size:=by
  have:=qd.len
  have:=R.le
  rw[R.perm.size_eq];omega
 have oA:=of_perm R.perm
 have mem:∀j (hj:j<(arrOf st).size),(arrOf st)[j]∈a₀.toList:=λj hj=>oA j _ (getElem?_pos _ j hj)
 have fin:∀(ad:SortSt),kindOf ad=kd→failedOf ad=none→(arrOf ad).Perm a₀→pendingOf ad=((WF st).setIfInBounds i (az,na+nb,pw)).eraseIdxIfInBounds QY→Q true ad:=by
  intro ad m3 m4 m5 m6
  have e:(WF ad).toList=cI++(az,na+nb,pw)::gb:=by
   rw[m6]
   have e1:((WF st).setIfInBounds i (az,na+nb,pw)).toList=cI++(az,na+nb,pw)::(az+na,nb,pw2)::gb:=by
    rw[Array.toList_setIfInBounds,hp,←hl,List.set_append_right _ _ QK,Kb]
    rfl
   rw[Array.toList_eraseIdxIfInBounds,e1,←hl,List.eraseIdx_append_of_length_le (Wq _ _)]
   simp
  refine h ad ⟨m3,m4,m5,?_,R.le⟩ ?_
  ·rw [e]
   exact pr1.join ⟨rfl,Nat.add_pos_left hA _,by rw[←Nat.add_assoc];exact qd⟩
  ·rw[←Wm,←Wm,e,hp];simp;omega
 unfold mergeAt'
 refine wpS_bind (wpS_get ?_)
 rw[x1,x2]
 dsimp only
 refine wpS_bind (wpS_set ?_)
 have kN:az+na<(arrOf st).size:=by omega
 refine wpS_bind (zay (getElem?_pos (arrOf st) (az+na) kN) ?_)
 refine wpS_bind (zcn (arr:=arrOf st) (base:=az) (n:=na) (hint:=0) C R.kind oA (mem _ kN) ZO hA λk k1=>?_)
 refine zam (λc1=>wpS_pure (fin _ R.kind R.failed R.perm rfl)) λc1=>?_
 have ua:¬na-k=0:=λz=>c1 WG
 have hla:az+k+(na-k)-1<(arrOf st).size:=by omega
 refine wpS_bind (zay (getElem?_pos (arrOf st) (az+k+(na-k)-1) hla) ?_)
 refine wpS_bind (zcn (arr:=arrOf st) (base:=az+na) (n:=nb) (hint:=nb-1) C R.kind oA (mem _ hla) ZO ZO λm n1=>?_)
 refine zam (λc2=>wpS_pure (fin _ R.kind R.failed R.perm rfl)) λc2=>?_
 have c2':¬m=0:=λz=>c2 WG
 have oi:(arrOf st).toList=(arrOf st).toList.take (az+k)++((((arrOf st).extract (az+k) (az+na)).toList++((arrOf st).extract (az+na) (az+na+m)).toList)++(arrOf st).toList.drop (az+na+m)):=by
  rw[←Qw,←Qw,zfu ZO ZO,zfu ZO ZO,We]
 have oX:=of_ext R.perm (az+k) (az+na)
 have oY:=of_ext R.perm (az+na) (az+na+m)
 have zX:0<((arrOf st).extract (az+k) (az+na)).size:=by rw[Array.size_extract];omega
 have zY:0<((arrOf st).extract (az+na) (az+na+m)).size:=by rw[Array.size_extract];omega
 have done:∀(res:Array Keyed) (ad:SortSt),res.toList.Perm (((arrOf st).extract (az+k) (az+na)).toList++((arrOf st).extract (az+na) (az+na+m)).toList)→SG (SortSt.mk' (kindOf st) (arrOf st) (((WF st).setIfInBounds i (az,na+nb,pw)).eraseIdxIfInBounds QY) (gallopOf st) (failedOf st)) ad →
   wpS Z8 A E s (do
    modify λz=>SortSt.mk' (kindOf z) (res.toList.zipIdx.foldl (λ(a:Array Keyed) (q:Keyed×Nat)=>a.setIfInBounds (az+k+q.2) q.1) (arrOf z)) (WF z) (gallopOf z) (failedOf z)
    let z ←get
    pure (failedOf z).isNone) Q ad:=by
  intro res ad mg ⟨g,est⟩
  subst est
  refine wpS_bind (wpS_modify (wpS_bind (wpS_get ?_)))
  have lY:failedOf st=none:=R.failed
  show wpS _ _ _ _ (pure (failedOf st).isNone) _ _
  rw[lY]
  refine wpS_pure (fin _ R.kind rfl ?_ rfl)
  have pb:=put_back (sa:=az+k) res.toList 0 (arrOf st) _ _ _ oi (by rw[Zt,Wm];omega) mg.length_eq.symm
  refine Ym.mpr (List.Perm.trans ?_ (Ym.mp R.perm))
  refine List.Perm.trans (List.Perm.of_eq pb) ?_
  conv=>rhs;rw[oi]
  exact Zz _ (List.Perm.append_right _ mg)
 exact zam (λ_=>wpS_bind (wpS_mergeLo C R.kind oX oY zX zY done)) λ_=>wpS_bind (wpS_mergeHi C R.kind oX oY zX zY done)
def PL.congr:∀{ps jS:List (Nat×Nat×Nat)} {off:Nat},(ps.map λq=>(q.1,q.2.1))=(jS.map λq=>(q.1,q.2.1))→PL ps off tot→PL jS off tot:=by
 intro ps
 induction ps with
 |nil =>
  intro jS off e h
  cases jS with
  |nil=>exact h
  |cons q r=>cases e
 | cons q ps ih =>
  intro jS off e h
  cases jS with
  |nil=>cases e
  |cons q' r =>
   rw[Qm,Qm]at e
   obtain⟨e1,e2⟩:=List.cons.inj e
   obtain⟨e3,e4⟩:=Uv e1
   exact⟨e3.symm.trans h.1,e4▸h.2.1,ih e2 (e4▸h.2.2)⟩
def map_mod(f:Nat×Nat×Nat→Nat×Nat×Nat)(hf:∀q,((f q).1,(f q).2.1)=(q.1,q.2.1))(l:List (Nat×Nat×Nat))(i:Nat):((l.modify i f).map λq=>(q.1,q.2.1))=l.map λq=>(q.1,q.2.1):=by
 apply List.ext_getElem?
 intro k
 rw[Qo,Qo,List.getElem?_modify]
 cases l[k]? with
 |none=>simp
 |some q =>
  by_cases e:i=k
  ·simp[e];exact Uv (hf q)
  ·simp[e]
def Rn.mod{tot:Nat}{st:SortSt}(R:Rn kd a₀ tot st)(i:Nat)(f:Nat×Nat×Nat→Nat×Nat×Nat)(hf:∀q,((f q).1,(f q).2.1)=(q.1,q.2.1)):Rn kd a₀ tot (setPending st ((WF st).modify i f)) :=
 ⟨R.kind,R.failed,R.perm,by
  show PL ((WF st).modify i f).toList 0 tot
  rw[Array.toList_modify]
  exact R.pend.congr (map_mod f hf _ i).symm,R.le⟩
def zf0{st:SortSt}{Q:Unit→SortSt→Prop}(C:Cmp prog w A E s kd a₀)(hk:kindOf st=kd)(hf:failedOf st=none)(hp:(arrOf st).Perm a₀)(fh:pendingOf st=#[])(h:∀ad,(arrOf ad).Perm a₀→failedOf ad=none→Q () ad):ZK sortRuns' Q st:=by
 have R0:Rn kd a₀ 0 st:=⟨hk,hf,hp,by rw[fh];rfl,Zc _⟩
 rw[sortRuns'_eq]
 refine wpS_bind (wpS_get ?_)
 dsimp -zeta only
 have hz:(arrOf st).size=a₀.size:=hp.size_eq
 rw[hz]
 refine wpS_bind (wpS_mono (wpS_forRange
  (I:=λx c ad=>Ex1 λtot=>Aj3 (c=(none,tot)) (Rn kd a₀ tot ad) (x≤tot))
  (Q:=λc ad=>Ex1 λtot=>Aj3 (c=(none,tot)) (Rn kd a₀ tot ad) (a₀.size≤tot)) ?step ?fin ⟨0,rfl,R0,Zc _⟩) ?post)
 case fin =>
  rintro c ad ⟨tot,rfl,R,hx⟩
  exact⟨tot,rfl,R,ZO⟩
 case step =>
  rintro x c aX _ hx ⟨tot,rfl,R,hx2⟩
  refine zda λQ0 bv=>?_
  refine zam (λc0=>wpS_pure (bv _ _ ⟨tot,rfl,R,c0⟩)) λc0=>?_
  have B0:Bs kd a₀ (WF aX) aX:=⟨R.kind,R.failed,rfl,R.perm⟩
  refine wpS_bind (wpS_count (lo:=tot) (nrem:=a₀.size-tot) C ZO ZO B0 λm aW B2 m1 m2=>?_)
  dsimp -zeta only
  extract_lets -underBinder +onlyGivenNames n0 jp
  have mw:∀(n':Nat) (au:SortSt),1≤n'→tot+n'≤a₀.size→Bs kd a₀ (WF aX) au→ZK (jp () n') Q0 au:=by
   intro n' au l1 l2 B3
   have R3:Rn kd a₀ tot au:=⟨B3.kind,B3.failed,B3.perm,by rw[B3.pend];exact R.pend,R.le⟩
   have push:∀aS,Rn kd a₀ tot aS→Rn kd a₀ (tot+n') (setPending aS ((WF aS).push (tot,n',0))):=λaS R4 =>
    ⟨R4.kind,R4.failed,R4.perm,by show PL ((WF aS).push _).toList 0 _;rw[Jq];exact R4.pend.join ⟨rfl,l1,rfl⟩,l2⟩
   refine wpS_bind (wpS_get ?_)
   extract_lets -underBinder +onlyGivenNames jp2
   have mt:∀aS,Rn kd a₀ tot aS→ZK (jp2 ()) Q0 aS:=λaS R4=>wpS_bind (wpS_modify (wpS_pure (bv _ _ ⟨tot+n',rfl,push aS R4,ZO⟩)))
   cases(WF au).back? with
   |none=>exact mt _ R3
   | some q =>
    obtain⟨s1,n1,o1⟩:=q
    refine wpS_bind (wpS_mono (wpS_forRange (I:=λ_ c aS=>Aj2 (c=(none,())) (Rn kd a₀ tot aS)) (Q:=λc aS=>Aj2 (c=(none,())) (Rn kd a₀ tot aS)) ?istep (λ_ _ z=>z) ⟨rfl,R3⟩) ?ipost)
    case istep =>
     rintro y c aS _ _ ⟨rfl,R4⟩
     refine zda λQ1 gB=>wpS_bind (wpS_get ?_)
     dsimp only
     by_cases hs:(WF aS).size>1
     ·rw [if_pos hs,getElem?_pos (WF aS) ((WF aS).size - 2) ZO]
      refine zam (λ_=>wpS_pure (gB _ _ ⟨rfl,R4⟩)) λ_=>wpS_bind (zf1 C R4 ZO λda R5 _=>?_)
      exact zam (λz=>absurd z ZU) λ_=>wpS_pure (gB _ _ ⟨rfl,R5⟩)
     ·rw [if_neg hs]
      exact wpS_pure (gB _ _ ⟨rfl,R4⟩)
    case ipost =>
     rintro c aS ⟨rfl,R4⟩
     exact wpS_bind (wpS_modify (mt _ (R4.mod _ _ λq=>rfl)))
  refine zam (λc1=>?_) λc1=>mw m aW m1 ZO B2
  have ua:m<minRun' a₀.size a₀.size 0:=c1
  refine wpS_bind (wpS_lift (wpAny_rule ⟨rfl,?_⟩))
  refine wpS_bind (wpS_binary (lo:=tot) (n:=min (a₀.size-tot) (minRun' a₀.size a₀.size 0)) C ZO B2 λau B3=>?_)
  exact zam (λz=>absurd z ZU) λ_=>mw _ au ZO ZO B3
 case post =>
  rintro c aX ⟨tot,rfl,R,hx⟩
  refine wpS_bind (wpS_mono (wpS_forRange (I:=λ_ c aS=>Aj2 (c=(none,())) (Rn kd a₀ tot aS)) (Q:=λc aS=>Aj2 (c=(none,())) (Rn kd a₀ tot aS)) ?istep (λ_ _ z=>z) ⟨rfl,R⟩) ?ipost)
  case istep =>
   rintro y c aS _ _ ⟨rfl,R4⟩
   refine zda λQ1 gB=>wpS_bind (wpS_get ?_)
   dsimp only
   refine zam (λ_=>wpS_pure (gB _ _ ⟨rfl,R4⟩)) λhs=>wpS_bind (zf1 C R4 ?_ λda R5 _=>?_)
   ·repeat' split
    all_goals omega
   ·exact zam (λz=>absurd z ZU) λ_=>wpS_pure (gB _ _ ⟨rfl,R5⟩)
  case ipost =>
   rintro c aS ⟨rfl,R4⟩
   exact wpS_pure (h aS R4.perm R4.failed)
end
end Tm
end
section
namespace Tm
open PySem PyProof.Rows PySem.W
section
variable{O:KeyOrd}{kf:Nat→O.α}{n:Nat}{s:Nh}{cmp:Nat→Nat→(Bool→Shared→Prop)→Shared→Prop}
def kk(kf:Nat→O.α)(p:Array Nat)(i:Nat):O.α:=kf (p.getD i 0)
def kk_rev{p:Array Nat}{i j:Nat}(hj:j≤p.size)(k:Nat):kk kf (kas_rev p i j) k=if i≤k∧k<j then kk kf p (i+j-1-k) else kk kf p k:=by
 unfold kk kas_rev
 simp only[Ub,getElem?_mirror_all hj k]
 split<;>rfl
def kk_bub(hs:a<p.size)(hd:d≤a)(k:Nat):kk kf (bubble p a d) k=if k=a-d then kk kf p a else if a-d<k∧k≤a then kk kf p (k-1) else kk kf p k:=by
 unfold kk
 simp only[Ub,getElem?_bubble hs d hd k]
 repeat' split
 all_goals rfl
def Up(kf:Nat→O.α)(p:Array Nat)(k:Nat):Prop:=∀i j,i≤j→j<k→O.kle (kk kf p i) (kk kf p j)
def Dn(kf:Nat→O.α)(p:Array Nat)(k:Nat):Prop:=∀i j,i≤j→j<k→O.kle (kk kf p j) (kk kf p i)
def Up.snoc{p:Array Nat}{a:Nat}(h1:1≤a)(h:Up kf p a)(e:O.kle (kk kf p (a-1)) (kk kf p a)):Up kf p (a+1):=λi j cE hj=>by
 by_cases z:j<a
 ·exact h i j cE z
 obtain rfl:j=a:=by omega
 by_cases z2:i=j
 ·subst z2;exact Jz _
 ·exact Uz (h i (j-1) ZO ZO) e
def Dn.snoc{p:Array Nat}{a:Nat}(h1:1≤a)(h:Dn kf p a)(e:O.kle (kk kf p a) (kk kf p (a-1))):Dn kf p (a+1):=λi j cE hj=>by
 by_cases z:j<a
 ·exact h i j cE z
 obtain rfl:j=a:=by omega
 by_cases z2:i=j
 ·subst z2;exact Jz _
 ·exact Uz e (h i (j-1) ZO ZO)
structure Ar(n:Nat)(p:Array Nat):Prop where
 sz:p.size=n
 lt:∀i,0<n→p.getD i 0<n
 pm:p.Perm (List.toArray (List.range n))
def Ar.of(h:p.Perm (List.toArray (List.range n))):Ar n p:=by
 have z:p.size=n:=by rw[h.size_eq];simp
 refine⟨z,λi h0=>?_,h⟩
 by_cases hi:i<p.size
 ·have:p[i]∈List.range n:=(Ym.mp h).mem_iff.mp ZM
  rw[Ub,getElem?_pos p i hi]
  exact Wh.mp this
 ·rw[Ub,getElem?_neg p i hi];exact h0
def Ar.rev{p:Array Nat}(h:Ar n p)(i j:Nat):Ar n (kas_rev p i j):=.of ((mirror_perm _ _ _ _).trans h.pm)
def Ar.bub(h:Ar n p)(i j:Nat):Ar n (bubble p i j):=.of ((bubble_perm _ _ _).trans h.pm)
variable(h0:0<n)(hc:∀i j C,i<n→j<n→C (O.blt (kf i) (kf j)) s→cmp i j C s)
include h0 hc
theorem t_ask{p:Array Nat}(P:Ar n p){α:Type}{i j:Nat}{k:Bool→KasT α}{Q:α→Shared→Prop}(h1:O.klt (kk kf p i) (kk kf p j)→(k true).kasWp cmp Q s)(h2:O.kle (kk kf p j) (kk kf p i)→(k false).kasWp cmp Q s):(KasT.ask (p.getD i 0) (p.getD j 0) k).kasWp cmp Q s:=by
 refine hc _ _ _ (P.lt _ h0) (P.lt _ h0) ?_
 cases e:O.blt (kf (p.getD i 0)) (kf (p.getD j 0)) with
 |true=>exact h1 e
 |false=>exact h2 e
theorem t_asc(P:Ar n p){Q:Nat→Shared→Prop}:∀(f a:Nat),1≤a→a+f≤n→Up kf p a→(∀m,a≤m→m≤a+f→Up kf p m→(m=a+f∨O.klt (kk kf p m) (kk kf p (m-1)))→Q m s)→(kas_asc p f a).kasWp cmp Q s
 |0,a,_,_,hs,h=>h a QK QK hs QX
 |f+1,a,h1,hn,hs,h=>t_ask h0 hc P (λe=>h a QK ZO hs (.inr e)) λe=>t_asc P f (a+1) ZO ZO (hs.snoc h1 e) λm h2 h3=>h m ZO ZO|>λq h4 h5=>q h4 (h5.imp ZO id)
theorem t_desc{Q:Array Nat×Nat×Nat→Shared→Prop}:∀(f:Nat) (p:Array Nat) (a q:Nat),Ar n p→1≤a→a+f≤n→Dn kf p a→q<a→(∀i,a-(q+1)≤i→i<a→kk kf p i=kk kf p (a-1))→(∀p' m q',Ar n p'→a≤m→m≤a+f→Dn kf p' m→q'<m→(∀i,m-(q'+1)≤i→i<m→kk kf p' i=kk kf p' (m-1))→Q (p',m,q') s)→(kas_desc f p a q).kasWp cmp Q s
 |0,p,a,q,P,_,_,hs,hq,he,h=>h p a q P QK QK hs hq he
 | f+1,p,a,q,P,h1,hn,hs,hq,he,h=>by
  have again:∀p',Ar n p'→Dn kf p' (a+1)→∀q'<a+1,(∀i,a+1-(q'+1)≤i→i<a+1→kk kf p' i=kk kf p' (a+1-1))→(kas_desc f p' (a+1) q').kasWp cmp Q s:=λp' P' bf q' dw br=>t_desc f p' (a+1) q' P' ZO ZO bf dw br λp2 m q2 P2 h3 h4=>h p2 m q2 P2 ZO ZO
  have one:∀(p':Array Nat) (i:Nat),a+1-(0+1)≤i→i<a+1→kk kf p' i=kk kf p' (a+1-1):=λp' i h2 h3=>by rw[show i=a+1-1 by omega]
  refine t_ask h0 hc P (λe=>?_) λe=>?_
  ·rw [if_pos rfl]
   have same:∀k,kk kf (kas_rev p (a-(q+1)) a) k=kk kf p k:=λk=>by
    rw[kk_rev (by rw[P.sz];omega)]
    split
    ·rw[he _ ZO ZO,he k ZO ZO]
    ·rfl
   split
   ·refine again _ (P.rev _ _) (fun i j cE hj=>?_) 0 ZO (one _)
    rw[same,same]
    exact hs.snoc h1 (Kf e) i j cE hj
   ·exact again _ P (hs.snoc h1 (Kf e)) 0 ZO (one _)
  ·rw [if_neg ZM]
   refine t_ask h0 hc P (λe2=>?_) λe2=>?_
   ·rw[if_pos rfl];exact h p a q P QK ZO hs hq he
   ·rw [if_neg ZM]
    have eq:=KeyOrd.kle_antisymm e2 e
    refine again _ P (hs.snoc h1 e2) (q+1) ZO λi h2 h3=>?_
    rw[Nat.add_sub_cancel]
    by_cases z:i=a
    ·rw[z]
    ·rw[he i ZO ZO,eq]
theorem t_tail(P:Ar n p)(h1:1≤m)(hm:m≤n)(hs:Dn kf p m)(h:∀p' k,Ar n p'→1≤k→k≤n→Up kf p' k→Q (k,p') s):(kas_tail3 m n p).kasWp cmp Q s:=by
 unfold kas_tail3
 rw[Kr]
 refine t_asc h0 hc (P.rev 0 m) _ m h1 ZO (λi j cE hj=>?_) λk h2 h3 h4 _=>h _ k (P.rev 0 m) ZO ZO h4
 rw[kk_rev (by rw[P.sz];omega),kk_rev (by rw[P.sz];omega),if_pos ZO,if_pos ZO]
 exact hs _ _ ZO ZO
theorem t_dpart(P:Ar n p)(hm:m+1≤n)(hs:Dn kf p (m+1))(h:∀p' k,Ar n p'→1≤k→k≤n→Up kf p' k→Q (k,p') s):(kas_descPart m n p).kasWp cmp Q s:=by
 unfold kas_descPart
 rw[Kr]
 refine t_desc h0 hc _ p (m+1) 0 P ZO ZO hs ZO (λi h2 h3=>by rw[show i=m+1-1 by omega]) λp' k q P' h2 h3 bf hq he=>?_
 dsimp only
 split
 ·refine t_tail h0 hc (P'.rev _ _) ZO ZO (fun i j cE hj=>?_) h
  have same:∀i,kk kf (kas_rev p' (k-(q+1)) k) i=kk kf p' i:=λi=>by
   rw[kk_rev (by rw[P'.sz];omega)]
   split
   ·rw[he _ ZO ZO,he i ZO ZO]
   ·rfl
  rw[same,same]
  exact bf i j cE hj
 ·exact t_tail h0 hc P' ZO ZO bf h
theorem t_count(P:Ar n p){Q:Nat×Array Nat→Shared→Prop}(h:∀p' k,Ar n p'→1≤k→k≤n→Up kf p' k→Q (k,p') s):(kas_count n p).kasWp cmp Q s:=by
 unfold kas_count
 rw[Kr]
 refine t_asc h0 hc P _ 1 QK ZO (λi j cE hj=>by rw[show i=j by omega];exact Jz _) λm h1 h2 hs hor=>?_
 split
 ·exact h p m P h1 ZO hs
 rename_i av
 have mf:m≠n:=by simpa using av
 have ae:=hor.resolve_left ZO
 split
 ·refine t_ask h0 hc P (fun _=>?_) fun e=>?_
  ·rw[if_pos rfl];exact h p m P h1 ZO hs
  ·rw [if_neg ZM]
   have all:∀k,k<m→kk kf p k=kk kf p (m-1):=λk hk=>KeyOrd.kle_antisymm (hs k (m-1) ZO ZO) (Uz e (hs 0 k ZO hk))
   have same:∀k,kk kf (kas_rev p 0 m) k=kk kf p k:=λk=>by
    rw[kk_rev (by rw[P.sz];omega)]
    split
    ·rw[all _ ZO,all k ZO]
    ·rfl
   refine t_dpart h0 hc (P.rev 0 m) ZO (Dn.snoc h1 (λi j cE hj=>?_) (by rw[same,same];exact Kf ae)) h
   rw[same,same,all i ZO,all j hj]
   exact Jz _
 ·obtain rfl:m=1:=by omega
  exact t_dpart h0 hc P ZO (Dn.snoc QK (λi j cE hj=>by rw[show i=j by omega];exact Jz _) (Kf ae)) h
theorem t_place{k:Nat}(P:Ar n p)(hs:Up kf p k){Q:Nat→Shared→Prop}:∀(f l r:Nat),l≤r→r≤k→r-l≤f→(∀i,i<l→O.kle (kk kf p i) (kk kf p k))→(∀i,r≤i→i<k→O.klt (kk kf p k) (kk kf p i))→(∀l,l≤k→(∀i,i<l→O.kle (kk kf p i) (kk kf p k))→(∀i,l≤i→i<k→O.klt (kk kf p k) (kk kf p i))→Q l s)→(kas_place p k f l r).kasWp cmp Q s
 |0,l,r,h1,h2,h3,h4,h5,h=>h l ZO h4 λi q=>h5 i ZO
 | f+1,l,r,h1,h2,h3,h4,h5,h=>by
  unfold kas_place
  split
  ·exact h l ZO h4 λi q=>h5 i ZO
  ·refine t_ask h0 hc P (fun e=>?_) fun e=>?_
   ·rw [if_pos rfl]
    exact t_place P hs f l _ ZO ZO ZO h4 (λi q1 q2=>KeyOrd.klt_of_klt_of_kle e (hs _ _ q1 q2)) h
   ·rw [if_neg ZM]
    exact t_place P hs f _ r ZO h2 ZO (λi q=>Uz (hs i ((l+r)/2) ZO ZO) e) h5 h
theorem t_bin(h:∀p,Ar n p→Up kf p n→Q p s):∀(f:Nat) (p:Array Nat) (k:Nat),Ar n p→Up kf p k→k+f=n→(kas_bin f p k).kasWp cmp Q s
 |0,p,k,P,hs,e=>h p P (by rwa[←e])
 | f+1,p,k,P,hs,e=>by
  unfold kas_bin
  rw[Kr]
  refine t_place h0 hc P hs k 0 k ZO ZO ZO (λi q=>absurd q ZO) (λi q1 q2=>absurd q2 ZO) λl hl ku hhi=>t_bin h f _ (k+1) (P.bub _ _) (λi j cE hj=>?_) ZO
  have hk:k<p.size:=by rw[P.sz];omega
  rw[kk_bub hk ZO,kk_bub hk ZO,show k-(k-l)=l by omega]
  repeat' split
  all_goals first
   |(exfalso;omega)
   |exact Jz _
   |exact ku _ (by omega)
   |exact Kf (hhi _ (by omega) (by omega))
   |exact hs _ _ (by omega) (by omega)
theorem t_sort(h:∀p,Ar n p→Up kf p n→Q p s):(kas_sort n).kasWp cmp Q s:=by
 unfold kas_sort
 rw[Kr]
 refine t_count h0 hc (.of (Array.Perm.refl _)) λp k P h1 h2 hs=>?_
 dsimp only
 split
 ·exact t_bin h0 hc h _ p _ P (by rwa[Nat.max_eq_left h1]) ZO
 ·exact h p P (by rwa[show k=n by omega]at hs)
end
open AutoSeq1 (wpAny_loadPart')
open MeetsSeq MeetsSeq2 MeetsSeq3 SeqRoads2
section
variable{prog:Ni}{w:Nk}{A:No}{E:Nc}{s:Nh}{R:List Value→Prop}{vs:Nj}
structure zcb(prog:Ni)(w:Nk)(A:No)(E:Nc)(s:Nh)(R:List Value→Prop)(vs:Nj):Prop where
 few:vs.length<2→R vs
 go:2≤vs.length→∃kd:SortKind,(∀Q:SortKind→Shared→Prop,Q kd s→ZF (keyKind' vs.toArray) Q E s) ∧
  ∀Q:Unit→SortSt→Prop,(∀ad,(arrOf ad).Perm (pairsOf vs)→failedOf ad=none→R ((arrOf ad).toList.map (·.2))→Q () ad)→ZK sortRuns' Q (SortSt.mk' kd (vs.toArray.zip vs.toArray) #[] 7 none)
def zdy(vs:Nj):(pairsOf vs).toList=vs.map λv=>(v,v):=by
 rw[pairsOf_toList]
 induction vs with
 |nil=>rfl
 |cons v r ih=>rw[Jj,Qm,ih]
def perm_back{l:List Keyed}{vs:Nj}(h:l.Perm (vs.map λv=>(v,v))):(l.map (·.2)).Perm vs:=by
 have:=h.map (·.2)
 rwa[Zk,show((λ(p:Keyed)=>p.2)∘λv=>(v,v))=id from rfl,List.map_id]at this
def cmp_of{kd:SortKind}(h:∀x y,x∈vs→y∈vs→∀(Q:Bool→Shared→Prop) (E':Value→Shared→Prop),(∀b,Q b s)→ZF (keyLt' kd x y) Q E' s):Cmp prog w A E s kd (pairsOf vs):=by
 intro x y st Q hx hy hk q
 rw[zdy]at hx hy
 obtain⟨v,hv,rfl⟩:=Qj.mp hx
 obtain⟨u,hu,rfl⟩:=Qj.mp hy
 rw[lt'_eq]
 refine wpS_bind (wpS_get ?_)
 rw[hk]
 refine wpS_bind (wpS_lift (wpAny_attempt (h v u hv hu _ _ λb=>⟨rfl,?_⟩)))
 exact wpS_pure (q b)
def zcb.any(h:2≤vs.length→∃kd:SortKind,(∀Q:SortKind→Shared→Prop,Q kd s→ZF (keyKind' vs.toArray) Q E s)∧∀x y,x∈vs→y∈vs→∀(Q:Bool→Shared→Prop) (E':Nc),(∀b,Q b s)→ZF (keyLt' kd x y) Q E' s):zcb prog w A E s (λ_=>True) vs :=
 ⟨fun _=>trivial,fun h2=>by
  obtain⟨kd,a1,a2⟩:=h h2
  exact⟨kd,a1,λQ q=>zf0 (cmp_of a2) rfl rfl (Array.Perm.refl _) rfl λad p1 p2=>q ad p1 p2 trivial⟩⟩
def zcb.ord{O:KeyOrd}{kv:Value→O.α}(h:2≤vs.length→∃ kd:SortKind,(∀ Q:SortKind→Shared→Prop,Q kd s→ZF (keyKind' vs.toArray) Q E s)∧∀ x y,x∈vs→y∈vs→∀ (Q:Bool→Shared→Prop) (E':Nc),Q (O.blt (kv x) (kv y)) s→ZF (keyLt' kd x y) Q E' s):zcb prog w A E s (fun ws=>vs.length < 64→ws.Pairwise fun x y=>O.kle (kv x) (kv y)) vs:=by
 refine⟨λh2 _=>?_,λh2=>?_⟩
 ·obtain _ | ⟨v,_ | ⟨v',r⟩⟩:=vs
  ·exact List.Pairwise.nil
  ·exact Kx _ _
  ·exact absurd h2 ZM
 obtain⟨kd,a1,a2⟩:=h h2
 refine⟨kd,a1,λQ q=>?_⟩
 by_cases pC:vs.length<64
 ·have at_:∀ i,i < vs.length→vs.getD i .none∈vs:=fun i hi=>by
   rw[Zb,Qc hi]
   exact Qs hi
  have st0:SortSt.mk' kd (vs.toArray.zip vs.toArray) #[] 7 none=kas_st kd (pairsOf vs) (List.toArray (List.range vs.length)):=by
   unfold kas_st
   rw[←pairsOf_size vs,kas_range]
   rfl
  rw[st0]
  refine kas_runs (κ:=kd) (it:=pairsOf vs) (E:=E) (Q:=λr st s'=>s'=s∧Q r st) (G:=λp s'=>Aj3 (s'=s) (Ar vs.length p) (Up (O:=O) (λi=>kv (vs.getD i .none)) p vs.length)) h2 pC (λp ad s' hz ha hf ⟨hs,P,U⟩=>⟨hs,q ad ?_ hf λ_=>?_⟩) (t_sort (O:=O) (kf:=λi=>kv (vs.getD i .none)) ZO (λi j C hi hj hC=>?_) λp P U=>⟨rfl,P,U⟩)
  ·have:=(Ym.mp P.pm).map (kas_item (pairsOf vs))
   rw[←Xb,←Xb,←pairsOf_size vs,kas_range]at this
   rw[ha]
   exact Ym.mpr this
  ·rw [ha,Xb,Zk,Ul,Kg]
   intro i j hi hj cE
   have e:∀k (hk:k<p.toList.length),kv ((kas_item (pairsOf vs) p.toList[k]).2)=kk (λi=>kv (vs.getD i .none)) p k:=λk hk=>by
    unfold kk
    rw[kas_item_eq,Ub,getElem?_pos p k (ZR hk)]
    rfl
   show O.kle (kv _) (kv _)
   dsimp only[Function.comp]
   rw[e i hi,e j hj]
   exact U i j (Wt cE) (by simpa[P.sz] using hj)
  ·unfold kas_cmp
   rw[kas_item_eq,kas_item_eq]
   exact a2 _ _ (at_ i hi) (at_ j hj) _ _ hC
 ·exact zf0 (cmp_of λx y hx hy Q' E' q'=>a2 x y hx hy Q' E' (q' _)) rfl rfl (Array.Perm.refl _) rfl λad p1 p2=>q ad p1 p2 λz=>absurd z pC
abbrev strO:KeyOrd:=strKind.toKeyOrd
def kvS(v:Value):List Nat:=(strOf v).cps.toList
def zee(hv:∀v∈vs,∃x t,v=.str x t):zcb prog w A E s (λws=>vs.length<64→ws.Pairwise λx y=>strO.kle (kvS x) (kvS y)) vs:=by
 refine .ord λh2=>⟨oneType',λQ q=>kas_kind (T:=.type "str") h2 (λv hm=>?_) ZU ZU q,λx y hx hy Q E' q=>?_⟩
 ·obtain ⟨x,t,rfl⟩:=hv v hm
  exact Looks.of_pure rfl
 ·obtain ⟨a,t,rfl⟩:=hv x hx
  obtain⟨b,u,rfl⟩:=hv y hy
  rw[keyLt'_oneType]
  exact oneLt_str q
def sort_list{a:Nb}{n:Nat}{P:Fin→Shared→Prop}(ho:s.heap.get? a=some (seqObj "list" vs.toArray n))(hz:vs.length≤sizeLine)(hS:∀s':Shared,(∀b o,b≠a→s.heap.get? b=some o→s'.heap.get? b=some o)→zcb prog w A E s' R vs)(h:∀ws:List Value,ws.Perm vs→R ws→P (.done (.ret .none)) {s with heap:=sortedHeap s.heap a vs ws.toArray}) :
  wpAny Z8 A (Builtin.«list.sort» ⟨[ZZ a],[]⟩) P E s:=by
 have lt:a<s.heap.objs.size:=Qu ho
 rw[list_sort_plain]
 refine wpAny_bind (listItems_at ho rfl (wpAny_bind (listUpdate_at ho rfl ?_ (hsz:=by simpa using hz) (hsz2:=by simp))))
 obtain⟨e1,k1⟩:∃e,(s.heap.update a (Obj.mapSeq λ_=>#[])).get? a=some (seqObj "list" #[] e):=⟨_,get?_update_seq ho λ_=>#[]⟩
 refine wpAny_bind (seqEpoch_at k1 rfl (wpAny_bind (wpAny_newTuple (wpAny_bind (wpAny_newList (wpAny_holding ?_))))))
 show ZF _ P E {s with heap:=((s.heap.update a (Obj.mapSeq λ_=>#[])).push (seqObj "tuple" vs.toArray 0)).push (seqObj "list" #[] 0)}
 generalize hg:((s.heap.update a (Obj.mapSeq λ_=>#[])).push (seqObj "tuple" vs.toArray 0)).push (seqObj "list" #[] 0)=g
 have k6:g.get? a=some (seqObj "list" #[] e1):=by
  rw[←hg]
  exact Qi _ (Qi _ k1)
 have kk:∀b o,b≠a→s.heap.get? b=some o→g.get? b=some o:=λb o hb e=>by
  rw[←hg]
  exact Qi _ (Qi _ ((Yc s.heap _ (Zn hb)).trans e))
 have eh:∀out,sortedHeap s.heap a vs out=g.update a (Obj.mapSeq λ_=>out):=λout=>by rw[←hg];rfl
 have S:=hS {s with heap:=g} kk
 dsimp only
 have fin:∀(l:Array Keyed),l.toList.Perm (vs.map λv=>(v,v))→R (l.toList.map (·.2))→P (.done (.ret .none)) {s with heap:=g.update a (Obj.mapSeq λ_=>l.map (·.2))}:=λl p1 p2=>by
  have:=h _ (perm_back p1) p2
  rw[eh]at this
  rw[show l.map (·.2)=(l.toList.map (·.2)).toArray by rw[←Xb]]
  exact this
 have lz:vs.toArray.size=vs.length:=Qx
 have szOk:∀l:Array Keyed,l.toList.Perm (vs.map λv=>(v,v))→(l.map (·.2)).size≤sizeLine+1:=λl p1=>by
  rw[Array.size_map,←Wm,p1.length_eq,Qa];exact zar16 ‹_›
 by_cases few:vs.toArray.size<2
 ·rw [if_pos few,if_pos few]
  refine wpAny_bind (wpAny_pure ?_)
  rw[StateT.run_pure]
  have pr:(pairsOf vs).toList.Perm (vs.map λv=>(v,v)):=by rw[zdy]
  refine wpAny_bind (wpAny_pure (wpAny_bind (seqEpoch_at k6 rfl (wpAny_bind (listUpdate_at k6 rfl ?_ (hsz:=by simp) (hsz2:=szOk (pairsOf vs) pr))))))
  simp only[bne_self_eq_false,Jm,if_false]
  refine wpAny_pure (fin (pairsOf vs) pr ?_)
  rw[zdy,Zk,show((λ(p:Keyed)=>p.2)∘λv=>(v,v))=id from rfl,List.map_id]
  exact S.few (by rw[←lz];exact few)
 ·rw [if_neg few,if_neg few]
  obtain⟨kd,ask,C⟩:=S.go ZO
  refine wpAny_bind (ask _ ?_)
  refine wpAny_bind (wpAny_mono (C (λ_ ad=>Aj3 ((arrOf ad).Perm (pairsOf vs)) (failedOf ad=none) (R ((arrOf ad).toList.map (·.2)))) λad p1 p2 p3=>⟨p1,p2,p3⟩) ?_ λ_ _ e=>e)
  rintro⟨⟨⟩,ad⟩ s' ⟨rfl,p1,p2,p3⟩
  have pr:(arrOf ad).toList.Perm (vs.map λv=>(v,v)):=by rw[←zdy];exact Ym.mp p1
  dsimp only
  refine wpAny_bind (seqEpoch_at k6 rfl (wpAny_bind (listUpdate_at k6 rfl ?_ (hsz:=by simp) (hsz2:=szOk (arrOf ad) pr))))
  rw[p2]
  simp only[bne_self_eq_false,Jm,if_false]
  exact wpAny_pure (fin _ pr p3)
def zez{x:Value}{G:List Value→Prop}{R:List Value→List Value→Prop}{Q:Nc}(tF:∀(E':Nc) (R:List Value→Shared→Prop),(∀(g:Nm) (tk:Nat) (vs:Nj),QM→s.heap.objs.size≤g.objs.size→G vs→R vs {s with heap:=g,toks:=tk})→wpAny Z8 A.in1 (collect x) R E' s)(hz:∀vs,G vs→vs.length≤sizeLine)(hS:∀vs,G vs→∀(A':Around) (E':Value→Shared→Prop) (s':Shared),A'.units≤A.units+8→(∀b o,s.heap.get? b=some o→s'.heap.get? b=some o)→zcb prog w A' E' s' (R vs) vs)(h:∀(vs ws:Nj) (l:Nb) (g:Nm) (tk e:Nat),G vs→ws.Perm vs→R vs ws→s.heap.objs.size≤l→QM→g.get? l=some (seqObj "list" ws.toArray e)→Q (ZZ l) {s with heap:=g,toks:=tk}) :
  wpAny Z8 A (call (.builtin "sorted") [x]) Q E s:=by
 refine Calls.call_function_entry kind_sorted plain_sorted entry_sorted (args_sorted1 _) ?_
 unfold Builtin.«sorted»
 refine wpAny_bind (m:=checkCount "sorted" 1 1 _) (wpAny_pure (wpAny_bind (tF _ _ λg tk vs kg le hG=>?_)))
 have hzv:=hz vs hG
 refine wpAny_bind (wpAny_newList ?_ (hsz:=hzv))
 have o1:(g.push (seqObj "list" vs.toArray 0)).get? g.objs.size=some (seqObj "list" vs.toArray 0):=Za _ rfl
 show wpAny _ _ _ _ _ {s with heap:=g.push (seqObj "list" vs.toArray 0),toks:=tk}
 refine wpAny_bind (wpAny_holding (wpAny_call_entry slot_list_sort ⟨_,o1,rfl⟩ entry_list_sort (sort_list (R:=R vs) o1 hzv (λs' k=>hS vs hG _ _ s' ?_ λb o e=>k b o (λz=>?_) (Qi _ (kg b o e))) λws p1 p2=>⟨_,rfl,?_⟩) (args_list_sort _)))
 ·show A.units+1+1≤A.units+8
  omega
 ·have lt:b < g.objs.size:=Qu (kg b o e)
  rw[z]at lt
  exact absurd lt (Ys _)
 ·obtain ⟨e,he⟩:=sortedHeap_at (out:=ws.toArray) o1
  refine wpAny_pure ⟨_,rfl,h vs ws _ _ _ e hG p1 p2 le (λb o q=>?_) he⟩
  have lt:b<g.objs.size:=Qu (kg b o q)
  rw[sortedHeap_old (Zg lt) (by rw[size_push'];exact Jn lt)]
  exact Qi _ (kg b o q)
def zgp{T:String}{r d:Nb}{n:Nat}{P:Nat→Value→Prop}{OK:Heap→Prop}{R:List Value→Shared→Prop}(K:KdlSrc prog w T r d n P OK)(hh:A.handled=none)(ok:OK s.heap)(hn:n≤sizeLine)(h:∀(g:Nm) (tk:Nat) (ag:Array Value),QM→s.heap.objs.size≤g.objs.size→ItemsOf P ag n→R ag.toList {s with heap:=g,toks:=tk}) :
  wpAny Z8 A (collect (ZZ r)) R E s:=by
 have there:=K.there _ ok
 unfold collect
 refine wpAny_bind (wpAny_runValue (codeAny_builtin entry_proto_collect' ?_))
 rw[Yu PySem.F.plain_proto_collect _]
 show wpAny _ A.in1 (newList [] >>= λl =>
  again (.builtin "list.__iadd__" ⟨[l,ZZ r],[]⟩)) _ _ s
 refine wpAny_bind (wpAny_newObj_type (wpAny_pure ⟨plainId_quiet PySem.F.plain_list_iadd _,codeAny_builtin entry_list_iadd' ?_⟩))
 rw[Yu PySem.F.plain_list_iadd _]
 show wpAny _ A.in1 (Builtin.List.listExtendWith Z6
  (.ref r) Z6) _ _ _
 have jM:(s.heap.push {cls:=.type "list",data:=.seq ([]:List Value).toArray}).get? s.heap.objs.size=some {cls:=.type "list",data:=.seq #[]}:=Za _ rfl
 refine wpAny_mono (kdl_extend (A:=A) (s:={s with heap:=s.heap.push {cls:=.type "list",data:=.seq ([]:List Value).toArray}})
  (R:=fun (q:Result) (s':Nh)=>∃ (g:Nm) (tk:Nat) (ag:Array Value) (c:Nat),q=.ok (.ret Z6)∧s'={ s with heap:=g,toks:=tk } ∧
   (∀b o,s.heap.get? b=some o→g.get? b=some o)∧g.get? s.heap.objs.size=some {cls:=.type "list",dict:=none,data:=.seq ag c,slots:=#[]}∧ItemsOf P ag n)
  K hh (K.keep _ _ ok λb _ o e=>Qi _ e) s.heap.objs.size (Yp there.1) (Yp there.2) Z6 0 jM
  (λg tk ag c hk hS ha=>⟨g,tk,ag,c,rfl,rfl,λb o e=>hk b o (Zg (Qu e)) (Qi _ e),hS,ha⟩) hn) (λfin s' x=>?_) λe s' x=>?_
 ·cases fin with
  |done f =>
   obtain⟨g,tk,ag,c,e,rfl,hk,hS,ha⟩:=x
   cases e
   show wpAny _ A (load s.heap.objs.size >>= _) _ _ _
   exact wpAny_bind (wpAny_load hS (wpAny_pure (h g tk ag hk (Wt (Qu hS)) ha)))
  |again c1 =>
   refine⟨x.1,codeAny_mono x.2 λq s2 y=>?_⟩
   obtain⟨g,tk,ag,c,rfl,rfl,hk,hS,ha⟩:=y
   show wpAny _ A (load s.heap.objs.size >>= _) _ _ _
   exact wpAny_bind (wpAny_load hS (wpAny_pure (h g tk ag hk (Wt (Qu hS)) ha)))
 ·obtain ⟨_,_,_,_,e',_⟩:=x
  cases e'
def sorted_any{Q:Nc}(hl:s.heap.IsList l vs.toArray)(hz:vs.length≤sizeLine)(hS:∀(A':Around) (E':Value→Shared→Prop) (s':Shared),A'.units≤A.units+8→(∀b o,s.heap.get? b=some o→s'.heap.get? b=some o)→zcb prog w A' E' s' R vs)(h:∀(ws:Nj) (l:Nb) (g:Nm) (tk e:Nat),ws.Perm vs→R ws→s.heap.objs.size≤l→QM→g.get? l=some (seqObj "list" ws.toArray e)→Q (ZZ l) {s with heap:=g,toks:=tk}) :
  wpAny Z8 A (call (.builtin "sorted") [ZZ l]) Q E s :=
 zez (G:=λus=>us=vs) (R:=λ_=>R) (λE' R' hR=>collect_list hl (hR _ _ _ (λb o e=>(Yc _ _ (Zn (Zg (Qu e)))).trans (Qi _ e)) (by rw[Heap.size_update,size_push'];exact Uj _) rfl) hz) (λus e=>e▸hz) (λus e=>e▸hS) λus ws l g tk e e' p1 p2=>h ws l g tk e (e'▸p1) p2
end
def str_ext{a b:Str}(h:a.cps.toList=b.cps.toList):a=b:=by
 cases a;cases b
 exact congrArg _ (Array.toList_inj.mp h)
def str_ne{a b:Str}(h:¬a=b):¬a.cps.toList=b.cps.toList:=λq=>h (str_ext q)
def pairO(O P:KeyOrd):KeyOrd where
 α:=O.α×P.α
 blt a b:=O.blt a.1 b.1||(!O.blt b.1 a.1&&P.blt a.2 b.2)
 irrefl a:=by rw[O.irrefl,P.irrefl];rfl
 trans a b c h1 h2:=by
  simp only[Xj,Ju,Kn]at *
  rcases h1 with h1 | ⟨n1,h1⟩
  ·rcases h2 with h2 | ⟨n2,h2⟩
   ·exact .inl (O.trans _ _ _ h1 h2)
   ·exact .inl (KeyOrd.klt_of_klt_of_kle h1 n2)
  ·rcases h2 with h2 | ⟨n2,h2⟩
   ·exact .inl (KeyOrd.klt_of_kle_of_klt n1 h2)
   ·exact .inr ⟨Uz n1 n2,P.trans _ _ _ h1 h2⟩
 negTrans a b c h:=by
  simp only[Xj,Ju,Kn]at *
  rcases h with h | ⟨n,h⟩
  ·rcases O.negTrans _ b.1 _ h with q | q
   ·exact .inl (.inl q)
   ·exact .inr (.inl q)
  ·cases e1:O.blt a.1 b.1 with
   |true=>exact .inl QX
   | false =>
    cases e2:O.blt b.1 c.1 with
    |true=>exact .inr QX
    |false =>
     have n1:O.blt b.1 a.1=false:=Uz (O:=O) (a:=a.1) (b:=c.1) (c:=b.1) n e2
     have n2:O.blt c.1 b.1=false:=Uz (O:=O) (a:=b.1) (b:=a.1) (c:=c.1) e1 n
     rcases P.negTrans _ b.2 _ h with q | q
     ·exact .inl (.inr ⟨n1,q⟩)
     ·exact .inr (.inr ⟨n2,q⟩)
 total a b h1 h2:=by
  simp only[Bool.or_eq_false_iff,Bool.and_eq_false_iff,Bool.not_eq_false']at *
  have e1:=O.total _ _ h1.1 h2.1
  obtain⟨a1,a2⟩:=a
  obtain⟨b1,b2⟩:=b
  simp only at e1 h1 h2
  subst e1
  have i:=O.irrefl a1
  rw[i]at h1 h2
  have p1:P.blt a2 b2=false:=h1.2.elim (λz=>by cases z) id
  have p2:P.blt b2 a2=false:=h2.2.elim (λz=>by cases z) id
  rw[P.total _ _ p1 p2]
def zif(h:Nm):Value→List Value
 | .ref a=>match h.get? a with
  |some o=>match o.data with
   |.seq xs _=>xs.toList
   |_=>[]
  |none=>[]
 |_=>[]
def itemsAt_ref(e:h.get? a=some o)(d:o.data=.seq xs n):zif h (ZZ a)=xs.toList:=by
 unfold zif
 dsimp only
 rw[e]
 dsimp only
 rw[d]
def kvP(h:Nm)(v:Value):List Nat×List Nat:=(kvS ((zif h v).getD 0 .none),kvS ((zif h v).getD 1 .none))
def zfq(h:Nm)(v:Value)(x:Str)(q:Value):Prop:=∃a o t n,v=.ref a∧h.get? a=some o∧o.cls=.type "tuple" ∧ o.data=.seq #[.str x t,q] n
def zfq.key(p:zfq h v x q):kvP h v=(x.cps.toList,kvS q):=by
 obtain⟨a,o,t,n,rfl,e,c,d⟩:=p
 unfold kvP
 rw[itemsAt_ref e d]
 rfl
theorem katTups(k:∀b o,h.get? b=some o→s.get? b=some o):∀(vs:Nj),(∀v∈vs,∃x q,zfq h v x q)→∃fs,KatTups s vs fs∧fs.length=vs.length∧∀f∈fs,∃x t,f=.str x t
 |[],_=>⟨[],.nil,rfl,λf hf=>by cases hf⟩
 |v::vs,hv=>by
  obtain⟨fs,h1,h2,h3⟩:=katTups k vs λu hu=>hv u (Qe _ hu)
  obtain⟨x,q,a,o,t,n,rfl,e,c,d⟩:=hv v Qb
  refine⟨.str x t::fs,.cons (k _ _ e) c d rfl h1,by rw[Qv,Qv,h2],λf hf=>?_⟩
  rcases Qg.mp hf with z | z
  ·exact⟨x,t,z⟩
  ·exact h3 f z
section
variable{prog:Ni}{w:Nk}{A:No}{E:Nc}{s:Nh}{vs:Nj}{h:Nm}
def kind_tups(k:∀b o,h.get? b=some o→s.heap.get? b=some o)(hv:∀v∈vs,∃x q,zfq h v x q)(h2:2≤vs.length)(q:Q (tuples' true) s):ZF (keyKind' vs.toArray) Q E s:=by
 obtain⟨fs,h1,h3,h4⟩:=katTups k vs hv
 refine kat_kind (T:=.type "str") h1 ZO (λf hf=>?_) ZU q
 obtain⟨x,t,rfl⟩:=h4 f hf
 exact Looks.of_pure rfl
def blt_p:(pairO strO strO).blt (x,y) (x',y')=if x=x' then decide (y<y') else decide (x<x'):=by
 show(decide (x<x')||(!decide (x'<x)&&decide (y<y')))=_
 split
 ·rename_i e
  subst e
  rw[decide_eq_false (Wu x)];rfl
 ·rename_i ne
  by_cases h1:x<x'
  ·rw[decide_eq_true h1];rfl
  ·rw[decide_eq_false h1,decide_eq_true (Jb λh2=>ne (strO.total _ _ (decide_eq_false h1) (decide_eq_false h2)))];rfl
def zed(k:∀ b o,h.get? b=some o→s.heap.get? b=some o)(hv:∀ v∈vs,∃ x q,zfq h v x q)(hd:∀ v∈vs,∀ u∈vs,∀ x p q,zfq h v x p→zfq h u x q→v=u∨∃ y t y' t',p=.str y t∧q=.str y' t'):zcb prog w A E s (fun ws=>vs.length < 64→ws.Pairwise fun x y=>(pairO strO strO).kle (kvP h x) (kvP h y)) vs:=by
 refine .ord λh2=>⟨tuples' true,λQ q=>kind_tups k hv h2 q,λv v' hx hy Q E' q=>?_⟩
 have same:=hd v hx v' hy
 obtain⟨x,z,p⟩:=hv v hx
 obtain⟨x',z',p'⟩:=hv v' hy
 have P:=p
 have P':=p'
 rw[P.key,P'.key,blt_p]at q
 obtain⟨a,o,t,n,rfl,e,c,d⟩:=p
 obtain⟨a',o',t',n',rfl,e',c',d'⟩:=p'
 refine kat_lt (k _ _ e) d (k _ _ e') d' ?_
 show KatLex _ _ _ _ _ _ [(Value.str x t,Value.str x' t'),(z,z')] 0 s
 refine kat_cons (wpAny_eqBool_str ?_)
 by_cases ex:x=x'
 ·subst ex
  rw[if_pos rfl]at q
  rw[decide_eq_true rfl]
  refine kat_yes (kat_cons ?_)
  rcases same x z z' P P' with e2 | ⟨y,u,y',u',rfl,rfl⟩
  ·cases e2
   rw[e]at e'
   cases e'
   rw[d]at d'
   have d2:(#[Value.str x t,z]:Array Value)=#[Value.str x t',z']:=by injection d'
   have d3:z=z':=by
    have:=congrArg (λa:Array Value=>a[1]?) d2
    simpa using this
   subst d3
   rw[decide_eq_false (Wu _)]at q
   exact SeqAt.EqAt.same z _ _ _ _ (kat_yes (kat_nil q))
  ·refine wpAny_eqBool_str ?_
   by_cases ey:y=y'
   ·subst ey
    rw[show kvS (Value.str y u')=kvS (Value.str y u) from rfl,decide_eq_false (Wu _)]at q
    rw[decide_eq_true rfl]
    exact kat_yes (kat_nil q)
   ·rw [decide_eq_false ey]
    exact kat_no (kat_one _ _ (lt_str q))
 ·rw [decide_eq_false ex]
  rw[if_neg (str_ne ex)]at q
  exact kat_no (oneLt_str q)
end
def lt_loopAt(l b:Nb)(xs ys:List (Str×Tok))(n n2:Nat)(k:Nat) :
  ∀ i:Nat,min xs.length ys.length - i=k→i≤min xs.length ys.length→Meets (Builtin.«list.__eq__.loop» ⟨[ZZ l,ZZ b,rawInt i,rawInt 0],[]⟩)
   (fun A R s=>s.heap.get? l=some { cls:=.type "list",data:=.seq (strValues xs).toArray n }∧s.heap.get? b=some { cls:=.type "list",data:=.seq (strValues ys).toArray n2 } ∧
    ∀z,R (.ok (.ret (.bool z))) s):=by
 have get:∀(zs:List (Str×Tok)) (i:Nat),(strValues zs).toArray[((i:Nat):Int).toNat]?=zs[i]?.map λp=>Value.str p.1 p.2:=λzs i=>by
  simp[strValues]
 induction k with
 | zero =>
  intro i hk fm prog w A R s h
  obtain⟨hp,g,d,tk,os⟩:=s;obtain⟨hl,hb,h⟩:=h
  wp_walk using wpAny_loadPart' hl,wpAny_loadPart' hb
  rw[get,get]
  by_cases hx:i<xs.length
  ·have hy:ys[i]?=none:=by simp;lia
   rw[hy,Qc hx]
   dsimp only[Option.map_some,Option.map_none]
   wp_walk using wpAny_loadPart' hl,wpAny_loadPart' hb
   exact h _
  ·have gk:xs[i]?=none:=by simp;lia
   rw[gk]
   dsimp only[Option.map_some,Option.map_none]
   wp_walk using wpAny_loadPart' hl,wpAny_loadPart' hb
   exact h _
 | succ k ih =>
  intro i hk fm prog w A R s h
  obtain⟨hp,g,d,tk,os⟩:=s;obtain⟨hl,hb,h⟩:=h
  wp_walk using wpAny_loadPart' hl,wpAny_loadPart' hb
  have hx:i<xs.length:=by lia
  have hy:i<ys.length:=by lia
  rw[get,get,Qc hx,Qc hy]
  dsimp only[Option.map_some]
  have hc:((i:Int)+1)=((i+1:Nat):Int):=by push_cast;rfl
  refine wpAny_bind (wpAny_eqBool_str ?_)
  by_cases he:xs[i].1=ys[i].1
  ·rw [WW he]
   wp_walk
   rw[hc]
   exact⟨plainId_quiet plain_eq_loop _,codeAny_builtin entry_eq_loop (by
    rw[Yu plain_eq_loop _]
    exact ih QY QL QL prog w A R _ ⟨hl,hb,h⟩)⟩
  ·rw [decide_eq_false he]
   wp_walk using wpAny_loadPart' hl,wpAny_loadPart' hb
   rw[get,get,Qc hx,Qc hy]
   dsimp only[Option.map_some]
   refine wpAny_bind (show wpAny _ _ (compareOp .Lt (Value.str xs[i].1 xs[i].2) (Value.str ys[i].1 ys[i].2)) _ _ _ from lt_str ?_)
   wp_walk
   exact h _
def list_ltAt(l b:Nb)(xs ys:List (Str×Tok))(n n2:Nat):Meets (Builtin.«list.__lt__» ⟨[ZZ l,ZZ b],[]⟩)
   (fun A R s=>s.heap.get? l=some { cls:=.type "list",data:=.seq (strValues xs).toArray n }∧s.heap.get? b=some { cls:=.type "list",data:=.seq (strValues ys).toArray n2 } ∧
    ∀z,R (.ok (.ret (.bool z))) s):=by
 intro prog w A R s h
 obtain⟨hp,g,d,tk,os⟩:=s;obtain⟨hl,hb,h⟩:=h
 have f3:=AutoSeq1.sub_list_list
 wp_walk using wpAny_loadPart' hl,wpAny_loadPart' hb
 exact⟨plainId_quiet plain_eq_loop _,codeAny_builtin entry_eq_loop (by
  rw[Yu plain_eq_loop _]
  exact lt_loopAt l b xs ys n n2 _ 0 rfl (Zc _) prog w A R _ ⟨hl,hb,h⟩)⟩
section
variable{prog:Ni}{w:Nk}{A:No}{E:Nc}{s:Nh}
def zgx{vs:Nj}{h:Nm}(hu:A.units<cLine)(k:∀b o,h.get? b=some o→s.heap.get? b=some o)(hv:∀v∈vs,∃a xs n,v=.ref a∧h.get? a=some {cls:=.type "list",data:=.seq (strValues xs).toArray n}):zcb prog w A E s (λ_=>True) vs:=by
 refine .any λh2=>⟨oneType',λQ q=>kas_kind (T:=.type "list") h2 (λv hm=>?_) ZU ZU q,λx y hx hy Q E' q=>?_⟩
 ·obtain ⟨a,xs,n,rfl,e⟩:=hv v hm
  exact(Looks.ld (k _ _ e)).andThen .now
 ·obtain ⟨a,xs,n,rfl,e⟩:=hv x hx
  obtain⟨b,ys,m,rfl,e'⟩:=hv y hy
  rw[keyLt'_oneType,oneLt'_eq]
  simp only[if_true]
  refine wpAny_bind (wpAny_cRoomFor hu ?_)
  refine wpAny_bind (wpAny_callSpecialIfBound?_slot ⟨_,k _ _ e,rfl⟩ F.slot_list_lt (call_meets F.slot_list_lt ⟨_,k _ _ e,rfl⟩ F.entry_list_lt (F.args_list_lt_2 _ _) (list_ltAt a b xs ys n m) ⟨k _ _ e,k _ _ e',λz=>?_⟩))
  exact wpAny_truthy_bool (q _)
end
end Tm
end
section
namespace L2
open PySem PySem.Spec PyProof.Rows
def zes{K:Na}{a:Nb}{zs:Nf}{g:TG}{tb:TS}{D:Ends}{σ:St}{H:Hp}(Pv:Nat→St→Hp→Prop)(h0:Pv 0 σ H)(hl:∀i σ H,i≤(zs.map V.str).length→Pv i σ H→SqL K H a QN)(hs:∀i (hi:i<zs.length) σ H,Pv i σ H→g (.str zs[i]) σ H λ σ2 H2=>tb {D with nx:=Pv QY,ct:=Pv QY,bk:=D.nx} σ2 H2)(hd:∀σ H,Pv (zs.map V.str).length σ H→D.nx σ H) :
  ∃W:Nat→Nat→St→Hp→Prop,(∃m,W 0 m σ H)∧∀i m σ H,W i m σ H →
   ((Itl K a).stop i H∧D.nx σ H)∨((Itl K a).go i H∧∃N:St→Hp→Prop,QO∧∀x H',(Itl K a).yld i H x H'→g x σ H' λ σ2 H2=>tb {D with nx:=N,ct:=N,bk:=D.nx} σ2 H2) :=
 zbf Pv h0 hl (λi x σ H e p=>by
  have hi:i<zs.length:=by
   have:=(Qz.mp e).1
   rwa[Qa]at this
  rw[Qo,Qc hi]at e
  cases e
  exact hs i hi σ H p) hd
section
variable{X:Cx}
inductive RrIndex(x:V)(vs:List V)(H:Hp)(Q:VK):Prop
 |mk (l:Nb) (xs:List V) (y:V) (j:Nat) (h0:x=.ref l) (h1:vs=[y]) (h2:H l=some (.lst xs)) (h3:zdf y=true) (h4:xs.all zdf=true) (h5:(∃z,xs[j]?=some z∧eqV z y=true)) (h6:(∀m z,m<j→xs[m]?=some z→eqV z y=false)) (h7:Q (.int j) H):RrIndex x vs H Q
def rIndex:V→List V→Hp→VK→Prop:=λx vs H Q=>RrIndex x vs H Q
def zic:MtM X "list.index" rIndex:=by
 intro a7 s σ H x vs v us Q I rx rv h
 obtain⟨l,xs,y,j,rfl,rfl,hH,fy,fs,⟨z,hz,ez⟩,cR,q⟩:=h
 cases rx
 obtain⟨u,rfl,ru⟩:=rv.one
 obtain⟨zz,a9,n,r,hl,e⟩:=I.lstM hH
 have hn:=zfi
 obtain⟨wv,hw,cG⟩:=r.get hz
 have hj:j<a9.length:=(Qz.mp hw).1
 have fl:∀{i:Nat} {a:V},xs[i]?=some a→zdf a=true:=λ{i a} q=>Ja.mp fs a (Yv q)
 refine call_meets F.slot_list_index ⟨_,e,rfl⟩ F.entry_list_index (F.args_list_index_2 _ _)
  (SeqAt.list_indexAt l a9.toArray n none #[] u (eqU y) j (ZR hj) QL ?_ ?_) ⟨e,λa ha=>zdz ru fy r fs a (ZR ha),?_⟩
 ·have e1:a9[j]=wv:=by
   have:=Qc hj
   rw[this]at hw;exact Qn hw
  show eqU y (a9.toArray[j])=true
  rw[Jw,e1,eqU_of cG (fl hz)]
  exact ez
 ·intro m hm ae
  have rZ:m<a9.length:=by simpa using hm
  have bC:m<xs.length:=by exact zar6 ‹_› ‹_›
  have gx:xs[m]?=some xs[m]:=Qc bC
  obtain⟨wm,hwm,rm⟩:=r.get gx
  have e1:a9[m]=wm:=by
   have:=Qc rZ
   rw[this]at hwm;exact Qn hwm
  show eqU y (a9.toArray[m])=false
  rw[Jw,e1,eqU_of rm (fl gx)]
  exact cR m _ ae gx
 ·exact⟨W6 j,H,I.tok _,⟨W7⟩,q⟩
theorem zf2:∀{zs:Nf} {a9:Nj},Vals QN a9→∃l:List (Str×Tok),a9=PySem.strValues l∧l.map (·.1)=zs
 |[],_,.nil=>⟨[],rfl,rfl⟩
 |z::zs,_,.cons r t=>by
  obtain⟨tk,rfl⟩:=r
  obtain⟨l,rfl,e⟩:=zf2 t
  exact⟨(z,tk)::l,rfl,by rw[Qm,e]⟩
def call_isi_str:zck X (.builtin "isinstance") (λxs H Q=>Ex1 λz=>Aj2 (xs=[.str z,.ty "str"]) (Q (.bl true) H)):=by
 intro a7 s σ H xs us Q I r h
 obtain⟨z,rfl,q⟩:=h
 obtain⟨u,w',rfl,⟨t,rfl⟩,e⟩:=vals2 r
 have e':w'=Value.type "str" := e
 subst e'
 exact IsiPair.str_str ⟨.bl true,H,I,rfl,q⟩
def zfs{a7:Ng}{s:Nh}{σ:St}{H:Hp}{p:Nb}{ys:List V}(hc:X.calm=true)(I:QT)(hq:SqL X.K H p ys){Q:Nc}(h:∀ (a9:Nj) (It:Nb) (h1:Nm),Vals ys a9→Walks X.prog X.w X.A.in1 It [It,p] [It] a9.toArray.size (fun i v=>a9.toArray[i]?=some v) (fun i h=>h.IsListIter It p i∧h.IsList p a9.toArray)→(h1.IsListIter It p 0∧h1.IsList p a9.toArray)→(∀ b∈[It,p],b < h1.objs.size) →
   (∀(h':Nm) (tk:Nat),(∀b o,b∉[It]→h1.get? b=some o→h'.get? b=some o)→ZA H {s with heap:=h',toks:=tk})→Q (ZZ It) {s with heap:=h1}) :
  wpAny ZY X.A.in1 (pyIter (ZZ p)) Q X.xe s:=by
 obtain⟨a9,rv,pl,hz⟩:=I.list hq
 refine wpAny_pyIter_list pl.isList ?_
 have lt:p<s.heap.objs.size:=by obtain⟨o,n,e,_⟩:=pl;exact Qu e
 refine h a9 s.heap.objs.size _ rv (Walks.list (show X.A.in1.handled=none from I.ok.hd hc) _ _ (Zg lt) _) ⟨⟨_,Za _ rfl,rfl,rfl⟩,?_⟩ (λb hb=>?_) λh' tk k=>I.kept (t':=tk) λb o e=>?_
 ·obtain ⟨o,e,r⟩:=pl.isList
  exact⟨o,Qi _ e,r⟩
 ·rcases Qg.mp hb with e | e
  ·rw[e];simp[Heap.push]
  ·rw[Qd.mp e];simp[Heap.push];exact Jn lt
 ·exact k b o (λz=>absurd (Qu e) (by rw[Qd.mp z];exact Ys _)) (Qi _ e)
theorem zd7(ns:List Int):∀k,k≤ns.length→preSum (λi=>ns.getD i 0) k=(ns.take k).sum
 |0,_=>rfl
 |k+1,h=>by
  show preSum (λi=>ns.getD i 0) k+ns.getD k 0=_
  have hk:k<ns.length:=h
  rw[zd7 ns k (by exact Wt ‹_›),Ql hk,List.sum_append,List.sum_singleton]
  congr 1
  simp[List.getD,hk]
theorem zg2:∀{ns:List Int} {a9:Nj},Vals (ns.map V.int) a9→∀(i:Nat) (v:Value),a9[i]?=some v→∃t,v=Value.int (ns.getD i 0) t
 |[],_,.nil,i,v,e=>by simp at e
 |n::ns,_,.cons r t,0,v,e=>by
  obtain⟨tk,rfl⟩:=r
  simp at e;subst e
  exact⟨tk,rfl⟩
 |n::ns,_,.cons r t,i+1,v,e=>by
  obtain⟨tk,h⟩:=zg2 t i v (ZR e)
  exact⟨tk,by rw[h];simp⟩
def sum_small{ns:List Int}(hb:∀n∈ns,0≤n∧n≤1000000):0≤ns.sum∧ns.sum≤1000000*(ns.length:Int):=by
 induction ns with
 |nil=>simp
 |cons a r ih =>
  have h1:=hb a Qb
  have h2:=ih λn hn=>hb n (Qe _ hn)
  rw[Zm,Qv]
  lia
def call_sum(hc:X.calm=true):zck X (.builtin "sum") (λxs H Q=>Ex2 λ(p:Nb) (ns:List Int)=>Aj5 (xs=[ZZ p]) (SqL X.K H p (ns.map V.int)) (ns.length≤1000000) (∀n∈ns,0≤n∧n≤1000000) (Q (.int ns.sum) H)):=by
 intro a7 s σ H xs us Q I r h
 obtain⟨p,ns,rfl,hq,hl,hb,q⟩:=h
 obtain⟨u,rfl,rx⟩:=vals1 r
 cases rx
 refine call_sum_walk (zfs hc I hq λa9 It h1 rv W st lt keep=>⟨It,_,_,_,_,_,λi=>ns.getD i 0,rfl,W,st,lt,λi v e=>zg2 rv i v (ZR e),λj hj=>?_,λh' tk t' k=>⟨.int ns.sum,H,keep h' tk k,⟨t',?_⟩,q⟩⟩)
 ·have aA:=rv.length
  rw[Qa]at aA
  have mz:j<ns.length:=by rw[aA];simpa using hj
  have s1:=sum_small (ns:=ns.take (j+1)) λn hn=>hb n (Uy hn)
  rw[Zt]at s1
  have g:ns.getD j 0=ns[j]:=by simp[List.getD,mz]
  have g2:=hb _ (Qs mz)
  refine⟨?_,?_⟩
  ·show InLong (ns.getD j 0)
   rw[g];unfold InLong;lia
  ·rw [zd7 ns (j+1) mz]
   unfold InLong;lia
 ·have aA:=rv.length
  rw[Qa]at aA
  rw[Qx,zd7 ns _ QL,←aA,Qt QK]
theorem zg3:∀{bs:List Bool} {a9:Nj},Vals (bs.map V.bl) a9→∀(i:Nat) (v:Value),a9[i]?=some v→v=Value.bool (bs.getD i true)
 |[],_,.nil,i,v,e=>by simp at e
 |n::ns,_,.cons r t,0,v,e=>by
  cases r
  simp at e;subst e
  rfl
 |n::ns,_,.cons r t,i+1,v,e=>by
  have h:=zg3 t i v (ZR e)
  rw[h];simp
def all_range(bs:List Bool):(List.range bs.length).all (λi=>bs.getD i true)=bs.all id:=by
 rw[Yy,Ja,Ja]
 constructor
 ·intro h x hx
  obtain⟨i,hi,e⟩:=Zv hx
  have:=h i (Wh.mpr hi)
  simp[List.getD,hi]at this
  rw[←e];exact this
 ·intro h i hi
  have aK:=Wh.mp hi
  simp[List.getD,aK]
  exact h _ (Qs aK)
def call_all(hc:X.calm=true):zck X (.builtin "all") (λxs H Q=>Ex2 λ(p:Nb) (bs:List Bool)=>Aj3 (xs=[ZZ p]) (SqL X.K H p (bs.map V.bl)) (Q (.bl (bs.all id)) H)):=by
 intro a7 s σ H xs us Q I r h
 obtain⟨p,bs,rfl,hq,q⟩:=h
 obtain⟨u,rfl,rx⟩:=vals1 r
 cases rx
 refine call_all_walk (zfs hc I hq λa9 It h1 rv W st lt keep=>⟨It,_,_,_,_,_,λi=>bs.getD i true,rfl,W,st,λi v s' Q' E' e q'=>?_,λh' tk k=>⟨.bl (bs.all id),H,keep h' tk k,?_,q⟩⟩)
 ·have e':=zg3 rv i v (ZR e)
  subst e'
  exact wpAny_truthy_bool q'
 ·have aA:=rv.length
  rw[Qa]at aA
  show Value.bool _=Value.bool _
  rw[Qx,←aA,all_range]
end
end L2
end
section
namespace L2
open PySem PySem.Spec PyProof.Rows Tm
def Vals.perm{ws us:Nj}(p:ws.Perm us):∀{ys:List V},Vals ys us→∃zs,zs.Perm ys∧Vals zs ws:=by
 induction p with
 |nil=>intro ys r;cases r;exact⟨[],.nil,.nil⟩
 | cons x q ih =>
  intro ys r
  cases r with
  |cons r1 r2 =>
   obtain⟨zs,h1,h2⟩:=ih r2
   exact⟨_::zs,h1.cons _,.cons r1 h2⟩
 | swap x y l =>
  intro ys r
  cases r with
  |cons r1 r2 =>
   cases r2 with
   |cons r3 r4=>exact⟨_,List.Perm.swap ..,.cons r3 (.cons r1 r4)⟩
 |trans _ _ ih1 ih2 =>
  intro ys r
  obtain⟨zs,h1,h2⟩:=ih2 r
  obtain⟨iH,h3,h4⟩:=ih1 h2
  exact⟨iH,h3.trans h1,h4⟩
theorem Vals.pairwise{α:Type}{R:α→α→Prop}{kv:Value→α}{kV:V→α}:∀{zs:List V} {ws:Nj},Vals zs ws→(∀v∈zs,∀u,RelV v u→kv u=kV v)→ws.Pairwise (λa b=>R (kv a) (kv b))→zs.Pairwise λa b=>R (kV a) (kV b)
 |_,_,.nil,_,_=>.nil
 |v::zs,u::ws,.cons r t,hk,h=>by
  rw[Jk]at h ⊢
  refine⟨λb hb=>?_,Vals.pairwise t (λv hv=>hk v (Qe _ hv)) h.2⟩
  obtain⟨i,hi,e⟩:=Zv hb
  obtain⟨x,hx,rx⟩:=Vals.get t (i:=i) (x:=b) (by rw[Qc hi,e])
  have:=h.1 x (Yv hx)
  rw[hk v Qb u r,hk b (Qe _ hb) x rx]at this
  exact this
section
variable{X:Cx}
def zd4{a7:Ng}{s:Nh}{σ:St}{H:Hp}{p:Nb}{ys:List V}{R:List Value→List Value→Prop}{Q:VK}(I:QT)(hq:SqL X.K H p ys)(hS:∀a9,Vals ys a9→∀(A':Around) (E':Value→Shared→Prop) (s':Shared),A'.units≤X.A.units+8→(∀b o,s.heap.get? b=some o→s'.heap.get? b=some o)→zcb X.prog X.w A' E' s' (R a9) a9)(h:∀(l:Nb) (ws:List V) (a9 us:Nj),H l=none→ws.Perm ys→Vals ys a9→Vals ws us→R a9 us→Q (ZZ l) (ZW H l ws)) :
  wpAny ZY X.A (call (.builtin "sorted") [ZZ p]) WY X.xe s:=by
 obtain⟨a9,r,pl,hz⟩:=I.list hq
 refine sorted_any pl.isList (by rw[←r.length];exact hz) (hS a9 r) λws l g tk e p1 p2 le k he=>?_
 obtain⟨zs,q1,q2⟩:=Vals.perm p1 r
 exact⟨ZZ l,_,I.laid (t':=tk) k le (show zbw X.prog X.w _ g _ (QZ zs) from⟨by rw[q1.length_eq];exact hz,ws,e,q2,he⟩),rfl,h l zs a9 ws (I.hok.fresh le) q1 r q2 p2⟩
def leS(x y:Str):Prop:=¬y.cps.toList<x.cps.toList
def txV:V→List Nat
 |.str x=>x.cps.toList
 |_=>[]
def strs_perm{ws:List V}{zs:Nf}(pm:ws.Perm QN):∃ts:List Str,ws=ts.map V.str∧ts.Perm zs:=by
 have a1:∀v∈ws,∃x,v=V.str x:=λv hv=>by
  obtain⟨x,_,e⟩:=Qj.mp (pm.mem_iff.mp hv)
  exact⟨x,e.symm⟩
 have a2:∃ts:List Str,ws=ts.map V.str:=by
  clear pm
  induction ws with
  |nil=>exact⟨[],rfl⟩
  |cons v r ih =>
   obtain⟨ts,e⟩:=ih λv hv=>a1 v (Qe _ hv)
   obtain⟨x,e2⟩:=a1 v Qb
   exact⟨x::ts,by rw[e,e2];rfl⟩
 obtain⟨ts,rfl⟩:=a2
 refine⟨ts,rfl,?_⟩
 have:=pm.map (λv=>match v with | .str x=>x | _=>Str.empty)
 rw[Zk,Zk]at this
 simpa[Function.comp_def] using this
def zfc{zs:Nf}{a9:Nj}(r:Vals QN a9):∀v∈a9,∃x t,v=.str x t:=λv hv=>by
 obtain⟨l,rfl,e⟩:=zf2 r
 obtain⟨pr,_,e2⟩:=Qj.mp hv
 exact⟨_,_,e2.symm⟩
def txV_str{zs:Nf}:∀v∈zs.map V.str,∀u,RelV v u→kvS u=txV v:=λv hv u ru=>by
 obtain⟨x,_,rfl⟩:=Qj.mp hv
 obtain⟨t,rfl⟩:=ru
 rfl
def strs_out{zs ts:Nf}{a9 us:Nj}(r:Vals QN a9)(r2:Vals (ts.map V.str) us)(p:a9.length<64→us.Pairwise λx y=>strO.kle (kvS x) (kvS y))(h:zs.length<64):ts.Pairwise leS:=by
 have p2:=Vals.pairwise (R:=λa b=>strO.kle a b) (kV:=txV) r2 txV_str (p (by rw[←r.length,Qa];exact h))
 rw[Ul]at p2
 exact p2.imp of_decide_eq_false
def zfo:zck X (.builtin "sorted") (λxs H Q=>Ex2 λ(p:Nb) (zs:Nf)=>Aj3 (xs=[ZZ p]) (SqL X.K H p QN) (∀(l:Nb) (ws:Nf),H l=none→ws.Perm zs→(zs.length<64→ws.Pairwise leS)→Q (ZZ l) (ZW H l (ws.map V.str)))):=by
 intro a7 s σ H xs us Q I r h
 obtain⟨p,zs,rfl,hq,q⟩:=h
 obtain⟨u,rfl,rx⟩:=vals1 r
 cases rx
 refine zd4 I hq (λa9 r A' E' s' _ _=>zee (zfc r)) λl ws a9 us hl p1 r1 r2 p2=>?_
 obtain⟨ts,rfl,p3⟩:=strs_perm p1
 exact q l ts hl p3 (strs_out r1 r2 p2)
def zhu(I:QT)(e:H a=some (.tup [.str x,z])):∃q,RelV z q∧zfq s.heap (ZZ a) x q:=by
 obtain⟨_,a9,r,o,e1,c,n,d⟩:=I.hok a _ e
 obtain⟨u,w',rfl,⟨t,rfl⟩,rz⟩:=vals2 r
 exact⟨w',rz,a,o,t,n,rfl,e1,c,d⟩
def vals_back(r:Vals ys a9):∀v∈a9,∃b∈ys,RelV b v:=λv hv=>by
 obtain⟨i,hi,e⟩:=Zv hv
 have hl:=r.length
 have ao:i<ys.length:=by exact zar6 ‹_› ‹_›
 obtain⟨u,hu,ru⟩:=r.get (i:=i) (Qc ao)
 rw[Qc hi,e]at hu
 cases hu
 exact⟨_,Qs ao,ru⟩
def zft(a:zfq h v x p)(b:zfq h v y q):x=y∧p=q:=by
 obtain⟨a,o,t,n,rfl,e,c,d⟩:=a
 obtain⟨a',o',t',n',e0,e',c',d'⟩:=b
 cases e0
 rw[e]at e'
 cases e'
 rw[d]at d'
 have d2:(#[Value.str x t,p]:Array Value)=#[Value.str y t',q]:=by injection d'
 have d3:=congrArg (λa:Array Value=>a[0]?) d2
 have d4:=congrArg (λa:Array Value=>a[1]?) d2
 simp at d3 d4
 exact⟨d3.1,d4⟩
def rowV(H:Hp):V→List Nat
 |.ref a=>match H a with
  |some (.tup [x,_])=>txV x
  |_=>[]
 |_=>[]
def zek(e:H a=some (.tup [x,y])):rowV H (ZZ a)=txV x:=by
 unfold rowV;dsimp only;rw[e]
def zfp:zck X (.builtin "sorted") (λxs H Q=>Ex2 λ(p:Nb) (ys:List V)=>Aj5 (xs=[ZZ p]) (SqL X.K H p ys) (∀v∈ys,∃a x z,v=.ref a∧H a=some (.tup [.str x,z])) (∀v∈ys,∀u∈ys,rowV H v=rowV H u→v=u) (∀(l:Nb) (ws:List V),H l=none→ws.Perm ys→(ys.length<64→ws.Pairwise λa b=>strO.kle (rowV H a) (rowV H b))→Q (ZZ l) (ZW H l ws))):=by
 intro a7 s σ H xs us Q I r h
 obtain⟨p,ys,rfl,hq,hy,hd,q⟩:=h
 obtain⟨u,rfl,rx⟩:=vals1 r
 cases rx
 have back:∀a9,Vals ys a9→∀v∈a9,∃b∈ys,RelV b v∧∃a x z q,b=.ref a∧v=.ref a∧H a=some (.tup [.str x,z])∧zfq s.heap v x q:=λa9 r v hv=>by
  obtain⟨b,hb,rb⟩:=vals_back r v hv
  obtain⟨a,x,z,rfl,e2⟩:=hy b hb
  have rb':=rb
  cases rb
  obtain⟨q',_,T⟩:=zhu I e2
  exact⟨_,hb,rb',a,x,z,q',rfl,rfl,e2,T⟩
 refine zd4 I hq (λa9 r A' E' s' _ k=>zed k (λv hv=>?_) λv hv u hu x p q T T'=>?_) λl ws a9 us hl p1 r1 r2 p2=>q l ws hl p1 λpC=>?_
 ·obtain ⟨b,hb,rb,a,x,z,q,_,_,_,T⟩:=back a9 r v hv
  exact⟨x,q,T⟩
 ·obtain ⟨b,hb,rb,a,x1,z,q1,rfl,rfl,e1,T1⟩:=back a9 r v hv
  obtain⟨c,hc,rc,a',x2,z',q2,rfl,rfl,e2,T2⟩:=back a9 r u hu
  have h1:=(zft T T1).1
  have h2:=(zft T' T2).1
  subst h1
  subst h2
  have:=hd _ hb _ hc (by rw[zek e1,zek e2])
  cases this
  exact .inl rfl
 ·refine Vals.pairwise (R:=fun a b=>strO.kle a b) (kv:=fun u=>(kvP s.heap u).1) r2 (fun v hv u ru=>?_) ((p2 (by rw [← r1.length];exact pC)).imp fun h=>(Bool.or_eq_false_iff.mp h).1)
  obtain⟨a,x,z,rfl,e2⟩:=hy v (p1.mem_iff.mp hv)
  cases ru
  obtain⟨q',_,T⟩:=zhu I e2
  rw[T.key,zek e2]
  rfl
def zfb(hu:X.A.units+8<cLine):zck X (.builtin "sorted") (λxs H Q=>Ex2 λ(p:Nb) (ys:List V)=>Aj4 (xs=[ZZ p]) (SqL X.K H p ys) (∀v∈ys,∃a zs,v=.ref a∧H a=some (QZ (List.map V.str zs))) (∀(l:Nb) (ws:List V),H l=none→ws.Perm ys→Q (ZZ l) (ZW H l ws))):=by
 intro a7 s σ H xs us Q I r h
 obtain⟨p,ys,rfl,hq,hy,q⟩:=h
 obtain⟨u,rfl,rx⟩:=vals1 r
 cases rx
 refine zd4 I hq (λa9 r A' E' s' hA k=>zgx (by exact Kc ‹_› ‹_›) k λv hv=>?_) λl ws _ _ hl p1 _ _ _=>q l ws hl p1
 obtain⟨b,hb,ru⟩:=vals_back r v hv
 obtain⟨a,zs,rfl,e2⟩:=hy b hb
 cases ru
 obtain⟨_,aH,n,r2,e3⟩:=I.hok a _ e2
 obtain⟨l2,rfl,_⟩:=zf2 r2
 exact⟨a,l2,n,rfl,e3⟩
def dk_at{a7:Ng}{s:Nh}{σ:St}{H:Hp}{d:Nb}{kvs:List (Key×V)}(I:QT)(rd:Rd H d (.dK kvs)) :
  kvs.length≤sizeLine∧(d==sysModules)=false∧∃vs ep,KV kvs vs∧s.heap.DictAt (zap X.prog X.w) d vs ep∧vs.length=kvs.length:=by
 obtain⟨z,y,vs,r,hd⟩:=rd.ok I.hok
 obtain⟨ep,ha⟩:=hd.dictAt
 exact⟨z,y,vs,ep,r,ha,(Ya r).symm⟩
def KV.get{kvs:List (Key×V)}{vs:List (Key×Value)}(r:KV kvs vs){i:Nat}(e:vs[i]?=some (k,x)):∃v,kvs[i]?=some (k,v)∧RelV v x:=by
 induction r generalizing i with
 |nil=>simp at e
 | cons h t ih =>
  cases i with
  |zero =>
   simp at e
   subst e
   exact⟨_,by simp;exact Ue h.1 rfl,h.2⟩
  |succ j =>
   obtain⟨v,h1,h2⟩:=ih (i:=j) (ZR e)
   exact⟨v,ZR h1,h2⟩
def key_rel(h:(zap P w).is k v=true):RelV (kV k) v:=by
 rcases zbg h with⟨i,t,rfl,rfl⟩ | ⟨x,t,rfl,rfl⟩
 ·exact⟨t,rfl⟩
 ·exact⟨t,rfl⟩
def keys_vals{P:Ni}{w:Nk}{kvs:List (Key×V)}{vs:List (Key×Value)}{ag:Array Value}(r:KV kvs vs)(hl:vs.length=kvs.length)(h:ItemsOf (λi v=>∃k x,vs[i]?=some (k,x)∧(zap P w).is k v=true) ag vs.length):Vals (kvs.map λp=>kV p.1) ag.toList:=by
 have g:∀(i:Nat),i<kvs.length→∃v,ag.toList[i]?=some v∧RelV (kV ((kvs.map Prod.fst).getD i (.inl 0))) v:=λi hi=>by
  have ao:i<ag.size:=by rw[h.1];exact zar6 ‹_› ‹_›
  have e:ag[i]?=some ag[i]:=by simp[ao]
  obtain⟨k,x,e1,e2⟩:=h.2 i _ e
  obtain⟨v',e3,_⟩:=KV.get r e1
  refine⟨ag[i],Z2 Uh e,?_⟩
  have e4:(kvs.map Prod.fst).getD i (.inl 0)=k:=by
   rw[Zb,Qo,e3];rfl
  rw[e4]
  exact key_rel e2
 have hsz:ag.toList.length=kvs.length:=by rw[Wm,h.1];exact hl
 clear h r hl
 generalize ag.toList=l at g hsz
 induction kvs generalizing l with
 |nil =>
  have:l=[]:=List.length_eq_zero_iff.mp hsz
  subst this
  exact .nil
 | cons p t ih =>
  cases l with
  |nil=>cases hsz
  | cons u us =>
   refine .cons ?_ (ih us (λi hi=>?_) (ZR hsz))
   ·obtain ⟨v,e1,e2⟩:=g 0 ZM
    simp at e1
    subst e1
    exact e2
   ·obtain ⟨v,e1,e2⟩:=g QY (ZR hi)
    exact⟨v,ZR e1,ZR e2⟩
def zc2(hc:X.calm=true):zck X (.type "list") (λxs H Q=>Ex2 λ(d:Nb) (kvs:List (Key×V))=>Aj3 (xs=[ZZ d]) (Rd H d (.dK kvs)) (∀l,H l=none→Q (ZZ l) (upd H l (.lst (kvs.map λp=>kV p.1))))):=by
 intro a7 s σ H xs us Q I r h
 obtain⟨d,kvs,rfl,hq,q⟩:=h
 obtain⟨u,rfl,rx⟩:=vals1 r
 cases rx
 obtain⟨z,lo,vs,ep,rk,ha,hl⟩:=dk_at I hq
 refine PySem.W.kdl_call (PySem.W.kdl_dict lo) (I.ok.hd hc) ha (Z2 hl z) λh' tk ag c k e hi=>?_
 have rv:=keys_vals rk hl hi
 exact⟨ZZ _,_,I.laid (t':=tk) k QK (show zbw X.prog X.w _ h' _ (QZ _) from⟨Z2 Qa z,ag.toList,c,rv,by rw[e]⟩),rfl,q _ (I.hok.fresh QK)⟩
def zdd(hc:X.calm=true):zck X (.builtin "sorted") (λxs H Q=>Ex3 λ(d:Nb) (kvs:List (Key×V)) (zs:Nf)=>Aj4 (xs=[ZZ d]) (Rd H d (.dK kvs)) ((kvs.map λp=>kV p.1)=zs.map V.str) (∀(l:Nb) (ws:Nf),H l=none→ws.Perm zs→(zs.length<64→ws.Pairwise leS)→Q (ZZ l) (ZW H l (ws.map V.str)))):=by
 intro a7 s σ H xs us Q I r h
 obtain⟨d,kvs,zs,rfl,hq,ez,q⟩:=h
 obtain⟨u,rfl,rx⟩:=vals1 r
 cases rx
 obtain⟨z,lo,vs,ep,rk,ha,hl⟩:=dk_at I hq
 refine zez (G:=λa9=>Vals QN a9) (λE' R hR=>zgp (PySem.W.kdl_dict lo) (show X.A.in1.handled=none from I.ok.hd hc) ha (Z2 hl z) λg tk ag k le hi=>hR g tk _ k le (ez▸keys_vals rk hl hi))
  (λa9 r=>by rw[←r.length,←ez,Qa];exact z) (λa9 r A' E' s' _ _=>zee (zfc r)) λa9 ws l g tk e r p1 p2 le k he=>?_
 obtain⟨iH,q1,q2⟩:=Vals.perm p1 r
 obtain⟨ts,rfl,p3⟩:=strs_perm q1
 refine⟨ZZ l,_,I.laid (t':=tk) k le (show zbw X.prog X.w _ g _ (QZ _) from⟨?_,ws,e,q2,he⟩),rfl,q l ts (I.hok.fresh le) p3 (strs_out r q2 p2)⟩
 rw[q1.length_eq,←ez,Qa];exact z
end
section
variable{X:Cx}{a7:Ng}{σ:St}{H:Hp}{s:Nh}
def Inv.freeze(I:QT)(hd:H d=some u)(ho:s.heap.get? d=some o)(mu:Mut (QB u)):ZA (upd H d (.frz o u)) s:=by
 have ne:∀b,H b=none→b≠d:=λb e z=>by rw[z,hd]at e;cases e
 have nt:∀b xs,H b=some (.tup xs)→b≠d:=λb xs e z=>by rw[z,hd]at e;cases e;exact mu
 have nf:∀b o' u',H b=some (.frz o' u')→b≠d:=λb o' u' e z=>by rw[z,hd]at e;cases e;exact mu
 have nb:∀b ps,H b=some (.tbl ps)→b≠d:=λb ps e z=>by rw[z,hd]at e;cases e;exact mu
 have no:∀b a,H b=some (.own a)→b≠d:=λb a e z=>by rw[z,hd]at e;cases e;exact mu
 refine I.un (h':=s.heap) (t':=s.toks) ⟨λb o e _ _ _=>e,λb o e _ _ _=>⟨o.slots,e⟩,λb o e n _=>by rw[zaf (ne b n)];exact n,λb o e _=>⟨o,e⟩,λb xs e=>by rw[zaf (nt b xs e)];exact e,
  λb o' u' e=>by rw[zaf (nf b o' u' e)];exact e,λb ps e=>⟨#[],by rw[zaf (nb b ps e),e];simp⟩⟩ λb v e=>?_
 by_cases hb:b=d
 ·subst hb
  rw[zac]at e
  cases e
  exact⟨ho,(I.hok b u hd).stay (λc v _ q=>q) (λc q=>by rw[zaf (no c _ q)];exact q) λc xs q=>by rw[zaf (nt c xs q)];exact q⟩
 ·rw [zaf hb] at e
  exact(I.hok b v e).stay (λc v _ q=>q) (λc q=>by rw[zaf (no c _ q)];exact q) λc xs q=>by rw[zaf (nt c xs q)];exact q
def Inv.thaw(I:QT)(hd:H d=some (.frz o u))(hx:∀o' u',X.H₀ d≠some (.frz o' u')):ZA (upd H d u) s:=by
 have ne:∀b,H b=none→b≠d:=λb e z=>by rw[z,hd]at e;cases e
 have nt:∀b xs,H b=some (.tup xs)→b≠d:=λb xs e z=>by rw[z,hd]at e;cases e
 have nb:∀b ps,H b=some (.tbl ps)→b≠d:=λb ps e z=>by rw[z,hd]at e;cases e
 have no:∀b a,H b=some (.own a)→b≠d:=λb a e z=>by rw[z,hd]at e;cases e
 have B:=I.base
 refine⟨I.ok,I.os,I.bare,⟨B.keep,B.slot,λb o e n hx=>?_,B.there,λb xs e=>?_,λb o' u' e=>?_,λb ps e=>?_⟩,I.loc,I.cell,?_,λx c e=>?_,λp hp=>?_,λb v e=>?_,I.len⟩
 ·have:=B.free b o e n hx
  rw[zaf (ne b this)];exact this
 ·have:=B.tups b xs e
  rw[zaf (nt b xs this)];exact this
 ·have:=B.frzs b o' u' e
  have nd:b≠d:=λz=>hx o' u' (z▸e)
  rw[zaf nd];exact this
 ·obtain ⟨m,q⟩:=B.tbls b ps e
  exact⟨m,QF (nb b _ q) q⟩
 ·rw[zaf (ne _ I.free)];exact I.free
 ·rw[zaf (ne c (I.freeC x c e))];exact I.freeC x c e
 ·obtain ⟨h1,h2,h3⟩:=I.pin p hp
  exact⟨h1,QF (ne _ h2) h2,h3⟩
 ·by_cases hb:b=d
  ·subst hb
   rw[zac]at e
   cases e
   exact(show s.heap.get? b=some o∧zbw X.prog X.w H s.heap b u from I.hok b _ hd).2.stay (λc v _ q=>q) (λc q=>by rw[zaf (no c _ q)];exact q) λc xs q=>by rw[zaf (nt c xs q)];exact q
  ·rw [zaf hb] at e
   exact(I.hok b v e).stay (λc v _ q=>q) (λc q=>by rw[zaf (no c _ q)];exact q) λc xs q=>by rw[zaf (nt c xs q)];exact q
inductive Thaw(X:Cx)(R:Hp→Prop)(H':Hp):Prop
 |mk (d:Nb) (o:Obj) (u:HO) (h:H' d=some (.frz o u)) (n:∀o' u',X.H₀ d≠some (.frz o' u')) (q:R (upd H' d u)):Thaw X R H'
def tThaw(X:Cx)(t:TE):TE:=λ σ H Q=>t σ H λv H'=>Thaw X (Q v) H'
def pe_thaw(h:PE X e t):PE X e (tThaw X t):=by
 intro a7 s σ H Q I q
 refine thn (h a7 s σ H _ I q) λu s' ⟨v,H',I',r,d,o,w',e1,e2,e3⟩=>?_
 exact⟨v,_,I'.thaw e1 e2,r,e3⟩
def sThaw(X:Cx)(t:TS):TS:=λD σ H=>t {nx:=λ σ' H'=>Thaw X (D.nx σ') H',rt:=λv H'=>Thaw X (D.rt v) H',bk:=λ σ' H'=>Thaw X (D.bk σ') H',ct:=λ σ' H'=>Thaw X (D.ct σ') H'} σ H
def zh8{st:Stmt}{t:TS}(h:PS X st t):PS X st (sThaw X t):=by
 intro a7 s σ H D I q
 refine thn (h a7 s σ H _ I q) λf s' z=>?_
 cases f with
 |next=>obtain⟨σ',H',I',d,o,w',e1,e2,e3⟩:=z;exact⟨σ',_,I'.thaw e1 e2,e3⟩
 |brk=>obtain⟨σ',H',I',d,o,w',e1,e2,e3⟩:=z;exact⟨σ',_,I'.thaw e1 e2,e3⟩
 |cont=>obtain⟨σ',H',I',d,o,w',e1,e2,e3⟩:=z;exact⟨σ',_,I'.thaw e1 e2,e3⟩
 |ret u=>obtain⟨v,σ',H',I',r,d,o,w',e1,e2,e3⟩:=z;exact⟨v,σ',_,I'.thaw e1 e2,r,e3⟩
def Itd(d:Nb)(o:Obj)(kvs:List (Key×V)):It :=
 ⟨λi H=>H d=some (.frz o (.dK kvs))∧i<kvs.length,λi H x H'=>H'=H∧∃p,kvs[i]?=some p∧x=kV p.1,λi H=>H d=some (.frz o (.dK kvs))∧kvs.length≤i⟩
def frz_at(I:QT)(e:H d=some (.frz o (.dK kvs))):s.heap.get? d=some o∧zbw X.prog X.w H s.heap d (.dK kvs):=I.hok d _ e
def zhk{h:Nm}{kvs:List (Key×V)}{vs vs':List (Key×Value)}{ep ep':Nat}(ho:h.get? d=some o)(a:h.DictAt (zap P w) d vs ep)(o':Obj)(h':Nm)(cK:h'.get? d=some o):h'.DictAt (zap P w) d vs ep:=by
 obtain⟨q,es,e,r⟩:=a
 rw[ho]at e
 cases e
 exact⟨o,es,cK,r⟩
theorem turn_dict{P:Ni}{w:Nk}{K:Na}{tg:Expr}{o:Obj}{kvs:List (Key×V)}{vs:List (Key×Value)}{ep:Nat}{h0:Nm}(d it:Nb)(rk:KV kvs vs)(hl:vs.length=kvs.length)(h00:h0.get? d=some o)(jM:h0.DictAt (zap P w) d vs ep) :
  Turn P w K tg (Itd d o kvs) [it] it (λi h=>h.IsKeyIter it d i vs.length ep) where
 mem:=by simp
 obj:=λi h st b hb=>by
  have e:b=it:=by simpa using hb
  subst e
  obtain⟨o,e,c,d⟩:=st
  exact⟨o,e,λv z=>by rw[d]at z;cases z⟩
 keep:=λi h h' st k=>st.at λo e=>k it ZM o e
 item:=by
  intro X hP hw hK hc i a7 s σ H E I hf st hg
  subst hP hw hK
  obtain⟨fz,hi⟩:=hg
  obtain⟨ho,_⟩:=frz_at I fz
  have DA:s.heap.DictAt (zap X.prog X.w) d vs ep:=zhk (kvs:=kvs) (vs':=vs) (ep':=ep) h00 jM o s.heap ho
  obtain⟨f0,f1,f2,f3,f4,f5⟩:=hf it ZM
  have ao:i<vs.length:=by exact zar6 ‹_› ‹_›
  obtain⟨v',e3,_⟩:=KV.get rk (i:=i) (k:=vs[i].1) (x:=vs[i].2) (Qc ao)
  refine wpAny_pyNext_dict_item st DA (k:=vs[i].1) (v:=vs[i].2) (Qc ao) λkey h' hk ad sb=>?_
  have I1:ZA H {s with heap:=h'}:=I.turned (t':=s.toks) (λb o hb e=>(sb.2 b hb).trans e) f0 f1 f3 f4 f5
  obtain⟨o2,e,c,d2⟩:=id ad
  exact⟨key,rfl,go_of (s:={s with heap:=h'}) e c d2 ZU ⟨kV vs[i].1,H,I1,key_rel hk,⟨rfl,_,e3,rfl⟩,ad,λb hb=>(hf b hb).1⟩⟩
 done:=by
  intro X hP hw hK hc i a7 s σ H E I hf st hg
  subst hP hw hK
  obtain⟨fz,hi⟩:=hg
  obtain⟨ho,_⟩:=frz_at I fz
  have DA:s.heap.DictAt (zap X.prog X.w) d vs ep:=zhk (kvs:=kvs) (vs':=vs) (ep':=ep) h00 jM o s.heap ho
  obtain⟨f0,f1,f2,f3,f4,f5⟩:=hf it ZM
  exact wpAny_pyNext_dict_end (I.ok.hd hc) st DA (Js ZO) λh' eb=>⟨rfl,I.turned (t':=s.toks) (λb o hb e=>eb b o hb e) f0 f1 f3 f4 f5⟩
 self:=λ_ _ _ _ _ st h=>wpAny_pyIter_keyiter st h
inductive RIDi(x:V)(H:Hp)(R:It→Hp→Prop):Prop
 |mk (d:Nb) (kvs:List (Key×V)) (e:x=.ref d) (h:H d=some (.dK kvs)) (q:∀o,R (Itd d o kvs) (upd H d (.frz o (.dK kvs)))):RIDi x H R
def iDict(td:TE):TI:=λ σ H R=>td σ H λx H1=>RIDi x H1 R
def ze2{tg l:Expr}{tl:TE}(hl:PE X l tl):PI X tg l (iDict tl):=by
 intro a7 s σ H R I h
 refine thn (hl a7 s σ H _ I h) λv s1 ⟨x,H1,I1,r1,q1⟩=>?_
 obtain⟨d,kvs,e,hd,q⟩:=q1
 subst e
 cases r1
 obtain⟨z,lo,vs,ep,rk,ha,af⟩:=dk_at I1 (.inl hd)
 obtain⟨o,es,ho,r⟩:=id ha
 refine wpAny_pyIter_dict lo ha ?_
 have I2:=I1.freeze hd ho trivial
 have I3:ZA (upd H1 d (.frz o (.dK kvs))) {s1 with heap:=s1.heap.push {cls:=.type "dict_keyiterator",data:=.fields #[ZZ d,.int 0 0,.int vs.length 0,.int ep 0]}}:=I2.kept (t':=s1.toks) λb o e=>Qi _ e
 refine⟨s1.heap.objs.size,[s1.heap.objs.size],_,_,W7,I3,turn_dict d _ rk af ho ha,⟨_,Za _ rfl,rfl,rfl⟩,λb hb=>?_,q o⟩
 have e:b=s1.heap.objs.size:=by simpa using hb
 subst e
 exact I2.fpOk QK (I2.hok.fresh QK)
end
def for_dict{d:Nb}{o:Obj}{kvs:List (Key×V)}{g:TG}{tb:TS}{D:Ends}{σ:St}{H:Hp}(Pv:Nat→St→Hp→Prop)(h0:Pv 0 σ H)(hl:∀i σ H,i≤kvs.length→Pv i σ H→H d=some (.frz o (.dK kvs)))(hs:∀i p σ H,kvs[i]?=some p→Pv i σ H→g (kV p.1) σ H λ σ2 H2=>tb {D with nx:=Pv QY,ct:=Pv QY,bk:=D.nx} σ2 H2)(hd:∀σ H,Pv kvs.length σ H→D.nx σ H) :
  ∃W:Nat→Nat→St→Hp→Prop,(∃m,W 0 m σ H)∧∀i m σ H,W i m σ H →
   ((Itd d o kvs).stop i H∧D.nx σ H)∨((Itd d o kvs).go i H∧∃N:St→Hp→Prop,QO∧∀x H',(Itd d o kvs).yld i H x H'→g x σ H' λ σ2 H2=>tb {D with nx:=N,ct:=N,bk:=D.nx} σ2 H2):=by
 refine⟨λi m σ H=>m=kvs.length-i∧i≤kvs.length∧Pv i σ H,⟨kvs.length,ZM,Zc _,h0⟩,?_⟩
 rintro i m σ H ⟨rfl,hi,p⟩
 have q:=hl i σ H hi p
 by_cases ae:i<kvs.length
 ·refine .inr ⟨⟨q,ae⟩,Pv QY,fun σ' H' p'=>⟨kvs.length - QY,QP,rfl,ae,p'⟩,fun x H' y=>?_⟩
  obtain⟨e,pr,e2,rfl⟩:=y
  subst e
  exact hs i pr σ _ e2 p
 ·have e:i=kvs.length:=by exact zar3 ‹_› ‹_›
  subst e
  exact .inl ⟨⟨q,QK⟩,hd σ H p⟩
end L2
end
section
namespace Enu
open PySem PyProof.Rows
open AutoSeq1 (wpAny_loadPart')
section
variable{prog:Ni}{w:Nk}{A:No}{E:Nc}{s:Nh}
def next_item(st:s.heap.IsTupleIter j t i)(ht:s.heap.IsTuple t xs)(hx:xs[i]?=some x)(hQ:∀g,g.IsTupleIter j t QY→Heap.SameBut j s.heap g→Q x {s with heap:=g}):ZF (Builtin.SmallTypes.nextOf (ZZ j)) Q E s:=by
 obtain⟨o,ho,hc,hd⟩:=id st
 obtain⟨p,hp,_,k,hk⟩:=ht
 unfold Builtin.SmallTypes.nextOf
 refine wpAny_bind (wpAny_callSpecial?_slot (name:=Str.ofString "__next__") st.typeIs Jf (wpAny_call_entry Jf st.typeIs F.entry_tuple_iterator_next ?_ (F.args_tuple_iterator_next_1 _)))
 show wpAny _ _ (field (ZZ j) 0 >>= _) _ _ s
 refine wpAny_bind (wpAny_field ho hd (x:=.ref t) rfl ?_)
 show wpAny _ _ (if(Value.ref t==.none)=true then _ else _) _ _ s
 rw[if_neg (show ¬((Value.ref t==.none)=true) from Zh)]
 show wpAny _ _ (field (ZZ j) 1 >>= _) _ _ s
 refine wpAny_bind (wpAny_field ho hd (x:=.int i 0) rfl ?_)
 show wpAny _ _ (seqItems? (ZZ t) >>= _) _ _ s
 refine wpAny_bind (wpAny_seqItems hp hk ?_)
 simp only[Wv,hx]
 refine wpAny_bind (wpAny_setField ho hd ZM (wpAny_pure ⟨x,rfl,wpAny_pure (hQ _ ⟨_,Um _ ho (Obj.isFreed_of_fields (Ku hd _)),(Obj.cls_mapFields ..).trans hc,by rw[Ku hd];simp[rawInt]⟩ (Km ..))⟩))
def next_end(hh:A.handled=none)(st:s.heap.IsTupleIter j t i)(ht:s.heap.IsTuple t xs)(hx:xs[i]?=none)(hE:∀g e,Heap.ExtBut j s.heap g→(∃o,g.get? e=some o∧o.cls=.type "StopIteration")→E (ZZ e) {s with heap:=g}):ZF (Builtin.SmallTypes.nextOf (ZZ j)) Q E s:=by
 obtain⟨o,ho,hc,hd⟩:=id st
 obtain⟨p,hp,_,k,hk⟩:=ht
 unfold Builtin.SmallTypes.nextOf
 refine wpAny_bind (wpAny_callSpecial?_slot (name:=Str.ofString "__next__") st.typeIs Jf (wpAny_call_entry Jf st.typeIs F.entry_tuple_iterator_next ?_ (F.args_tuple_iterator_next_1 _)))
 show wpAny _ _ (field (ZZ j) 0 >>= _) _ _ s
 refine wpAny_bind (wpAny_field ho hd (x:=.ref t) rfl ?_)
 show wpAny _ _ (if(Value.ref t==.none)=true then _ else _) _ _ s
 rw[if_neg (show ¬((Value.ref t==.none)=true) from Zh)]
 show wpAny _ _ (field (ZZ j) 1 >>= _) _ _ s
 refine wpAny_bind (wpAny_field ho hd (x:=.int i 0) rfl ?_)
 show wpAny _ _ (seqItems? (ZZ t) >>= _) _ _ s
 refine wpAny_bind (wpAny_seqItems hp hk ?_)
 simp only[Wv,hx]
 refine wpAny_bind (wpAny_rule (wpAny_bind (wpAny_setField ho hd ZM ?_)))
 show wpAny _ _ (newExc (.type "StopIteration") [] >>= _) _ _ _
 refine wpAny_bind ?_
 simp only[newExc,newTuple]
 refine wpAny_bind (wpAny_newObj_type (wpAny_bind (m:=firstArgMember _ _) (wpAny_of_eq (a:=Value.none) (by first | rfl | (simp only[firstArgMember];rfl)) (wpAny_newObj_type ?_ (by size_fits)))) (by size_fits))
 simp only[raiseNew]
 refine wpAny_bind (wpAny_handled ?_)
 first | rw[show A.in1.handled=none from hh] | rw[hh]
 refine wpAny_bind (wpAny_pure (wpAny_throw (hE _ _ (((Km ..).extBut.push _).push _) ⟨_,Za _ rfl,rfl⟩)))
theorem drawsT(hh:A.handled=none)(j t:Nb)(av:t≠j)(xs:Array Value) :
  Draws prog w A j [j,t] xs.size (λi v=>xs[i]?=some v) (λi h=>h.IsTupleIter j t i∧h.IsTuple t xs) where
 live:=λ_ _ st=>let⟨o,ho,_⟩:=st.1;⟨o,ho⟩
 frame:=λi h h' st k=>⟨st.1.at λo e=>k j ZM o e,let⟨o,e,r⟩:=st.2;⟨o,k t ZM o e,r⟩⟩
 item:=λi s Q E hi st hQ=>by
  refine next_item st.1 st.2 (x:=xs[i]) (by simp[hi]) λg a b=>?_
  obtain⟨o,e,r⟩:=st.2
  exact hQ _ g s.toks (by simp[hi]) ⟨a,o,(b.2 t av).trans e,r⟩ b
 done:=λs Q E st hE=>next_end hh st.1 st.2 ZM hE
def new_tuple(t:Nb)(xs:Array Value)(n:Nat)(dct:Option Addr)(sl:Array (Option Value)) :
  Meets (Builtin.«enumerate.__new__» ⟨[.type "enumerate",ZZ t],[]⟩) (λ_ R s=>s.heap.get? t=some {cls:=.type "tuple",dict:=dct,data:=.seq xs n,slots:=sl} ∧
   R (.ok (.ret (.ref (s.heap.push {cls:=.type "tuple_iterator",data:=.fields #[ZZ t,.int 0 0]}).objs.size)))
    {s with heap:=(s.heap.push {cls:=.type "tuple_iterator",data:=.fields #[ZZ t,.int 0 0]}).push {cls:=.type "enumerate",data:=.fields #[.none,.bool false,Z6,rawInt 0,.none,.none]}}) :=
 .of_wp λprog w A R s h=>by
  obtain⟨hp,g,d,tk,os⟩:=s;obtain⟨hl,h⟩:=h
  have iW:=sub_enumerate
  have hL:Heap.IsTuple (Shared.heap ⟨hp,g,d,tk,os⟩) t xs:=⟨_,hl,rfl,n,rfl⟩
  wp_walk using wpAny_loadPart' hl
  refine wpAny_stack_any λst=>wpAny_pure ?_
  split
  ·rename_i c _ _ _ _ _
   cases(c==Value.type "enumerate")<;>(wp_walk using wpAny_loadPart' hl,wpAny_pyIter_tuple hL;exact⟨W7,h⟩)
  ·wp_walk using wpAny_loadPart' hl,wpAny_pyIter_tuple hL
   exact⟨W7,h⟩
def call_enum(hL:s.heap.IsTuple t xs)(h:∀g,IsEnum g QU s.heap.objs.size 0 .none→g.IsTupleIter s.heap.objs.size t 0→g.objs.size=s.heap.objs.size+2→QM→Q (ZZ (s.heap.objs.size+1)) {s with heap:=g}) :
  wpAny Z8 A (call (.type "enumerate") [ZZ t]) Q E s:=by
 obtain⟨⟨c,dct,dt,sl⟩,hl,hc,n,hd⟩:=hL
 replace hc:c=.type "tuple" := hc
 replace hd:dt=.seq xs n:=hd
 subst hc hd
 refine callType_new F.called_enumerate ZU (F.typeCall_enumerate_1 _) (F.newCall_enumerate_1 _) (λobj=>F.args_object_init_2 obj _) F.entry_enumerate_new (new_tuple t xs n dct sl) ⟨hl,?_⟩
 have hz:(s.heap.push {cls:=.type "tuple_iterator",data:=.fields #[ZZ t,.int 0 0]}).objs.size=s.heap.objs.size+1:=Wo ..
 show _∧_
 rw[hz]
 have he:IsEnum ((s.heap.push {cls:=.type "tuple_iterator",data:=.fields #[ZZ t,.int 0 0]}).push {cls:=.type "enumerate",data:=.fields #[.none,.bool false,Z6,rawInt 0,.none,.none]}) QU s.heap.objs.size 0 .none:=by
  have q:=Za (s.heap.push {cls:=.type "tuple_iterator",data:=.fields #[ZZ t,.int 0 0]}) (o:={cls:=.type "enumerate",data:=.fields #[.none,.bool false,Z6,rawInt 0,.none,.none]}) rfl
  rw[hz]at q;exact q
 exact⟨⟨_,he,rfl⟩,h _ he ⟨_,Qi _ (Za _ rfl),rfl,rfl⟩ (by rw[Wo,hz]) λb o x=>Qi _ (Qi _ x)⟩
end
end Enu
namespace L2
open PySem PySem.Spec PyProof.Rows Enu
def Ite(a:Nb)(K:Na):It :=
 ⟨λi H=>∃xs,SqT K H a xs∧i<xs.length,λi H x H'=>∃y t,(∀xs,SqT K H a xs→xs[i]?=some y)∧H t=none∧x=.ref t∧H'=upd H t (.tup [W6 i,y]),λi H=>∃xs,SqT K H a xs∧xs.length≤i⟩
theorem turn_enum{P:Ni}{w:Nk}{K:Na}{elts:Np}{kk:Nat}{pos:Pos}(a e j:Nb)(iz:e≠j)(haj:a≠j)(hae:e≠a) :
  Turn P w K (.Tuple elts kk pos) (Ite a K) [e,j] e (λi h=>(∃old,IsEnum h e j i old)∧h.IsTupleIter j a i) where
 mem:=by simp
 obj:=λi h st b hb=>by
  rcases Qg.mp hb with z | z
  ·subst z
   obtain⟨old,q⟩:=st.1
   exact⟨_,q,λv z=>by
    have z':Data.fields _=Data.cell v:=z
    cases z'⟩
  ·rw [Qd.mp z]
   obtain⟨o,q,c,d⟩:=st.2
   exact⟨o,q,λv z=>by rw[d]at z;cases z⟩
 keep:=λi h h' st k=>⟨let⟨old,q⟩:=st.1;⟨old,k e ZM _ q⟩,st.2.at λo q=>k j ZM o q⟩
 item:=by
  intro X hP hw hK hc i a7 s σ H E I hf st hg
  subst hP hw hK
  obtain⟨xs,hq,hi⟩:=hg
  obtain⟨a9,rv,p,hz⟩:=I.tuple hq
  have hl:=rv.length
  obtain⟨⟨old,he⟩,gW⟩:=st
  have hh:X.A.in1.handled=none:=I.ok.hd hc
  refine wpAny_pyNext_enum_itemD (drawsT hh j a haj a9.toArray) he ⟨gW,p⟩ (by simp;exact zar7 ‹_› ‹_›) iz (by simp[iz,hae]) λx g tk hP ho hs hT hsz hk=>⟨Z6,rfl,?_⟩
  have fr:∀b,b∈[e,j]→FpOk X a7 H b:=hf
  obtain⟨e0,e1,e2,e3,e4,e5⟩:=hf e ZM
  obtain⟨j0,j1,j2,j3,j4,j5⟩:=hf j ZM
  have hHe:∀b u,H b=some u→b≠e∧b≠j:=λb u q=>⟨λz=>(by rw[z,e0]at q;cases q),λz=>(by rw[z,j0]at q;cases q)⟩
  have I1:ZA H {s with heap:=g,toks:=tk+1}:=by
   refine I.step (g':=s.gens) (d':=s.drawn) (ch:=[e,j]) (λb hb=>?_) (λb o _ _ hc q _=>hk b o (λz=>hc (by simp[z])) (λz=>hc (by simp[z])) q) (λb o _ _ hc q _=>⟨o.slots,hk b o (λz=>hc (by simp[z])) (λz=>hc (by simp[z])) q⟩) (λ_ _ _ _ n=>n)
    (λb o hc q=>⟨o,hk b o (λz=>hc (by simp[z])) (λz=>hc (by simp[z])) q⟩) (λ_ _ q=>q) (λ_ _ _ q=>q) (λb ps q=>⟨#[],by rw[q];simp⟩) (λm hm=>?_) (λb u q=>?_) I.bare
   ·rcases Qg.mp hb with z | z
    ·subst z;exact⟨e3,e1,e4,e5⟩
    ·rw[Qd.mp z];exact⟨j3,j1,j4,j5⟩
   ·obtain ⟨o,es,ep,q,r⟩:=hm
    exact⟨o,es,ep,hk _ o (Zn e1) (Zn j1) q,r⟩
   ·refine (I.hok b u q).stay (fun c v hc z=>?_) (fun _ z=>z) fun _ _ z=>z
    have hcn:c≠e∧c≠j:=by
     rcases hc with rfl | hc
     ·exact hHe c u q
     ·exact hHe c _ hc
    exact hk c v hcn.1 hcn.2 z
  obtain⟨y,hy⟩:∃y,xs[i]?=some y:=⟨xs[i],Qc hi⟩
  obtain⟨u,hu,ru⟩:=rv.get hy
  have hP':a9[i]?=some x:=by simpa using hP
  rw[hu]at hP'
  have hux:u=x:=Qn hP'
  subst hux
  have hN:H s.heap.objs.size=none:=I.hok.fresh QK
  refine wpAny_letOwnedTupleGo_enum ho λg' br bf=>?_
  have nT:s.heap.objs.size≠e:=Yp (Qu he)
  have nJ:s.heap.objs.size≠j:=by obtain⟨o,q,_⟩:=gW;exact Yp (Qu q)
  have I2:ZA H {s with heap:=g',toks:=tk+1}:=Inv.turned (s:={s with heap:=g,toks:=tk+1}) (t':=tk+1) (it:=e) I1 (λb o hb q=>(bf.2 b hb).trans q) e0 e1 e3 e4 e5
  have hT':g'.get? s.heap.objs.size=some {cls:=.type "tuple",data:=.seq #[.int i tk,u]}:=(bf.2 _ nT).trans hT
  have I3:ZA (upd H s.heap.objs.size (.tup [W6 i,y])) {s with heap:=g',toks:=tk+1}:=by
   refine⟨I2.ok,I2.os,I2.bare,⟨I2.base.keep,I2.base.slot,λb o q n hx=>?_,I2.base.there,λb zs q=>?_,λb o v q=>?_,λb ps q=>?_⟩,I2.loc,I2.cell,?_,λz c q=>?_,λpp hp=>?_,λb v q=>?_,I2.len⟩
   ·have lt:b < s.heap.objs.size:=Zu (Qu q) I.sz
    rw[zaf (Zg lt)];exact I2.base.free b o q n hx
   ·have:=I2.base.tups b zs q
    rw[zaf (zab this hN)];exact this
   ·have:=I2.base.frzs b o v q
    rw[zaf (zab this hN)];exact this
   ·obtain ⟨m,z⟩:=I2.base.tbls b ps q
    exact⟨m,QF (zab z hN) z⟩
   ·rw[zaf (Zg I.lt)];exact I2.free
   ·rw[zaf (Zg (I.cl_lt z c q))];exact I2.freeC z c q
   ·obtain ⟨h1,h2,h3⟩:=I2.pin pp hp
    exact⟨h1,QF (Zg (I.pin_lt pp hp)) h2,h3⟩
   ·by_cases hb:b=s.heap.objs.size
    ·subst hb
     rw[zac]at q
     cases q
     exact⟨ZS 2,[.int i tk,u],.cons ⟨tk,rfl⟩ (.cons ru .nil),_,hT',rfl,W7⟩
    ·rw [zaf hb] at q
     exact(I2.hok b v q).stay (λc v _ z=>z) (λc z=>by rw[zaf (zab z hN)];exact z) λc zs z=>by rw[zaf (zab z hN)];exact z
  refine⟨Z6,_,I3,rfl,⟨y,_,λys hys=>by rw[I.tuple_inj hys hq];exact hy,hN,rfl,rfl⟩,⟨⟨u,ZR br⟩,?_⟩,λb hb=>?_⟩
  ·exact hs.1.at λo q=>(bf.2 j (Zn iz)).trans q
  ·rcases Qg.mp hb with z | z
   ·rw[z,zaf (Zn nT)];exact e0
   ·rw[Qd.mp z,zaf (Zn nJ)];exact j0
 done:=by
  intro X hP hw hK hc i a7 s σ H E I hf st hg
  subst hP hw hK
  obtain⟨xs,hq,hi⟩:=hg
  obtain⟨a9,rv,p,hz⟩:=I.tuple hq
  have hl:=rv.length
  obtain⟨⟨old,he⟩,gW⟩:=st
  obtain⟨j0,j1,j2,j3,j4,j5⟩:=hf j ZM
  have hh:X.A.in1.handled=none:=I.ok.hd hc
  have hT:s.TypeIs (ZZ e) "enumerate" := ⟨_,he,rfl⟩
  unfold pyNext
  refine wpAny_bind (wpAny_attempt (wpAny_callSpecial?_slot (name:=Str.ofString "__next__") hT F.slot_enumerate_next (wpAny_call_entry F.slot_enumerate_next hT F.entry_enumerate_next ?_ (F.args_enumerate_next_1 _))))
  show wpAny _ _ (field (ZZ e) 2 >>= _) _ _ _
  refine wpAny_bind (wpAny_field he rfl (x:=.ref j) rfl (wpAny_bind (next_end hh gW p (by simp;exact zex ‹_› ‹_›) λg x hg hx=>?_)))
  obtain⟨o,ho,hc⟩:=hx
  refine wpAny_bind (wpAny_isInstance (T := "StopIteration") (b:=true) ⟨o,ho,hc⟩ isSubtype_stop (wpAny_pure ⟨rfl,?_⟩))
  exact I.turned (t':=s.toks) (λb o hb q=>hg b o hb q) j0 j1 j3 j4 j5
 self:=λA i s Q E st h=>by
  obtain⟨⟨old,he⟩,_⟩:=st
  exact wpAny_pyIter_enum he h
end L2
end
section
namespace L2
open PySem PySem.Spec PyProof.Rows Enu
section
variable{X:Cx}
def iEnum(K:Na)(ta:TA):TI:=λ σ H R=>ta σ H λvs H1=>∃a,vs=[ZZ a]∧(∃xs,SqT K H1 a xs)∧R (Ite a K) H1
def pi_enum(hg:Gl X "enumerate")(hm:X.mg "enumerate" = none)(ha:PA X [a] ta)(hs:starEach [a] X.env=[(false,WB a)]:=by rfl) :
  PI X (.Tuple elts kk tpos) (.Call (.Name "enumerate" p) [a] [] pos) (iEnum X.K ta):=by
 intro a7 s σ H R I h
 refine Call_ (zgk I hg hm boot_enumerate (Wx (thn (ha pos a7 s σ H _ I h) λus s1 ⟨vs,H1,I1,r1,q1⟩=>?_) hs rfl))
 obtain⟨t,e,⟨xs,hq⟩,q⟩:=q1
 subst e
 obtain⟨u,rfl,ru⟩:=vals1 r1
 cases ru
 obtain⟨a9,rv,pl,hz⟩:=I1.tuple hq
 have lt:t<s1.heap.objs.size:=by obtain⟨o,q,_⟩:=pl;exact Qu q
 refine call_enum pl λg he gW hsz k=>wpAny_pyIter_enum he ?_
 have I2:ZA H1 {s1 with heap:=g}:=I1.kept (t':=s1.toks) k
 refine⟨s1.heap.objs.size+1,[s1.heap.objs.size+1,s1.heap.objs.size],_,_,H1,rfl,I2,turn_enum t _ _ (Kv _) (Zg lt) (Yp (Jn lt)),⟨⟨_,he⟩,gW⟩,λb hb=>?_,q⟩
 have dJ:s1.heap.objs.size≤b:=by
  rcases Qg.mp hb with z | z
  ·rw[z];exact Uj _
  ·rw[Qd.mp z];exact Qf _
 exact I1.fpOk dJ (I1.hok.fresh dJ)
def for_enum{K:Na}{a:Nb}{xs:List V}{g:TG}{tb:TS}{D:Ends}{σ:St}{H:Hp}(Pv:Nat→St→Hp→Prop)(h0:Pv 0 σ H)(hl:∀i σ H,i≤xs.length→Pv i σ H→H a=some (.tup xs))(hs:∀i x t σ H,xs[i]?=some x→Pv i σ H→H t=none→g (ZZ t) σ (upd H t (.tup [W6 i,x])) λ σ2 H2=>tb {D with nx:=Pv QY,ct:=Pv QY,bk:=D.nx} σ2 H2)(hd:∀σ H,Pv xs.length σ H→D.nx σ H) :
  ∃W:Nat→Nat→St→Hp→Prop,(∃m,W 0 m σ H)∧∀i m σ H,W i m σ H →
   ((Ite a K).stop i H∧D.nx σ H)∨((Ite a K).go i H∧∃N:St→Hp→Prop,QO∧∀x H',(Ite a K).yld i H x H'→g x σ H' λ σ2 H2=>tb {D with nx:=N,ct:=N,bk:=D.nx} σ2 H2):=by
 refine⟨λi m σ H=>m=xs.length-i∧i≤xs.length∧Pv i σ H,⟨xs.length,ZM,Zc _,h0⟩,?_⟩
 rintro i m σ H ⟨rfl,hi,p⟩
 have q:=hl i σ H hi p
 by_cases ae:i<xs.length
 ·refine .inr ⟨⟨xs,WV q,ae⟩,Pv QY,fun σ' H' p'=>⟨xs.length - QY,QP,rfl,ae,p'⟩,fun x H' y=>?_⟩
  obtain⟨z,t,e1,e3,rfl,rfl⟩:=y
  exact hs i z t σ H (e1 xs (WV q)) p e3
 ·have e:i=xs.length:=by exact zar3 ‹_› ‹_›
  subst e
  exact .inl ⟨⟨xs,WV q,QK⟩,hd σ H p⟩
def Its(x:Str):It:=⟨λi _=>i<x.cps.size,λi H v H'=>H'=H∧∃c,x.cps[i]?=some c∧v=.str ⟨#[c]⟩,λi _=>x.cps.size≤i⟩
theorem turn_str{P:Ni}{w:Nk}{K:Na}{tg:Expr}{x:Str}{t:Tok}(it:Nb):Turn P w K tg (Its x) [it] it (λi h=>h.IsStrIter it "str_ascii_iterator" x t i) where
 mem:=by simp
 obj:=λi h st b hb=>by
  rw[Qd.mp hb]
  obtain⟨o,e,c,d⟩:=st
  exact⟨o,e,λv z=>by rw[d]at z;cases z⟩
 keep:=λi h h' st k=>let⟨o,ho,r⟩:=st;⟨o,k it ZM o ho,r⟩
 item:=by
  intro X hP hw hK hc i a7 s σ H E I hf st hg
  subst hP hw hK
  obtain⟨f0,f1,f2,f3,f4,f5⟩:=hf it ZM
  have hi:i<x.cps.size:=hg
  refine wpAny_pyNext_ascii_item st (c:=x.cps[i]) (by simp[hi]) λh' ad sb=>?_
  have I1:ZA H {s with heap:=h',toks:=s.toks+1}:=I.turned (λb o hb e=>(sb.2 b hb).trans e) f0 f1 f3 f4 f5
  obtain⟨o,e,c,d⟩:=id ad
  exact⟨W7,go_of (s:={s with heap:=h',toks:=s.toks+1}) e c d ZU ⟨.str ⟨#[x.cps[i]]⟩,H,I1,⟨W7⟩,⟨rfl,_,by simp[hi],rfl⟩,ad,λb hb=>(hf b hb).1⟩⟩
 done:=by
  intro X hP hw hK hc i a7 s σ H E I hf st hg
  subst hP hw hK
  obtain⟨f0,f1,f2,f3,f4,f5⟩:=hf it ZM
  have hi:x.cps.size≤i:=hg
  exact wpAny_pyNext_ascii_end (I.ok.hd hc) st (by simp[hi]) λh' eb=>⟨rfl,I.turned (t':=s.toks) (λb o hb e=>eb b o hb e) f0 f1 f3 f4 f5⟩
 self:=λ_ _ _ _ _ st h=>wpAny_pyIter_striter_ascii st h
def iStr(tl:TE):TI:=λ σ H R=>tl σ H λv H1=>∃x:Str,v=.str x∧x.cps.all (· < 128)=true∧R (Its x) H1
def pi_str{tg l:Expr}{tl:TE}(hl:PE X l tl):PI X tg l (iStr tl):=by
 intro a7 s σ H R I h
 refine thn (hl a7 s σ H _ I h) λv s1 ⟨y,H1,I1,r1,q1⟩=>?_
 obtain⟨x,e,ha,q⟩:=q1
 subst e
 obtain⟨t,rfl⟩:=r1
 refine wpAny_pyIter_ascii ha ?_
 refine⟨s1.heap.objs.size,[s1.heap.objs.size],_,_,H1,rfl,I1.kept (t':=s1.toks) λb o e=>Qi _ e,turn_str (t:=t) _,⟨_,Za _ rfl,rfl,rfl⟩,λb hb=>?_,q⟩
 rw[Qd.mp hb]
 exact I1.fpOk QK (I1.hok.fresh QK)
def op_le_str:OpR X (compareOp .LtE) (λx y H Q=>Ex2 λi j=>Aj3 (x=.str i) (y=.str j) (Q (.bl (!decide (j.cps.toList<i.cps.toList))) H)):=by
 intro a7 s σ H x y v u Q I rx ry h
 obtain⟨i,j,rfl,rfl,q⟩:=h
 obtain⟨t,rfl⟩:=rx
 obtain⟨t',rfl⟩:=ry
 exact PySem.P.le_str (zbc I q rfl)
end
end L2
end
section
namespace L2
open PySem PySem.Spec PyProof.Rows
section
variable{X:Cx}{a7:Ng}{σ:St}{H:Hp}{s:Nh}
inductive RrNil(neg:Bool)(K:Na)(x:V)(y:V)(H:Hp)(Q:VK):Prop
 |mk (l:_) (b:_) (xs:_) (h0:x=.ref l) (h1:y=.ref b) (h2:SqL K H l xs) (h3:SqL K H b []) (h4:Q (.bl (if neg then !xs.isEmpty else xs.isEmpty)) H):RrNil neg K x y H Q
def rNil(neg:Bool)(K:Na):R2:=λx y H Q=>RrNil neg K x y H Q
def zdm(hu:X.A.units<cLine):OpR X (compareOp .NotEq) (rNil true X.K):=by
 intro a7 s σ H x y v u Q I rx ry h
 obtain⟨l,b,xs,rfl,rfl,h1,h2,q⟩:=h
 cases rx;cases ry
 obtain⟨a9,r,pl,_⟩:=I.list h1
 obtain⟨aH,r2,i5,_⟩:=I.list h2
 cases r2
 cases r with
 |nil=>exact SeqAt.RcNeAt.lists (e:=λ_=>true) pl.isList i5.isList rfl hu (λj h1 _=>by simp at h1) _ _ _ _ ⟨.bl false,H,I,rfl,q⟩
 |cons a t=>exact SeqAt.RcNeAt.lists_lengths pl.isList i5.isList ZM hu _ _ _ _ ⟨.bl true,H,I,rfl,q⟩
def op_mul_str:OpR X (binaryOp .Mult) (λx y H Q=>Ex2 λ(z:Str) (n:Nat)=>Aj5 (x=.str z) (y=.int n) (z.length≤1000) (n≤1000) (Q (.str (Txt.mul z n)) H)):=by
 intro a7 s σ H x y v u Q I rx ry h
 obtain⟨z,n,rfl,rfl,h1,h2,q⟩:=h
 obtain⟨t,rfl⟩:=rx
 obtain⟨t',rfl⟩:=ry
 exact SB.mul (mulOk_of 1000 1000 h1 QL QL ZU ZU) λt' k=>⟨.str _,H,I.tok _,⟨t',rfl⟩,q⟩
theorem argBest_lt:∀k,argBest bt k≤k
 |0=>Qf _
 |k+1=>by
  show(if bt (k+1) (argBest bt k)=true then k+1 else argBest bt k)≤k+1
  split
  ·exact Qf _
  ·exact Nat.le_succ_of_le (argBest_lt k)
theorem zdc(f:Nat→List Nat):∀k j,j≤k→¬f j<f (argBest (λi j=>decide (f i<f j)) k)
 |0,j,h=>by
  have:j=0:=by lia
  subst this
  exact Wu _
 | k+1,j,h=>by
  show ¬f j<f (if decide (f (k+1)<f (argBest (λi j=>decide (f i<f j)) k))=true then k+1 else argBest (λi j=>decide (f i<f j)) k)
  by_cases ae:f (k+1)<f (argBest (λi j=>decide (f i<f j)) k)
  ·rw [if_pos (WW ae)]
   by_cases hj:j=k+1
   ·subst hj;exact Wu _
   ·intro z
    exact zdc f k j QL (List.lt_trans z ae)
  ·rw [if_neg (ZR ae)]
   by_cases hj:j=k+1
   ·subst hj;exact ae
   ·exact zdc f k j QL
def ziy(hc:X.calm=true):zck X (.builtin "min") (λxs H Q=>Ex2 λ(p:Nb) (zs:Nf)=>Aj4 (xs=[ZZ p]) (SqL X.K H p QN) (zs≠[]) (∀z∈zs,(∀y∈zs,leS z y)→Q (.str z) H)):=by
 intro a7 s σ H xs us Q I r h
 obtain⟨p,zs,rfl,hq,av,q⟩:=h
 obtain⟨u,rfl,rx⟩:=vals1 r
 cases rx
 have dy:0<zs.length:=Uo.mpr av
 refine call_min_walk (zfs hc I hq λa9 It h1 rv W st lt keep=>⟨It,_,_,_,_,_,λi j=>decide ((zs.getD i Str.empty).cps.toList<(zs.getD j Str.empty).cps.toList),rfl,W,st,lt,?_,λi j vi vj s' Q' E' hi hj dw=>?_,λv h' tk hv k=>?_⟩)
 ·have:=rv.length
  rw[Qa]at this
  rw[Qx];exact zar7 ‹_› ‹_›
 ·have gs:∀ (i:Nat) (v:Value),a9.toArray[i]?=some v→∃ t,v=.str (zs.getD i Str.empty) t:=fun i v e=>by
   have e':a9[i]?=some v:=by simpa using e
   have hi:i<a9.length:=(Qz.mp e').1
   have hl:=rv.length
   rw[Qa]at hl
   have ao:i<zs.length:=by exact zar6 ‹_› ‹_›
   obtain⟨u,e2,t,e3⟩:=rv.get (i:=i) (x:=.str zs[i]) (by simp[ao])
   rw[e']at e2
   cases e2
   exact⟨t,by rw[e3];simp[List.getD,ao]⟩
  obtain⟨t1,rfl⟩:=gs i vi hi
  obtain⟨t2,rfl⟩:=gs j vj hj
  exact lt_str dw
 ·have hl:=rv.length
  rw[Qa]at hl
  have hk:=argBest_lt (bt:=λi j=>decide ((zs.getD i Str.empty).cps.toList<(zs.getD j Str.empty).cps.toList)) (a9.toArray.size-1)
  generalize hb:argBest (λi j=>decide ((zs.getD i Str.empty).cps.toList<(zs.getD j Str.empty).cps.toList)) (a9.toArray.size-1)=b at hv hk
  have aZ:b<zs.length:=by rw[Qx]at hk;lia
  have aT:a9[b]?=some v:=by simpa using hv
  obtain⟨u,e2,t,e3⟩:=rv.get (i:=b) (x:=.str zs[b]) (by simp[aZ])
  rw[aT]at e2
  cases e2
  refine⟨.str zs[b],H,keep h' tk k,⟨t,e3⟩,q _ (Qs aZ) λy hy=>?_⟩
  obtain⟨j,hj,ej⟩:=Zv hy
  have:=zdc (λi=>(zs.getD i Str.empty).cps.toList) (a9.toArray.size-1) j (by rw[Qx];lia)
  rw[hb]at this
  have g1:zs.getD b Str.empty=zs[b]:=by simp[List.getD,aZ]
  have g2:zs.getD j Str.empty=y:=by simp[List.getD,hj,ej]
  rw[g1,g2]at this
  exact this
end
section
variable{X:Cx}
def zfl:zck X (.type "dict") (λxs H Q=>Ex2 λ(d:Nb) (kvs:List (Key×V))=>Aj3 (xs=[ZZ d]) (Rd H d (.dK kvs)) (∀l,H l=none→Q (ZZ l) (upd H l (.dK kvs)))):=by
 intro a7 s σ H xs us Q I r h
 obtain⟨d,kvs,rfl,hq,q⟩:=h
 obtain⟨u,rfl,rx⟩:=vals1 r
 cases rx
 obtain⟨z,lo,vs,ep,rk,ha,hl⟩:=dk_at I hq
 refine kt_call_dict lo ha.dictOf (Z2 hl z) λh' hd sb=>?_
 have lt:d<s.heap.objs.size:=ha.lt_size
 have k:∀b o,s.heap.get? b=some o→h'.get? b=some o:=λb o e=>(sb.2 b (Zg (Qu e))).trans (Qi _ e)
 have nS:(s.heap.objs.size==sysModules)=false:=beq_eq_false_iff_ne.mpr (Yp I.big)
 exact⟨ZZ _,_,I.laid (t':=s.toks) k QK (show zbw X.prog X.w _ h' _ (.dK kvs) from⟨z,nS,vs,rk,hd⟩),rfl,q _ (I.hok.fresh QK)⟩
def eqV_self{x:V}(f:zdf x=true):eqV x x=true:=by
 cases x with
 |non=>rfl
 |bl b=>exact beq_self_eq_true b
 |int i=>exact beq_self_eq_true i
 |str z=>exact beq_self_eq_true z
 |_=>cases f
end
end L2
end
section
namespace SetT
open PySem PyProof.Rows PySem.Spec
section
variable{prog:Ni}{w:Nk}{A:No}{R:Nu}{I:Nb}{fp wr:Nl}{G:Array GenState→Array GenState→Prop}{n:Nat}{P:Nat→Value→Prop}{St:Nat→Shared→Prop}
def loop(W:WalksS prog w A.in1 I fp wr G n P St)(S:Nb)(dM:S∉fp)(zs:Nf)(hz:zs.length=n)(nd:zs.Nodup)(di:∀i v,P i v→∃t,v=.str (zs.getD i Str.empty) t)(hb:n+1<scanBound) :
  ∀(k i:Nat) (s:Nh),n-i=k→i≤n→St i s→s.heap.SetOf (PySem.strKind prog w) S (λx=>decide (x∈zs.take i)) i →
   (∀s',Moved (S::wr) G s s'→s'.heap.SetOf (PySem.strKind prog w) S (λx=>decide (x∈zs.take n)) n→R (.ok (.ret .none)) s')→codeAny Z8 A (.builtin "set.update.loop" ⟨[ZZ S,ZZ I],[]⟩) R s:=by
 have jH:S∉wr:=λh=>dM (W.sub _ h)
 have sub:∀b∈wr,b∈S::wr:=λb q=>Qe _ q
 intro k
 induction k with
 |zero =>
  intro i s hk hi ap hS hR
  obtain rfl:i=n:=by lia
  refine codeAny_builtin F.entry_set_update_loop ?_
  rw[Yu F.plain_set_update_loop _]
  show wpAny _ A.in1 (pyNext (ZZ I) >>= _) _ _ s
  refine wpAny_bind (W.done s _ _ ap λs' hm=>(show wpAny _ A.in1 (ret Value.none) _ _ s' from wpAny_pure (hR s' (hm.mono sub) ?_)))
  obtain⟨o,es,ep,t,ho,rest⟩:=hS
  exact⟨o,es,ep,t,hm.heap S _ jH ho,rest⟩
 | succ k ih =>
  intro i s hk hi ap hS hR
  have lt:i<n:=by lia
  refine codeAny_builtin F.entry_set_update_loop ?_
  rw[Yu F.plain_set_update_loop _]
  show wpAny _ A.in1 (pyNext (ZZ I) >>= _) _ _ s
  refine wpAny_bind (W.item i s _ _ lt ap λv s' hP dl hm=>?_)
  obtain⟨t,rfl⟩:=di i v hP
  have ao:i<zs.length:=by exact zar6 ‹_› ‹_›
  have eg:zs.getD i Str.empty=zs[i]:=by simp[List.getD,ao]
  rw[eg]
  have cM:s'.heap.SetOf (PySem.strKind prog w) S (λx=>decide (x∈zs.take i)) i:=by
   obtain⟨o,es,ep,tb,ho,rest⟩:=hS
   exact⟨o,es,ep,tb,hm.heap S _ jH ho,rest⟩
  show wpAny _ A.in1 (holding [Value.str zs[i] t] (setAdd S (.str zs[i] t)) >>= _) _ _ s'
  refine wpAny_bind (wpAny_holding ?_)
  unfold setAdd
  refine wpAny_holding (wpAny_bind ((PySem.strKind prog w).pyHash (k:=zs[i]) (by simp[PySem.strKind,Value.isStrOf]) ?_))
  have nin:decide (zs[i]∈zs.take i)=false:=decide_eq_false λq=>by
   obtain⟨j,hj,e⟩:=Zv q
   rw[Zt]at hj
   rw[Ut]at e
   have:=(Wa nd).mp e
   lia
  refine wpAny_setAddHashed_of (knd:=PySem.strKind prog w) (k:=zs[i]) (by simp[PySem.strKind,Value.isStrOf]) rfl cM QL λg sb hS2=>?_
  have hSi:g.SetOf (PySem.strKind prog w) S (λx=>decide (x∈zs.take QY)) QY:=by
   refine SetOf_congr hS2 (λx=>?_) (by simp only[nin];simp)
   rw[Yy]
   simp only[Xj,decide_eq_true_eq]
   rw[Ql ao,Qk,Qd]
  refine wpAny_pure ⟨plainId_quiet F.plain_set_update_loop _,ih QY _ QL lt (W.frame _ s' _ _ dl (by first | exact Qf _ | exact Uj _) λb q o e=>?_) hSi λs2 bC hS3=>hR s2 (Moved.trans W.gtrans ((hm.mono sub).then_heap (by first | exact Qf _ | exact Uj _) λb o q e=>?_) bC) hS3⟩
  ·rw[sb.2 b (λz:b=S=>dM (by rw[←z];exact q))];exact e
  ·rw[sb.2 b (λz:b=S=>q (Z2 z Qb))];exact e
end
section
variable{prog:Ni}{w:Nk}{A:No}{E:Nc}{s:Nh}
def call_set{l:Nb}{a9:Nj}{zs:Nf}{Q:Nc}(hh:A.handled=none)(hl:s.heap.IsList l a9.toArray)(hz:zs.length=a9.length)(nd:zs.Nodup)(di:∀(i:Nat) (v:Value),a9[i]?=some v→∃t,v=.str (zs.getD i Str.empty) t)(hb:a9.length+1<scanBound)(h:∀(g:Nm) (tk:Nat),g.SetOf (PySem.strKind prog w) s.heap.objs.size (λx=>decide (x∈zs)) zs.length→QM→Q Z6 {s with heap:=g,toks:=tk}) :
  wpAny Z8 A (call (.type "set") [ZZ l]) Q E s:=by
 obtain⟨c,tl,hmro⟩:=Wp.mro
 have hmade:=Wp.made
 have iW:=Wp.sub
 refine wpAny_call (codeAny_of_tree (show wpAny _ _ (callAny (.type "set") _) _ _ _ from wpAny_pure ⟨Code.quiet_builtin _ (by decide +kernel),codeAny_builtin PySem.F.entry_type_call ?_⟩))
 rw[Around.under_plain (weight_type_call_type "set" [ZZ l] []) rfl]
 have h1:=Wp.notType
 have h2:=Wp.canCreate
 have kL:=PySem.F.typeCall_set_1 (ZZ l)
 repeat(any_goals (first | assumption | wp_step))
 refine codeAny_mono (code_set_new_1 (ZZ l) (E:=E) (Q₁:=λobj s₁=>∃led:Bool,obj=.ref s.heap.objs.size∧s₁={s with heap:=s.heap.push {cls:=.type "set",dict:=none,data:=.set #[] 0 (.fresh 0 0 led)}}) λled=>⟨led,rfl,rfl⟩) λr s1 hr=>?_
 cases r with
 |error e=>exact hr
 | ok fl =>
  cases fl with
  | ret obj =>
   obtain⟨led,rfl,rfl⟩:=hr
   have hS:(s.heap.push {cls:=.type "set",dict:=none,data:=.set #[] 0 (.fresh 0 0 led)}).get? s.heap.objs.size=some {cls:=.type "set",dict:=none,data:=.set #[] 0 (.fresh 0 0 led)}:=Za _ rfl
   have hT:Shared.TypeIs {s with heap:=s.heap.push {cls:=.type "set",dict:=none,data:=.set #[] 0 (.fresh 0 0 led)}} Z6 "set" := ⟨_,hS,rfl⟩
   have hli:=Wp.init.lookup
   have hbi:=Wp.init.bind Z6
   repeat(any_goals (first | assumption | wp_step))
   refine codeAny_mono (codeAny_call_builtin (R:=wants (λr s₂=>r=.none∧∃g tk,s₂={s with heap:=g,toks:=tk}∧g.SetOf (PySem.strKind prog w) s.heap.objs.size (λx=>decide (x∈zs)) zs.length∧QM) E)
    Wp.init.plain PySem.F.entry_set_init (check_set_init_1 hT ?_)) λr2 s2 bh=>?_
   ·obtain ⟨ol,oV,gv,nl,kJ⟩:=hl
    obtain⟨ocls,odict,odata,oslots⟩:=ol
    simp only at gv kJ
    subst gv;subst kJ
    have rM:(s.heap.push {cls:=.type "set",dict:=none,data:=.set #[] 0 (.fresh 0 0 led)}).get? l=some {cls:=.type "list",dict:=odict,data:=.seq a9.toArray nl,slots:=oslots}:=Qi _ oV
    have hsls:=PySem.F.sub_list_set
    have hslf:=PySem.F.sub_list_frozenset
    have av:(Value.type "list" == Value.type "dict")=false:=by decide
    have aJ:(s.heap.push {cls:=.type "set",dict:=none,data:=.set #[] 0 (.fresh 0 0 led)}).IsList l a9.toArray:=⟨_,rM,rfl,nl,rfl⟩
    unfold Builtin.«set.__init__» noKeywords Builtin.Frozenset.updateFrom
    generalize hPI:pyIter=PI
    wp_walk
    subst hPI
    refine wpAny_pyIter_list aJ (wpAny_bind (wpAny_runValue ?_))
    have hlS:l<s.heap.objs.size:=Qu oV
    have hh3:A.in1.in1.in1.handled=none:=by simp[hh]
    have z1:(s.heap.push {cls:=.type "set",dict:=none,data:=.set #[] 0 (.fresh 0 0 led)}).objs.size=s.heap.objs.size+1:=Wo ..
    have rR:l≠(s.heap.push {cls:=.type "set",dict:=none,data:=.set #[] 0 (.fresh 0 0 led)}).objs.size:=by rw[z1];exact Zg (Jn hlS)
    have dM:s.heap.objs.size∉[(s.heap.push {cls:=.type "set",dict:=none,data:=.set #[] 0 (.fresh 0 0 led)}).objs.size,l]:=by
     rw[z1];simp only[Qg,List.not_mem_nil,or_false,not_or]
     exact⟨Zg (Yz _),Yp hlS⟩
    refine loop ((Walks.list hh3 _ l rR a9.toArray).toS) s.heap.objs.size dM zs (Z2 Qx hz) nd (λi v hv=>di i v (ZR hv)) (Z2 Qx hb) _ 0 _ rfl (Zc _) ⟨⟨_,Za _ rfl,rfl,rfl⟩,(aJ.push _)⟩ ?_ ?_
    ·exact SetOf_congr ((setObjOf_fresh (knd:=PySem.strKind prog w) led).setOf (Qi _ hS) (by unfold scanBound;exact Nat.le_add_left _ _)) (λ_=>by simp) rfl
    ·intro s' hm cM
     obtain⟨g,g',d',pY,qg⟩:=s'
     have eg:g'=s.gens:=hm.gens
     have ed:d'=s.drawn:=hm.drawn
     have eo:qg=s.os:=hm.os
     subst eg;subst ed;subst eo
     show wpAny _ _ _ _ _ _
     refine wpAny_pure (show wpAny _ _ (ret Value.none) _ _ _ from wpAny_pure ⟨rfl,g,pY,rfl,?_,λb o e=>?_⟩)
     ·have e1:a9.toArray.size=zs.length:=by rw [Qx,hz]
      rw[e1,Qt QK]at cM
      exact cM
     ·have kN:b < s.heap.objs.size:=Qu e
      refine hm.heap b o ?_ (Qi _ (Qi _ e))
      rw[z1]
      simp only[Qg,List.not_mem_nil,or_false,not_or]
      exact⟨Zg kN,Zg (Jn kN)⟩
   ·cases r2 with
    |error e=>exact bh
    | ok fl2 =>
     cases fl2 with
     |ret r =>
      obtain⟨rfl,g,tk,rfl,cM,mr⟩:=bh
      repeat(any_goals (first | assumption | wp_step))
      exact h _ _ cM mr
     |_=>exact bh.elim
  |_=>exact hr.elim
end
end SetT
namespace L2
open PySem PySem.Spec PyProof.Rows
def setO(P:Ni)(w:Nk)(a:Nb)(zs:Nf):HO:=.ext λh=>h.SetOf (PySem.strKind P w) a (λx=>decide (x∈zs)) zs.length
section
variable{X:Cx}
def zix(hc:X.calm=true):zck X (.type "set") (λxs H Q=>Ex2 λ(p:Nb) (zs:Nf)=>Aj5 (xs=[ZZ p]) (SqL X.K H p QN) zs.Nodup (zs.length≤1000) (∀l,H l=none→Q (ZZ l) (upd H l (setO X.prog X.w l zs)))):=by
 intro a7 s σ H xs us Q I r h
 obtain⟨p,zs,rfl,hq,nd,hz,q⟩:=h
 obtain⟨u,rfl,rx⟩:=vals1 r
 cases rx
 obtain⟨a9,rv,pl,_⟩:=I.list hq
 have hl:=rv.length
 rw[Qa]at hl
 refine SetT.call_set (zs:=zs) (I.ok.hd hc) pl.isList hl nd (λi v e=>?_) (by unfold scanBound;lia) λg tk hS k=>?_
 ·have hi:i < a9.length:=(Qz.mp e).1
  have ao:i<zs.length:=by exact zar6 ‹_› ‹_›
  obtain⟨u,e2,t,e3⟩:=rv.get (i:=i) (x:=.str zs[i]) (by simp[ao])
  rw[e]at e2
  cases e2
  exact⟨t,by rw[e3];simp[List.getD,ao]⟩
 ·refine ⟨ZZ _,_,I.laid (t':=tk) k QK (show zbw X.prog X.w _ g _ (setO X.prog X.w s.heap.objs.size zs) from ⟨hS,?_,fun h1 h2 p1 k1=>?_⟩),rfl,q _ (I.hok.fresh QK)⟩
  ·obtain ⟨o,_,_,_,e,_⟩:=hS
   exact⟨o,e⟩
  ·obtain ⟨o,es,ep,t,e,rest⟩:=p1
   exact⟨o,es,ep,t,k1 o e,rest⟩
def zi1:zck X (.builtin "len") (λxs H Q=>Ex2 λ(p:Nb) (zs:Nf)=>Aj4 (xs=[ZZ p]) (H p=some (setO X.prog X.w p zs)) (zs.length≤1000) (Q (.int zs.length) H)):=by
 intro a7 s σ H xs us Q I r h
 obtain⟨p,zs,rfl,hq,hz,q⟩:=h
 obtain⟨u,rfl,rx⟩:=vals1 r
 cases rx
 obtain⟨⟨o,es,ep,t,ho,hex,hd,gr,hmem,hb,hf,hn⟩,_⟩:=(show zbw X.prog X.w H s.heap p (setO X.prog X.w p zs) from I.hok p _ hq)
 exact call_len_set ho hex hd hf (by rw[hn];lia) ⟨.int zs.length,H,I.tok _,⟨_,by rw[hn]⟩,q⟩
end
end L2
end
section
namespace DictR
open PySem PyProof.Rows PySem.Spec
def miss_keys:typeLookup (.type "list") "keys" = pure none:=am_miss_of_fast (by decide +kernel)
section
variable{prog:Ni}{w:Nk}{A:No}{E:Nc}{s:Nh}
def no_keys{a:Nb}{xs:Array Value}{k:Nat}{sl:Array (Option Value)}{Q:Option Value→Shared→Prop}(hx:s.heap.get? a=some {cls:=.type "list",dict:=none,data:=.seq xs k,slots:=sl})(hA:A.handled=none)(h:∀g tk,QM→Q none {s with heap:=g,toks:=tk}):ZF (getAttr? (ZZ a) "keys") Q E s:=by
 obtain⟨hp,g,d,tk,os⟩:=s
 have hT:∀t',(⟨hp,g,d,t',os⟩:Shared).TypeIs (ZZ a) "list" := λ_=>⟨_,hx,rfl⟩
 have f1:=sub_AttributeError
 have f3:=Xn.lookup
 have f4:=Xn.bind (ZZ a)
 have f5:=am_list_getattr_none
 unfold getAttr? getAttrBy? getAttrBy
 repeat(any_goals (first | assumption | exact hT _ | ((with_reducible show wpAny _ _ (call (Value.builtin "list.__getattribute__") _ _) _ _ _);refine call_meets Xn (hT _) am_entry_list_getattribute (F.args_list_getattribute_2 _ _) (meets_getattribute_miss_list a xs k sl "keys" _ miss_keys (by decide +kernel) (by decide +kernel)) ⟨hx,hA,λh' pY e gk=>?_⟩) | wp_step))
 obtain⟨t',u',he⟩:=gk.there
 show wpAny _ _ (getattributeRaised _ _ _ _ _ _ _) _ _ _
 unfold getattributeRaised
 repeat(any_goals (first | assumption | wp_step))
 exact h h' pY gk.keeps
def zhj:entryFor table "dict.update.loop" = some Builtin.«dict.update.loop»:=entryFor_of_tree (by kernel_rfl)
def zdx:plainId "dict.update.loop" = true:=by decide +kernel
structure Row(K:Type) where
 a:Addr
 o:Obj
 k:K
 key:Value
 val:Value
 n:Nat
variable{K:Type}[DecidableEq K]{knd:KeyKind prog w K}
def RowAt(knd:KeyKind prog w K)(h:Nm)(r:Row K):Prop:=h.get? r.a=some r.o∧r.o.cls=.type "tuple" ∧ r.o.data=.seq #[r.key,r.val] r.n∧knd.is r.k r.key=true
def stored_new{kvs:List (K×Value)}(h:k∉kvs.map (·.1)):stored kvs k v=kvs++[(k,v)]:=by
 unfold stored
 rw[if_neg]
 intro z
 obtain⟨p,hp,e⟩:=Yh.mp z
 exact h (Qj.mpr ⟨p,hp,of_decide_eq_true e⟩)
def loop{R:Nu}{I l:Nb}(hh:A.handled=none)(rows:List (Row K))(d:Nb)(tz:d≠I)(kJ:d≠l)(hlI:l≠I)(hr:∀ r∈rows,r.a≠d∧r.a≠I)(nd:(rows.map (·.k)).Nodup)(hz:rows.length≤sizeLine) :
  ∀(m i:Nat) (s:Nh),rows.length-i=m→i≤rows.length→s.heap.IsListIter I l i→s.heap.IsList l (rows.map λr=>Value.ref r.a).toArray→(∀r∈rows,RowAt knd s.heap r)→s.heap.DictOf knd d ((rows.take i).map λr=>(r.k,r.val)) →
   (∀g tk,(∀b o,b≠d→b≠I→s.heap.get? b=some o→g.get? b=some o)→g.DictOf knd d (rows.map λr=>(r.k,r.val))→R (.ok (.ret .none)) {s with heap:=g,toks:=tk}) →
   codeAny Z8 A (.builtin "dict.update.loop" ⟨[ZZ d,ZZ I,rawInt i,.none],[]⟩) R s:=by
 intro m
 induction m with
 |zero =>
  intro i s hm hi st hl hR hd hQ
  obtain rfl:i=rows.length:=by lia
  refine codeAny_builtin zhj ?_
  rw[Yu zdx _]
  show wpAny _ A.in1 (pyNext (ZZ I) >>= _) _ _ s
  refine wpAny_bind (wpAny_pyNext_list_end (show A.in1.handled=none from hh) st hl ZM λg eb=>?_)
  show wpAny _ A.in1 (Builtin.Dict.addKeywords d [] >>= λ_=>ret Value.none) _ _ _
  refine wpAny_bind (show wpAny _ A.in1 (pure ()) _ _ _ from wpAny_pure (wpAny_pure (hQ g s.toks (λb o _ hb e=>eb b o hb e) ?_)))
  rw[Qt QK]at hd
  exact hd.extBut eb tz
 | succ m ih =>
  intro i s hm hi st hl hR hd hQ
  have lt:i<rows.length:=by lia
  obtain⟨e1,e2,e3,e4⟩:=hR rows[i] (Qs lt)
  obtain⟨n1,n2⟩:=hr rows[i] (Qs lt)
  refine codeAny_builtin zhj ?_
  rw[Yu zdx _]
  show wpAny _ A.in1 (pyNext (ZZ I) >>= _) _ _ s
  refine wpAny_bind (wpAny_pyNext_list_item st hl (x:=.ref rows[i].a) (by simp[lt]) λg ad sb=>?_)
  have k1:∀b o,b≠I→s.heap.get? b=some o→g.get? b=some o:=λb o hb e=>(sb.2 b hb).trans e
  have kK:g.DictOf knd d ((rows.take i).map λr=>(r.k,r.val)):=hd.sameBut sb tz
  refine wpAny_bind (wpAny_holding ?_)
  refine wpAny_bind (wpAny_tryCatch ?_)
  show wpAny _ A.in1 (Builtin.Dict.pairItems (.ref rows[i].a)) _ _ _
  unfold Builtin.Dict.pairItems
  refine wpAny_bind (wpAny_typeOf (T := "tuple") ⟨_,k1 _ _ n2 e1,e2⟩ ?_)
  rw[if_pos ZU]
  refine wpAny_bind (wpAny_seqItems (k1 _ _ n2 e1) e3 (wpAny_pure ?_))
  show wpAny _ A.in1 (holding [rows[i].key,rows[i].val] (dictSet d rows[i].key rows[i].val)) _ _ _
  have nk:rows[i].k∉((rows.take i).map λr=>(r.k,r.val)).map (·.1):=by
   rw[Zk]
   intro q
   obtain⟨r,am,bh⟩:=Qj.mp q
   obtain⟨j,hj,ej⟩:=Zv am
   rw[Zt]at hj
   rw[Ut]at ej
   have kF:j<rows.length:=by lia
   have:(rows.map (·.k))[j]'(ZR kF)=(rows.map (·.k))[i]'(ZR lt):=by
    rw[Zl,Zl,ej];exact bh
   have:=(Wa nd).mp this
   lia
  refine wpAny_holding (wpAny_dictSet_pairs (knd:=knd) e4 kK (λg2 nr sb2=>?_) (by rw[Qa,Zt];lia))
  rw[stored_new nk]at nr
  have np:g2.DictOf knd d ((rows.take QY).map λr=>(r.k,r.val)):=by
   rw[Ql lt,Qr];exact nr
  have k2:∀b o,b≠d→b≠I→s.heap.get? b=some o→g2.get? b=some o:=λb o gA aZ e=>(sb2.2 b gA).trans (k1 b o aZ e)
  have hc:((i:Int)+1)=((i+1:Nat):Int):=by push_cast;rfl
  refine wpAny_pure ⟨plainId_quiet zdx _,?_⟩
  rw[hc]
  refine ih QY _ QL lt ?_ ?_ (λr lL=>?_) np λg3 tk3 k3 tD=>?_
  ·obtain ⟨o,q,z⟩:=ad
   exact⟨o,(sb2.2 I (Zn tz)).trans q,z⟩
  ·obtain ⟨o,q,z⟩:=hl
   exact⟨o,k2 l o (Zn kJ) hlI q,z⟩
  ·obtain ⟨q1,q2⟩:=hR r lL
   exact⟨k2 _ _ (hr r lL).1 (hr r lL).2 q1,q2⟩
  ·exact hQ g3 tk3 (λb o gA aZ e=>k3 b o gA aZ (k2 b o gA aZ e)) tD
def call{l:Nb}{rows:List (Row K)}{Q:Nc}{xk:Nat}(hh:A.handled=none)(hl:s.heap.get? l=some {cls:=.type "list",data:=.seq (rows.map λr=>Value.ref r.a).toArray xk})(hR:∀r∈rows,RowAt knd s.heap r)(nd:(rows.map (·.k)).Nodup)(hz:rows.length≤sizeLine)(h:∀g tk,g.DictOf knd s.heap.objs.size (rows.map λr=>(r.k,r.val))→QM→Q Z6 {s with heap:=g,toks:=tk}) :
  wpAny Z8 A (call (.type "dict") [ZZ l]) Q E s:=by
 refine callType_codes (Q₁:=λobj s₁=>obj=.ref s.heap.objs.size∧s₁={s with heap:=s.heap.push {cls:=.type "dict",data:=.dict #[]}}) PySem.F.kt_called_dict (PySem.F.kt_typeCall_dict_1 _) PySem.F.entry_dict_init (kt_code_dict_new _ ⟨rfl,rfl⟩) ?_
 rintro obj s₁ ⟨rfl,rfl⟩
 have c8:(s.heap.push {cls:=.type "dict",data:=.dict #[]}).DictOf knd s.heap.objs.size []:=Heap.DictOf.new s.heap
 refine⟨c8.typeIs,PySem.F.args_dict_init_2 _ _,?_⟩
 unfold Builtin.«dict.__init__»
 refine wpAny_bind ?_
 unfold Builtin.Dict.selfAndRest
 refine wpAny_bind (wpAny_notOrdered_dict c8.typeIs (show wpAny _ _ (pure (s.heap.objs.size,[Value.ref l])) _ _ _ from wpAny_pure ?_))
 show wpAny _ _ (Builtin.Dict.updateFrom "dict.__init__" s.heap.objs.size (ZZ l) [] .none) _ _ _
 unfold Builtin.Dict.updateFrom
 have aJ:(s.heap.push {cls:=.type "dict",data:=.dict #[]}).get? l=some {cls:=.type "list",data:=.seq (rows.map λr=>Value.ref r.a).toArray xk}:=Qi _ hl
 refine wpAny_bind (wpAny_typeOf (T := "list") ⟨_,aJ,rfl⟩ ?_)
 rw[if_pos ZU]
 refine wpAny_bind (no_keys aJ (by first | exact hh | (show A.handled=none;exact hh)) λg tk kg=>?_)
 simp only[Option.isNone_none,if_true]
 refine wpAny_bind (wpAny_rule ?_)
 have ltl:l<s.heap.objs.size:=Qu hl
 have dg:g.DictOf knd s.heap.objs.size []:=by
  obtain⟨o,es,ep,q,z⟩:=c8
  exact⟨o,es,ep,kg _ _ q,z⟩
 have hlg:g.IsList l (rows.map λr=>Value.ref r.a).toArray:=⟨_,kg _ _ aJ,rfl,xk,rfl⟩
 have ltd:s.heap.objs.size<g.objs.size:=by
  obtain⟨o,es,ep,q,z⟩:=dg
  exact Qu q
 have lts:∀b o,s.heap.get? b=some o→b≠s.heap.objs.size∧b≠g.objs.size:=λb o e=>⟨Zg (Qu e),Zg (Wj (Qu e) ltd)⟩
 refine wpAny_bind (wpAny_pyIter_list (s:={s with heap:=g,toks:=tk}) hlg (wpAny_pure ⟨plainId_quiet zdx _,?_⟩))
 refine loop (knd:=knd) (I:=g.objs.size) (l:=l) (by first | exact hh | (show A.handled=none;exact hh)) rows s.heap.objs.size (Zg ltd) (Yp ltl) (Zg (Wj ltl ltd)) (λr hr=>lts r.a r.o (hR r hr).1) nd hz _ 0 _ rfl (Zc _) ⟨_,Za _ rfl,rfl,rfl⟩ ?_ (λr hr=>?_) ?_ λg2 tk2 k2 hd=>?_
 ·obtain ⟨o,q,z⟩:=hlg
  exact⟨o,Qi _ q,z⟩
 ·obtain ⟨q1,q2⟩:=hR r hr
  exact⟨Qi _ (kg _ _ (Qi _ q1)),q2⟩
 ·exact dg.push _
 ·exact⟨rfl,h g2 tk2 hd λb o e=>k2 b o (lts b o e).1 (lts b o e).2 (Qi _ (kg _ _ (Qi _ e)))⟩
end
end DictR
end
section
namespace L2
open PySem PySem.Spec PyProof.Rows
section
variable{X:Cx}
abbrev RowsAt(H:Hp):List Addr→List (Str×V)→Prop:=Paired λa p=>H a=some (.tup [.str p.1,p.2])
theorem rows_of(I:QT):∀{as:Nl} {ps:List (Str×V)},RowsAt H as ps →
  ∃rows:List (DictR.Row Key),rows.map (·.a)=as∧(∀r∈rows,DictR.RowAt (zap X.prog X.w) s.heap r)∧rows.map (·.k)=ps.map (λp=>Sum.inr p.1)∧KV (ps.map λp=>((Sum.inr p.1:Key),p.2)) (rows.map λr=>(r.k,r.val))
 |_,_,.nil=>⟨[],rfl,λr hr=>(by cases hr),rfl,.nil⟩
 | a::as,p::ps,.cons h t=>by
  obtain⟨rows,e1,e2,e3,e4⟩:=rows_of I t
  obtain⟨_,a9,r,o,q,c,n,d⟩:=I.hok a _ h
  obtain⟨u,w',rfl,⟨tk,rfl⟩,rz⟩:=vals2 r
  refine⟨⟨a,o,Sum.inr p.1,.str p.1 tk,w',n⟩::rows,by rw[Qm,e1],λx hx=>?_,by rw[Qm,Qm,e3],.cons ⟨rfl,rz⟩ e4⟩
  rcases Qg.mp hx with z | z
  ·subst z
   exact⟨q,c,d,zgh _ _ _ _⟩
  ·exact e2 x z
def zg0(hc:X.calm=true):zck X (.type "dict") (fun xs H Q=>Ex3 fun (p:Nb) (as:Nl) (ps:List (Str×V))=>Aj5 (xs=[ZZ p]) (H p=some (QZ W4)) (RowsAt H as ps) ((ps.map (·.1)).Nodup) (∀ l,H l=none→Q (ZZ l) (upd H l (.dK (ps.map fun p=>((Sum.inr p.1:Key),p.2)))))):=by
 intro a7 s σ H xs us Q I r h
 obtain⟨p,as,ps,rfl,hp,hr,nd,q⟩:=h
 obtain⟨u,rfl,rx⟩:=vals1 r
 cases rx
 obtain⟨hz,a9,n,rv,hl,e⟩:=I.lstM hp
 obtain⟨rows,e1,e2,e3,e4⟩:=rows_of I hr
 have eits:a9=rows.map λr=>Value.ref r.a:=by
  have dP:=e1
  clear hz hl e hp e4 e3 e2 hr e1 q
  induction rows generalizing as a9 with
  |nil=>subst dP;cases rv;rfl
  | cons r rs ih =>
   cases as with
   |nil=>cases dP
   | cons a as =>
    rw[Qm]at dP rv
    injection dP with h1 h2
    cases rv with
    |cons r1 r2 =>
     cases r1
     rw[Qm,h1,ih _ _ r2 h2]
 subst eits
 have af:rows.length≤sizeLine:=by rw[Qa]at hz hl;rw[Qa]at hl;exact zex ‹_› ‹_›
 have ndk:(rows.map (·.k)).Nodup:=by
  rw[e3,show(λp:Str×V=>(Sum.inr p.1:Key))=(Sum.inr:Str→Key)∘(λp:Str×V=>p.1) from rfl,←Zk]
  exact List.Pairwise.map _ (λa b z q=>z (Wd q)) nd
 refine DictR.call (knd:=zap X.prog X.w) (rows:=rows) (xk:=n) (I.ok.hd hc) e e2 ndk af λg tk hd k=>?_
 have nS:(s.heap.objs.size==sysModules)=false:=beq_eq_false_iff_ne.mpr (Yp I.big)
 refine⟨ZZ _,_,I.laid (t':=tk) k QK (show zbw X.prog X.w _ g _ (.dK _) from⟨?_,nS,_,e4,hd⟩),rfl,q _ (I.hok.fresh QK)⟩
 have:=Ya e4
 rw[Qa,Qa]at this
 rw[Qa];omega
end
def eval_dc(kx vx gens scope pos):eval (.DictComp kx vx gens scope pos) env=comprehension (.DictComp kx vx gens scope pos) scope env (firstIterPos gens pos) newDict (firstAsync gens) (firstIter gens env):=rfl
def zis{prog:Ni}{w:Nk}{A:No}{s:Nh}{kx vx target iter:Expr}{ifs:Np}{scope:Scope}{pos:Pos}{it:Value}{D:Nb}{env:Env}{R:Nu}(I:Nat→Shared→Prop)(turn:∀ n s,I n s→wpAny (model prog w) A (pyNext it) (fun r s₁=>match r with
   |none=>R (.ok .next) s₁
   | some v=>ZF (letOwnedTupleGo target it v) (fun _ s₁'=>ZF (assign target env v) (fun _ s₂ =>
     wpAny Z8 A WC (λok s₃ =>
      if ok=true then ZF (eval kx env) (λkv s₄=>ZF (eval vx env) (λvv s₅ =>
       wpAny Z8 A (dictSet D kv vv) (λ_ s₆=>∃m,m<n∧I m s₆) Q6 s₅) Q6 s₄) Q6 s₃
      else ∃m,m<n∧I m s₃) Q6 s₂) Q6 s₁') Q6 s₁) Q6 s)(n:Nat)(h:I n s):codeAny Z8 A (.compLoop (.DictComp kx vx [⟨target,iter,ifs,0⟩] scope pos) 0 it (ZZ D) env) R s:=by
 refine codeAny_loop rfl I (λn s hI=>?_) n h
 show wpAny _ A ((compTurn (.DictComp kx vx [⟨target,iter,ifs,0⟩] scope pos) 0 it (ZZ D) env).onRaise (λx=>do noteFrame x env;theTreesLotGoes x)) _ _ s
 refine wpAny_noted ?_
 rw[compTurn_dict]
 refine wpAny_bind WA
 cases r with
 |none=>exact wpAny_pure h₁
 | some v =>
  refine wpAny_bind (wpAny_mono h₁ (λ_ s₁' h₁'=>?_) λ_ _ h'=>h'.elim)
  refine wpAny_bind WK
  cases ok with
  |false=>exact wpAny_pure ⟨rfl,h₃⟩
  |true =>
   exact wpAny_bind (wpAny_bind (wpAny_mono h₃ (λkv s₄ h₄=>wpAny_bind (wpAny_holding (wpAny_mono h₄ (λvv s₅ h₅=>wpAny_bind (wpAny_standAt (wpAny_holding (wpAny_mono h₅ (λ_ s₆ h₆=>wpAny_pure ⟨rfl,h₆⟩) λ_ _ h'=>h'.elim)))) λ_ _ h'=>h'.elim))) λ_ _ h'=>h'.elim))
section
variable{X:Cx}{sc:Scope}{M:Nf}{ix:Nt}{a7:Ng}{σ:St}{H:Hp}{s:Nh}
def rDC(g:TG)(tc:TT)(tk tv:TE)(Q:VK)(J:It)(τ:St)(H1:Hp):Prop:=∃W:Nat→Nat→List (Key×V)→St→Hp→Prop,(∃m,W 0 m [] τ H1)∧∀i m ys τ H,W i m ys τ H →
 (J.stop i H∧∀D,H D=none→Q (ZZ D) (upd H D (.dK ys))) ∨
 (J.go i H∧ys.length<sizeLine∧∀x H',J.yld i H x H'→g x τ H' λ τ2 H2=>tc τ2 H2 λb H3=>if b=true then tk τ2 H3 λkv H4=>tv τ2 H4 λy H5=>∃k,kv=kV k∧∃m',m'<m∧W QY m' (putK ys k y) τ2 H5 else ∃m',m'<m∧W QY m' ys τ2 H3)
def tDC(ix:Nt)(wi:TI)(g:TG)(tc:TT)(tk tv:TE):TE:=λ σ H Q=>wi σ H λJ H1=>rDC g tc tk tv Q J (inner ix σ) H1
def dc_block{tg kx vx iter:Expr}{ifs:Np}{pos:Pos}{g:TG}{tc:TT}{tk tv:TE}{fp:Nl}{it:Nb}{tn:Nat→Heap→Prop}{J:It}{Q:VK}{RR:Value→Addr→Result→Shared→Prop}{E:Nc}(B:Blk X sc M ix)(hc:X.calm=true)(hg:∀C ex s H,PG (ZJ H) tg g)(ht:∀C ex s H,PTs (ZJ H) ifs tc)(hk:∀C ex s H,PE (ZJ H) kx tk)(he:∀C ex s H,PE (ZJ H) vx tv)(I:QT)(T:Turn X.prog X.w X.K tg J fp it tn)(h0:tn 0 s.heap)(hf:∀b∈fp,FpOk X a7 H b)(q:rDC g tc tk tv Q J (inner ix σ) H)(jI:∀D C m ys H' s',ZA (upd H' D (.dK ys)) s'→Q (ZZ D) (upd H' D (.dK ys))→s'.heap.Ns C m→upd H' D (.dK ys) C=none→s.heap.objs.size<C→RR (ZZ D) C (.ok .next) s') :
  wpAny ZY X.A newDict (λag s₃=>ZD WH (λcenv s₄ =>
   codeAny ZY X.A (.compStart WU 0 (ZZ it) ag {cenv with scope:=relabel sc X.env}) (RR ag cenv.locals) s₄) E s₃) E s:=by
 refine wpAny_newObj_type (wpAny_newFunctionEnv B.nocell (by intro y hy;simp at hy) (λh₁ hns₁ hsb₁=>?_) B.kind)
 dsimp only at hns₁ hsb₁ ⊢
 generalize hD:s.heap.objs.size=D at hns₁ hsb₁ ⊢
 generalize cX:s.heap.push {cls:=.type "dict",dict:=none,data:=.dict #[]}=g2 at hns₁ hsb₁ ⊢
 have hC:g2.objs.size=D+1:=by rw[←cX,Wo,hD]
 have k2:∀b o,s.heap.get? b=some o→g2.get? b=some o:=λb o e=>by rw[←cX];exact Qi _ e
 have I3:ZA H {s with heap:=g2}:=I.kept (t':=s.toks) k2
 have HD:H D=none:=I.hok.fresh (W0 hD)
 have fD:FpOk X a7 H D:=I.fpOk (W0 hD) HD
 have D2:g2.get? D=some {cls:=.type "dict",dict:=none,data:=.dict #[]}:=by rw[←cX,←hD];exact Za _ rfl
 have nS:(D==sysModules)=false:=beq_eq_false_iff_ne.mpr (by rw[←hD];exact Yp I.big)
 have k1:∀b o,g2.get? b=some o→h₁.get? b=some o:=λb o e=>by
  have hb:b≠g2.objs.size:=Zg (Qu e)
  exact(hsb₁.2 b hb).trans (Qi _ e)
 have DN:h₁.DictOf (zap X.prog X.w) D []:=by
  have q:g2.DictOf (zap X.prog X.w) D []:=by rw[←cX,←hD];exact Heap.DictOf.new s.heap
  obtain⟨o,es,ep,e,r⟩:=q
  exact⟨o,es,ep,k1 _ _ e,r⟩
 have fpx:∀b∈D::fp,FpOk X a7 H b:=λb hb=>by
  rcases Qg.mp hb with e | e
  ·rw[e];exact fD
  ·exact hf b e
 have fplt:∀b∈D::fp,b<g2.objs.size:=λb hb=>by
  rcases Qg.mp hb with e | e
  ·rw[e,hC];exact Yz _
  ·obtain ⟨o,q,_⟩:=T.obj _ _ h0 b e
   exact Qu (k2 b o q)
 have fpD:D∉fp:=λhm=>by
  obtain⟨o,q,_⟩:=T.obj _ _ h0 D hm
  have:=Qu q
  rw[hD]at this
  exact Ys _ this
 generalize ak:zbz X sc M g2.objs.size a7 (D::fp) {s with heap:=g2} H=Y
 have IY:Inv Y [] (inner ix σ) H {s with heap:=h₁,toks:=s.toks+([]:List (Str×Value)).length}:=by
  rw[←ak]
  exact inv_blk B I3 fpx fplt rfl hns₁ k1 rfl rfl
 have Yg:=ak▸hg g2.objs.size (D::fp) {s with heap:=g2} H
 have Yt:=ak▸ht g2.objs.size (D::fp) {s with heap:=g2} H
 have Yk:=ak▸hk g2.objs.size (D::fp) {s with heap:=g2} H
 have Ye:=ak▸he g2.objs.size (D::fp) {s with heap:=g2} H
 have eP:Y.prog=X.prog:=by rw[←ak];rfl
 have eW:Y.w=X.w:=by rw[←ak];rfl
 have eK:Y.K=X.K:=by rw[←ak];rfl
 have eA:Y.A=X.A:=by rw[←ak];rfl
 have eC:Y.calm=true:=by rw[←ak];exact hc
 have eE:Y.env=compEnvC sc (clOf sc X.env) g2.objs.size X.env:=by rw[←ak];rfl
 have eX:Y.xe=λ_ _=>False:=by rw[←ak];rfl
 have eEx:Y.ex=D::fp:=by rw[←ak];rfl
 have eFs:Y.fs=frs X.stack:=by rw[←ak];rfl
 have ePn:Y.pn=X.pn++a7:=by rw[←ak];rfl
 have eL:Y.env.locals=g2.objs.size:=by rw[eE];rfl
 have o9:Y.H₀=H:=by rw[←ak];rfl
 have iG:Y.s₀={s with heap:=g2}:=by rw[←ak];rfl
 have fY:∀{H':Hp} {pl:Ng} {b:Nb},b∈D::fp→H' b=none→(∀p∈pl,p.1≠b)→FpOk Y pl H' b:=λ{H' pl b} hb hn hp=>by
  obtain⟨f0,f1,f2,f3,f4,f5⟩:=fpx b hb
  refine⟨hn,?_,?_,.inl (Z2 eEx hb),IY.ok.exf b (Z2 eEx hb) |>.2,λp gp=>?_⟩
  ·rw[eL];exact Zg (fplt b hb)
  ·rw [eFs]
   intro z
   rcases Qg.mp (I3.stkSub b z) with q | q
   ·exact f1 q
   ·exact f2 q
  ·rw [ePn] at gp
   rcases Qk.mp gp with z | z
   ·exact f5 p z
   ·exact hp p z
 obtain⟨W,⟨m0,w0⟩,turn⟩:=q
 have loop:∀ sN:Shared,sN={ s with heap:=h₁,toks:=s.toks+([]:List (Str×Value)).length } →
   codeAny ZY X.A (.compLoop WU 0 (ZZ it) (ZZ D) (compEnvC sc (clOf sc X.env) g2.objs.size X.env)) (RR (ZZ D) g2.objs.size) sN:=by
  rintro sN rfl
  refine zis (λn s'=>Ex5 λi τ H' ys vs=>Aj7 (Inv Y [] τ H' s') (tn i s'.heap) (∀b∈D::fp,H' b=none) (s'.heap.DictOf (zap X.prog X.w) D vs) (KV ys vs) (ys.length≤sizeLine) (W i n ys τ H')) ?_ m0
   ⟨0,inner ix σ,H,[],[],IY,W1,λb hb=>(fpx b hb).1,DN,.nil,Zc _,w0⟩
  rintro n s5 ⟨i,τ,H5,ys,vs,I5,t5,n5,dd5,v5,z5,w5⟩
  obtain⟨o5,tX,tY,d5,pP⟩:=id dd5
  have nc5:∀v,o5.data≠.cell v:=λv z=>by
   obtain⟨_,q,_⟩:=pP
   rw[q]at z;cases z
  have oD:∀b∈[D],∃o,s5.heap.get? b=some o∧∀v,o.data≠.cell v:=λb hb=>by
   rw[Qd.mp hb]
   exact⟨_,d5,nc5⟩
  have dQ:Inv Y ([]++zbd [D] s5.heap) τ H5 s5:=I5.pinned (λb hb=>fY (by rw[Qd.mp hb];exact Qb) (n5 b (by rw[Qd.mp hb];exact Qb)) ZM) oD
  have pD:∀p∈zbd [D] s5.heap,p.1=D∧p.2=o5:=λp hp=>by
   obtain⟨e1,e2⟩:=zc4 hp
   have dP:p.1=D:=Qd.mp e1
   rw[dP,d5]at e2
   exact⟨dP,(Qn e2).symm⟩
  have fN:∀{H':Hp},(∀b∈fp,H' b=none)→∀b∈fp,FpOk Y ([]++zbd [D] s5.heap) H' b:=λhn b hb=>fY (Qe _ hb) (hn b hb) λp hp z=>by
   rw[Ww]at hp
   rw[(pD p hp).1]at z
   exact fpD (z▸hb)
  rcases turn i n ys τ H5 w5 with⟨stop,qn⟩ | ⟨go,zl,step⟩
  ·have h6:=T.done Y eP eW eK eC i _ s5 τ H5 (fun _ _=>False) dQ (fN fun b hb=>n5 b (Qe _ hb)) t5 stop
   rw[eA]at h6
   refine thn h6 λr s6 ⟨hr,I6⟩=>?_
   subst hr
   have d6:s6.heap.get? D=some o5:=by
    have hp:=za7 (fp:=[D]) (Qd.mpr rfl) d5
    exact(I6.pin (D,_) (Qh _ hp)).1
   have H5D:H5 D=none:=n5 D Qb
   obtain⟨mL,nL,_⟩:=I6.loc
   rw[eL]at nL
   have CD:g2.objs.size≠D:=by rw[hC];exact Kv _
   refine jI D _ mL ys H5 s6 ?_ (qn D H5D) nL ?_ (by rw[hC,hD];exact Yz _)
   ·have u6:=I6.base
    rw[eFs,eEx,o9,iG]at u6
    refine I3.call' (ch:=D::fp) (I6.os.trans (by rw[iG])) ⟨u6.keep,u6.slot,λb o e n hx=>?_,u6.there,λb xs e=>?_,λb o u e=>?_,λb ps e=>?_⟩ ?_ I6.bare λb hb=>?_
    ·rw[zaf (λz=>hx (Z2 z Qb))];exact u6.free b o e n hx
    ·rw[zaf (zab e HD)];exact u6.tups b xs e
    ·rw[zaf (zab e HD)];exact u6.frzs b o u e
    ·rw[zaf (zab e HD)];exact u6.tbls b ps e
    ·have i6:=I6.hok
     rw[eP,eW]at i6
     intro b u e
     by_cases hb:b=D
     ·subst hb
      rw[zac]at e
      cases e
      exact⟨z5,nS,vs,v5,o5,tX,tY,d6,pP⟩
     ·rw [zaf hb] at e
      exact(i6 b u e).stay (λc v _ q=>q) (λc q=>by rw[zaf (zab q H5D)];exact q) λc xs q=>by rw[zaf (zab q H5D)];exact q
    ·obtain ⟨f0,f1,f2,f3,f4,f5⟩:=fpx b hb
     exact⟨f3,f1,f4,f5⟩
   ·rw [zaf CD]
    have:=I6.free
    rw[eL]at this
    exact this
  ·have h6:=T.item Y eP eW eK eC i _ s5 τ H5 (fun _ _=>False) dQ (fN fun b hb=>n5 b (Qe _ hb)) t5 go
   rw[eA]at h6
   refine thn h6 λr s6 ⟨u,hr,h7⟩=>?_
   subst hr
   refine thn h7 λ_ s7 ⟨x,H7,I7,r7,y7,t7,n7⟩=>?_
   have jN:=I7.pinned (fN n7) (T.obj _ _ t7)
   have h8:=Yg _ s7 τ H7 x u _ jN r7 (step x H7 y7)
   rw[eP,eW,eA,eX,eE]at h8
   refine thn h8 λ_ s8 ⟨τ8,H8,I8,q8⟩=>?_
   have h9:=Yt _ s8 τ8 H8 _ I8 q8
   rw[eP,eW,eA,eX,eE]at h9
   refine thn h9 λok s9 ⟨H9,I9,q9⟩=>?_
   have again:∀{τ':St} {H':Hp} {s':Nh},Inv Y (([]++zbd [D] s5.heap)++zbd fp s7.heap) τ' H' s'→s'.heap.get? D=some o5∧H' D=none∧tn QY s'.heap∧∀b∈fp,H' b=none:=λ{τ' H' s'} I'=>by
    have pp:∀{b:Nb} {o:Obj},b∈fp→s7.heap.get? b=some o→s'.heap.get? b=some o∧H' b=none:=λ{b o} hb e =>
     let z:=I'.pin (b,o) (Qh _ (Qh _ (za7 hb e)))
     ⟨z.1,z.2.1⟩
    have hp:=za7 (fp:=[D]) (Qd.mpr rfl) d5
    have z:=I'.pin (D,_) (Qh _ (Qp _ hp))
    refine⟨z.1,z.2.1,T.keep _ _ _ t7 λb hb o e=>(pp hb e).1,λb hb=>?_⟩
    obtain⟨o,e,_⟩:=T.obj _ _ t7 b hb
    exact(pp hb e).2
   have drop:∀{pl:Ng} {τ':St} {H':Hp} {s':Nh},Inv Y pl τ' H' s'→Inv Y [] τ' H' s':=λI'=>I'.pins_of ZM
   cases ok with
   |false =>
    rw[if_neg ZU]at q9 ⊢
    obtain⟨m',hm,w9⟩:=q9
    obtain⟨d9,H9D,t9,n9⟩:=again I9
    exact⟨m',hm,i+1,τ8,H9,ys,vs,drop I9,t9,λb hb=>(Qg.mp hb).elim (λe=>e▸H9D) (n9 b),⟨o5,tX,tY,d9,pP⟩,v5,z5,w9⟩
   | true =>
    rw[if_pos rfl]at q9 ⊢
    have gC:=Yk _ s9 τ8 H9 _ I9 q9
    rw[eP,eW,eA,eX,eE]at gC
    refine thn gC λkv cF ⟨kw,eF,ga,jQ,qc⟩=>?_
    have pE:=Ye _ cF τ8 eF _ ga qc
    rw[eP,eW,eA,eX,eE]at pE
    refine thn pE λy qa ⟨yv,hX,kZ,r11,kk,ek,m',hm,w11⟩=>?_
    subst ek
    obtain⟨d11,H11D,t11,n11⟩:=again kZ
    have u9:qa.heap.DictOf (zap X.prog X.w) D vs:=⟨o5,tX,tY,d11,pP⟩
    have fF:(zap X.prog X.w).is kk kv=true:=by
     cases kk with
     |inl i=>obtain⟨t,rfl⟩:=jQ;exact keyIs_int i t
     |inr x=>obtain⟨t,rfl⟩:=jQ;exact keyIs_str x t
    refine wpAny_dictSet_pairs (knd:=zap X.prog X.w) fF u9 (λh' gZ sb=>?_) (by rw[←Ya v5];assumption)
    have kkp:∀b o,b≠D→qa.heap.get? b=some o→h'.get? b=some o:=λb o hb e=>(sb.2 b hb).trans e
    obtain⟨g0,g1,g2',g3,g4,g5⟩:=fY (pl:=[]) (H':=hX) (b:=D) Qb H11D ZM
    have I12:=(drop kZ).turned (h':=h') (t':=qa.toks+1) (it:=D) kkp H11D g1 g3 g4 g5
    refine⟨m',hm,i+1,τ8,hX,putK ys kk yv,stored vs kk y,I12,T.keep _ _ _ t11 λb hb o e=>kkp b o (λz=>fpD (z▸hb)) e,λb hb=>(Qg.mp hb).elim (λe=>e▸H11D) (n11 b),gZ,v5.put kk r11,?_,w11⟩
    unfold putK
    split
    ·rw[Qa];exact z5
    ·rw[Qy,Ur];assumption
 exact codeAny_compStart_dict (loop _ rfl) (T.self _ 0 _ _ _ W1 (loop _ rfl))
def pe_dc(B:Blk X sc M ix)(hc:X.calm=true)(hi:PI X tg iter wi)(hg:∀C a7 ex s H,PG (ZJ H) tg g)(ht:∀C a7 ex s H,PTs (ZJ H) ifs tc)(hk:∀C a7 ex s H,PE (ZJ H) kx tk)(he:∀C a7 ex s H,PE (ZJ H) vx tv)(hs:∀x,foldedSetIterable iter X.env x=pure x:=by intro _;rfl):PE X WU (tDC ix wi g tc tk tv):=by
 intro a7 s σ H Q I h
 rw[eval_dc]
 refine wpAny_comprehension_free (use:=none) rfl hs (zbv (B.clos I)) B.kind B.names (thn (hi a7 s σ H _ I h) λv s1 h1=>thn h1 λitv s2 h2=>?_)
 obtain⟨it,fp,tn,J,H2,e,I2,T,aW,f2,q⟩:=h2
 subst e
 refine dc_block (RR:=λag C=>compPost ZY X.A X.xe none WY ag C) B hc (hg · a7) (ht · a7) (hk · a7) (he · a7) I2 T aW f2 q ?_
 intro D C m ys H' s' I' q' hn hC ae
 refine⟨m,hn,λh' bf=>⟨ZZ D,_,I'.letgo hn hC I2.lt I2.cl_lt I2.pin_lt I2.sz ae bf,rfl,q'⟩⟩
def ps_dc(hN:X.N.Nodup)(aK:X.N[i]?=some y)(hy:X.env.scope.names.lookup y=some .local)(B:Blk X sc M ix)(hc:X.calm=true)(hi:PI X tg iter wi)(hg:∀C a7 ex s H,PG (ZJ H) tg g)(ht:∀C a7 ex s H,PTs (ZJ H) ifs tc)(hk:∀C a7 ex s H,PE (ZJ H) kx tk)(he:∀C a7 ex s H,PE (ZJ H) vx tv)(j':swapsWith WU (QB (.Name y py)) spos.line X.env=pure true)(hs:∀x,foldedSetIterable iter X.env x=pure x:=by intro _;rfl):PS X (.Assign [.Name y py] WU spos) (tAsg (tDC ix wi g tc tk tv) (ze9 i)):=by
 intro a7 s σ H D' I h
 rw[exec_Assign_Name_used _ _ _ _ j']
 refine wpAny_bind (wpAny_standAt (wpAny_bind ?_))
 show wpAny _ X.A (do let _ ←comprehension WU sc X.env _ newDict false (eval iter X.env) (QB (assign (.Name y py) X.env))) _ _ s
 refine wpAny_bind (wpAny_mono (wpAny_comprehension_free (use:=some (assign (.Name y py) X.env)) (Q:=λ_ s'=>SP X a7 D' .next s') rfl hs (zbv (B.clos I)) B.kind B.names
  (thn (hi a7 s σ H _ I h) λv s1 h1=>thn h1 λitv s2 h2=>?_)) (λ_ s' hq=>wpAny_pure (wpAny_pure hq)) λ_ _ e=>e)
 obtain⟨it,fp,tn,J,H2,e,I2,T,aW,f2,q⟩:=h2
 subst e
 refine dc_block (RR:=λag C=>compPost ZY X.A X.xe (QB (assign (.Name y py) X.env)) (λ_ s'=>SP X a7 D' .next s') ag C) B hc (hg · a7) (ht · a7) (hk · a7) (he · a7) I2 T aW f2 q ?_
 intro D C m ys H' s' I' q' hn hC ae
 show wpAny _ X.A (assign (.Name y py) X.env (ZZ D)) _ _ s'
 refine wpAny_assign_Name (zf4 I' hN aK (.inl hy) (v:=.ref D) rfl (λlf uK ⟨a,sb,ha⟩=>?_) (.inr hy))
 have aC:C≠a:=by
  rcases ha with z | z
  ·rw[z];exact Yp (Wj I2.lt ae)
  ·exact Yp (Wj (I2.cl_lt _ _ z) ae)
 have bm:=hn.sameBut sb aC
 exact⟨m,bm,λh' bf=>⟨_,_,uK.letgo bm hC I2.lt I2.cl_lt I2.pin_lt I2.sz ae bf,q'⟩⟩
end
def compTurn_in(elt tg1 it1 target iter:Expr)(ifs:Np)(scope:Scope)(pos:Pos)(it ag:Value)(env:Env) :
  compTurn QA 1 it ag env=(do
   standAt iter.pos
   match ←pyNext it with
   |none=>pure (.done .next)
   | some v =>
    letOwnedTupleGo target it v
    assign target env v
    let mut ok:=true
    for c in ifs do
     if ok then ok ←isTrue c env (eval c env)
    if ok then
     (do let _ ←call (.builtin "list.append") [ag,←eval elt env])
    again (.compLoop QA 1 it ag env)):=by rfl
def compTurn_out(elt target iter cO bA:Expr)(ifs:Np)(scope:Scope)(pos:Pos)(it ag:Value)(env:Env) :
  compTurn QR 0 it ag env=(do
   standAt iter.pos
   match ←pyNext it with
   |none=>pure (.done .next)
   |some v =>
    letOwnedTupleGo target it v
    assign target env v
    let x ←eval bA env
    standAt bA.pos
    let x ←foldedSetIterable bA env x
    let _ ←runOwn (.compStart QR 1 (←holding [x] (pyIter x)) ag env) env
    again (.compLoop QR 0 it ag env)):=by rfl
section
variable{prog:Ni}{w:Nk}{A:No}{s:Nh}{elt tg1 it1 target iter:Expr}{ifs:Np}{scope:Scope}{pos:Pos}{it ag:Value}{env:Env}{R:Nu}
def start_in(h0:codeAny Z8 A (.compLoop QA 1 it ag env) R s)(h:ZF (pyIter it) (λqy s'=>codeAny Z8 A (.compLoop QA 1 qy ag env) R s') Q6 s) :
  codeAny Z8 A (.compStart QA 1 it ag env) R s:=by
 refine codeAny_of_tree (show wpAny _ _ ((compStart QA 1 it ag env).onRaise (λx=>do noteFrame x env;standAt theWindowsPlace)) _ _ s from wpAny_notedAt ?_)
 unfold compStart
 show wpAny _ _ (ask >>= _) _ _ s
 refine wpAny_bind (wpAny_askSetting (wpAny_ite ?_))
 split
 ·first
   |exact wpAny_pure (And.intro rfl h0)
   |exact wpAny_bind (wpAny_pure (wpAny_pure (And.intro rfl h0)))
 ·refine wpAny_bind (wpAny_rule ?_)
  first
   |exact wpAny_bind (wpAny_standAt (wpAny_bind (wpAny_mono h (λqy s' h'=>wpAny_pure (And.intro rfl h')) λ_ _ x=>x.elim)))
   |(show wpAny _ _ (standAt iter.pos >>= _) _ _ s;exact wpAny_bind (wpAny_standAt (wpAny_bind (wpAny_mono h (λqy s' h'=>wpAny_pure (And.intro rfl h')) λ_ _ x=>x.elim))))
def loop_in(I:Nat→Shared→Prop)(turn:∀ n s,I n s→wpAny (model prog w) A (pyNext it) (fun r s₁=>match r with
   |none=>R (.ok .next) s₁
   | some v=>ZF (letOwnedTupleGo target it v) (fun _ s₁'=>ZF (assign target env v) (fun _ s₂ =>
     wpAny Z8 A WC (λok s₃ =>
      if ok=true then ZF (eval elt env) (λx s₄=>ZF (call (.builtin "list.append") [ag,x]) (λ_ s₅=>∃m,m<n∧I m s₅) Q6 s₄) Q6 s₃
      else ∃m,m<n∧I m s₃) Q6 s₂) Q6 s₁') Q6 s₁) Q6 s)(n:Nat)(h:I n s):codeAny Z8 A (.compLoop QA 1 it ag env) R s:=by
 refine codeAny_loop rfl I (λn s hI=>?_) n h
 show wpAny _ A ((compTurn QA 1 it ag env).onRaise (λx=>do noteFrame x env;theTreesLotGoes x)) _ _ s
 refine wpAny_noted ?_
 rw[compTurn_in]
 refine wpAny_bind WA
 cases r with
 |none=>exact wpAny_pure h₁
 | some v =>
  refine wpAny_bind (wpAny_mono h₁ (λ_ s₁' h₁'=>?_) λ_ _ h'=>h'.elim)
  refine wpAny_bind WK
  cases ok with
  |false=>exact wpAny_pure ⟨rfl,h₃⟩
  |true =>
   exact wpAny_bind (wpAny_bind (wpAny_mono h₃ (λx s₄ h₄=>wpAny_bind (wpAny_mono h₄ (λ_ s₅ h₅=>wpAny_pure (wpAny_pure ⟨rfl,h₅⟩)) λ_ _ h'=>h'.elim)) λ_ _ h'=>h'.elim))
def loop_out(hs:∀x,foldedSetIterable bA env x=pure x)(I:Nat→Shared→Prop)(turn:∀ n s,I n s→wpAny (model prog w) A (pyNext it) (fun r s₁=>match r with
   |none=>R (.ok .next) s₁
   | some v=>ZF (letOwnedTupleGo target it v) (fun _ s₁'=>ZF (assign target env v) (fun _ s₂ =>
     wpAny Z8 A (eval bA env) (λx s₃=>ZF (pyIter x) (λj s₄=>codeAny Z8 A (.compStart QR 1 j ag env) (λr s₅=>(∃f,r=.ok f)∧∃m,m<n∧I m s₅) s₄) Q6 s₃)
      (λ_ _=>False) s₂) Q6 s₁') Q6 s₁) Q6 s)(n:Nat)(h:I n s):codeAny Z8 A (.compLoop QR 0 it ag env) R s:=by
 refine codeAny_loop rfl I (λn s hI=>?_) n h
 show wpAny _ A ((compTurn QR 0 it ag env).onRaise (λx=>do noteFrame x env;theTreesLotGoes x)) _ _ s
 refine wpAny_noted ?_
 rw[compTurn_out]
 refine wpAny_bind WA
 cases r with
 |none=>exact wpAny_pure h₁
 | some v =>
  refine wpAny_bind (wpAny_mono h₁ (λ_ s₁' h₁'=>?_) λ_ _ h'=>h'.elim)
  refine wpAny_bind (wpAny_mono h₁' (λ_ s₂ h₂=>?_) λ_ _ h'=>h'.elim)
  refine wpAny_bind (wpAny_mono h₂ (λx s₃ h₃=>wpAny_bind (wpAny_standAt (wpAny_bind (wpAny_of_eq (hs x) (wpAny_bind (wpAny_holding (wpAny_mono h₃ (λj s₄ h₄=>wpAny_bind (wpAny_runOwn ?_)) λ_ _ h'=>h'.elim)))))))
   λ_ _ h'=>h'.elim)
  refine codeAny_mono (show codeAny Z8 (A.mark none) _ _ s₄ from h₄) λr s₅ h₅=>?_
  obtain⟨⟨f,rfl⟩,h₆⟩:=h₅
  exact wpAny_pure ⟨rfl,h₆⟩
end
def rIn2(g:TG)(tc:TT)(te:TE)(Fin:List V→St→Hp→Prop)(J:It)(ys:List V)(τ:St)(H1:Hp):Prop:=∃W:Nat→Nat→List V→St→Hp→Prop,(∃m,W 0 m ys τ H1)∧∀i m ys τ H,W i m ys τ H →
 (J.stop i H∧Fin ys τ H) ∨
 (J.go i H∧ys.length<sizeLine∧∀x H',J.yld i H x H'→g x τ H' λ τ2 H2=>tc τ2 H2 λb H3=>if b=true then te τ2 H3 λy H4=>∃m',m'<m∧W QY m' (ys++[y]) τ2 H4 else ∃m',m'<m∧W QY m' ys τ2 H3)
def in_loop{Y:Cx}{D:Nb}{P1:Ng}{elt tg1 it1 tg iter:Expr}{ifs:Np}{sc:Scope}{pos:Pos}{g:TG}{tc:TT}{te:TE}{fp:Nl}{it:Nb}{tn:Nat→Heap→Prop}{J:It}{Fin:List V→St→Hp→Prop}{τ0:St}{H0:Hp}{s0:Nh}{oj:List V}{iN:Nj}{k0:Nat}(hc:Y.calm=true)(eX:Y.xe=λ_ _=>False)(Yg:PG Y tg g)(Yt:PTs Y ifs tc)(Ye:PE Y elt te)(T:Turn Y.prog Y.w Y.K tg J fp it tn)(fpD:D∉fp)(fD:∀{H':Hp},H' D=none→FpOk Y P1 H' D)(f2:∀{H':Hp} {b:Nb},b∈fp→H' b=none→FpOk Y P1 H' b)(I0:Inv Y P1 τ0 H0 s0)(t0:tn 0 s0.heap)(n0:∀b∈D::fp,H0 b=none)(d0:s0.heap.get? D=some {cls:=.type "list",data:=.seq iN.toArray k0})(v0:Vals oj iN)(z0:oj.length≤sizeLine)(q:rIn2 g tc te Fin J oj τ0 H0){R:Nu}(hR:∀ys a9 k τ H' s',Inv Y P1 τ H' s'→H' D=none→s'.heap.get? D=some {cls:=.type "list",data:=.seq (a9:Nj).toArray k}→Vals ys a9→ys.length≤sizeLine→Fin ys τ H'→R (.ok .next) s') :
  codeAny (model Y.prog Y.w) Y.A (.compStart (.ListComp elt [⟨tg1,it1,[],0⟩,⟨tg,iter,ifs,0⟩] sc pos) 1 (ZZ it) (ZZ D) Y.env) R s0:=by
 obtain⟨W,⟨m0,w0⟩,turn⟩:=q
 have loop:codeAny (model Y.prog Y.w) Y.A (.compLoop (.ListComp elt [⟨tg1,it1,[],0⟩,⟨tg,iter,ifs,0⟩] sc pos) 1 (ZZ it) (ZZ D) Y.env) R s0:=by
  refine loop_in (λn s'=>Ex6 λi τ H' ys a9 k=>Aj7 (Inv Y P1 τ H' s') (tn i s'.heap) (∀b∈D::fp,H' b=none) (s'.heap.get? D=some {cls:=.type "list",data:=.seq (a9:Nj).toArray k}) (Vals ys a9) (ys.length≤sizeLine) (W i n ys τ H')) ?_ m0 ⟨0,τ0,H0,oj,iN,k0,I0,t0,n0,d0,v0,z0,w0⟩
  rintro n s5 ⟨i,τ,H5,ys,a9,k,I5,t5,n5,d5,v5,z5,w5⟩
  have oD:∀b∈[D],∃o,s5.heap.get? b=some o∧∀v,o.data≠.cell v:=λb hb=>by
   rw[Qd.mp hb]
   exact⟨_,d5,λv z=>by cases z⟩
  have dQ:Inv Y (P1++zbd [D] s5.heap) τ H5 s5:=I5.pinned (λb hb=>by rw[Qd.mp hb];exact fD (n5 D Qb)) oD
  have pD:∀p∈zbd [D] s5.heap,p.1=D:=λp hp=>Qd.mp (zc4 hp).1
  have fN:∀{H':Hp},(∀b∈fp,H' b=none)→∀b∈fp,FpOk Y (P1++zbd [D] s5.heap) H' b:=λhn b hb=>by
   obtain⟨f0,f1,f3,f4,f5,f6⟩:=f2 hb (hn b hb)
   refine⟨f0,f1,f3,f4,f5,λp hp=>?_⟩
   rw[←Qw]at hp
   rcases Qk.mp hp with z | z
   ·exact f6 p z
   ·rw[pD p z];exact λe=>fpD (e▸hb)
  rcases turn i n ys τ H5 w5 with⟨stop,qn⟩ | ⟨go,zl,step⟩
  ·refine thn (T.done Y rfl rfl rfl hc i _ s5 τ H5 (fun _ _=>False) dQ (fN fun b hb=>n5 b (Qe _ hb)) t5 stop) fun r s6 ⟨hr,I6⟩=>?_
   subst hr
   have hp:=za7 (fp:=[D]) (Qd.mpr rfl) d5
   have z:=I6.pin (D,_) (Qh _ (Qh _ hp))
   exact hR ys a9 k τ H5 s6 I6.unpinned (n5 D Qb) z.1 v5 z5 qn
  ·refine thn (T.item Y rfl rfl rfl hc i _ s5 τ H5 (fun _ _=>False) dQ (fN fun b hb=>n5 b (Qe _ hb)) t5 go) fun r s6 ⟨u,hr,h7⟩=>?_
   subst hr
   refine thn h7 λ_ s7 ⟨x,H7,I7,r7,y7,t7,n7⟩=>?_
   have jN:=I7.pinned (fN n7) (T.obj _ _ t7)
   have h8:=Yg _ s7 τ H7 x u _ jN r7 (step x H7 y7)
   rw[eX]at h8
   refine thn h8 λ_ s8 ⟨τ8,H8,I8,q8⟩=>?_
   have h9:=Yt _ s8 τ8 H8 _ I8 q8
   rw[eX]at h9
   refine thn h9 λok s9 ⟨H9,I9,q9⟩=>?_
   have again:∀{τ':St} {H':Hp} {s':Nh},Inv Y ((P1++zbd [D] s5.heap)++zbd fp s7.heap) τ' H' s'→s'.heap.get? D=some {cls:=.type "list",data:=.seq a9.toArray k}∧H' D=none∧tn QY s'.heap∧∀b∈fp,H' b=none:=λ{τ' H' s'} I'=>by
    have pp:∀{b:Nb} {o:Obj},b∈fp→s7.heap.get? b=some o→s'.heap.get? b=some o∧H' b=none:=λ{b o} hb e =>
     let z:=I'.pin (b,o) (Qh _ (Qh _ (za7 hb e)))
     ⟨z.1,z.2.1⟩
    have hp:=za7 (fp:=[D]) (Qd.mpr rfl) d5
    have z:=I'.pin (D,_) (Qh _ (Qp _ (Qh _ hp)))
    refine⟨z.1,z.2.1,T.keep _ _ _ t7 λb hb o e=>(pp hb e).1,λb hb=>?_⟩
    obtain⟨o,e,_⟩:=T.obj _ _ t7 b hb
    exact(pp hb e).2
   have drop:∀{τ':St} {H':Hp} {s':Nh},Inv Y ((P1++zbd [D] s5.heap)++zbd fp s7.heap) τ' H' s'→Inv Y P1 τ' H' s':=λI'=>I'.unpinned.unpinned
   cases ok with
   |false =>
    rw[if_neg ZU]at q9 ⊢
    obtain⟨m',hm,w9⟩:=q9
    obtain⟨d9,H9D,t9,n9⟩:=again I9
    exact⟨m',hm,i+1,τ8,H9,ys,a9,k,drop I9,t9,λb hb=>(Qg.mp hb).elim (λe=>e▸H9D) (n9 b),d9,v5,z5,w9⟩
   | true =>
    rw[if_pos rfl]at q9 ⊢
    have gC:=Ye _ s9 τ8 H9 _ I9 q9
    rw[eX]at gC
    refine thn gC λy cF ⟨yv,eF,ga,jQ,m',hm,pX⟩=>?_
    obtain⟨jL,H10D,l0,ql⟩:=again ga
    refine call_meets F.slot_list_append ⟨_,jL,rfl⟩ F.entry_list_append (F.args_list_append_2 _ _) (PySem.list_append D a9.toArray k y (by rw[Qx,←v5.length];assumption)) ⟨jL,?_⟩
    have q:=PySem.IsL.update jL (λa=>a.push y)
    have u5:(a9.toArray.push y)=(a9++[y]).toArray:=by simp
    rw[u5]at q
    have kk:∀b o,b≠D→cF.heap.get? b=some o→(cF.heap.update D (Obj.mapSeq λa=>a.push y)).get? b=some o:=λb o hb e=>(Yc cF.heap (Obj.mapSeq λa=>a.push y) (Zn hb)).trans e
    obtain⟨g0,g1,g2',g3,g4,g5⟩:=fD H10D
    have kZ:=(drop ga).turned (h':=cF.heap.update D (Obj.mapSeq λa=>a.push y)) (t':=cF.toks) (it:=D) kk H10D g1 g3 g4 g5
    exact⟨m',hm,i+1,τ8,eF,ys++[yv],a9++[y],_,kZ,T.keep _ _ _ l0 λb hb o e=>kk b o (λz=>fpD (z▸hb)) e,λb hb=>(Qg.mp hb).elim (λe=>e▸H10D) (ql b),q,v5.append (.cons jQ .nil),
     by rw[Qy,Ur];assumption,pX⟩
 exact start_in loop (T.self _ 0 _ _ _ t0 loop)
section
variable{X:Cx}{sc:Scope}{M:Nf}{ix:Nt}{a7:Ng}{σ:St}{H:Hp}{s:Nh}
def rLC2(g1:TG)(i4:TI)(g:TG)(tc:TT)(te:TE)(Q:VK)(J:It)(τ:St)(H1:Hp):Prop:=∃W:Nat→Nat→List V→St→Hp→Prop,(∃m,W 0 m [] τ H1)∧∀i m ys τ H,W i m ys τ H →
 (J.stop i H∧∀D,H D=none→Q (ZZ D) (ZW H D ys)) ∨
 (J.go i H∧∀x H',J.yld i H x H'→g1 x τ H' λ τ2 H2=>i4 τ2 H2 λJ2 H3=>rIn2 g tc te (λpV τ' H'=>∃m',m'<m∧W QY m' pV τ' H') J2 ys τ2 H3)
def tLC2(ix:Nt)(wi:TI)(g1:TG)(i4:TI)(g:TG)(tc:TT)(te:TE):TE:=λ σ H Q=>wi σ H λJ H1=>rLC2 g1 i4 g tc te Q J (inner ix σ) H1
def lc2_block{tg elt iter cO bA:Expr}{ifs:Np}{pos:Pos}{g1:TG}{i4:TI}{g:TG}{tc:TT}{te:TE}{fp:Nl}{it:Nb}{tn:Nat→Heap→Prop}{J:It}{Q:VK}{RR:Value→Addr→Result→Shared→Prop}{E:Nc}(B:Blk X sc M ix)(hc:X.calm=true)(mQ:∀C ex s H,PG (ZJ H) tg g1)(ao:∀C ex s H,PI (ZJ H) cO bA i4)(cv:∀C x,foldedSetIterable bA (compEnvC sc (clOf sc X.env) C X.env) x=pure x)(hg:∀C ex s H,PG (ZJ H) cO g)(ht:∀C ex s H,PTs (ZJ H) ifs tc)(he:∀C ex s H,PE (ZJ H) elt te)(I:QT)(T:Turn X.prog X.w X.K tg J fp it tn)(h0:tn 0 s.heap)(hf:∀b∈fp,FpOk X a7 H b)(q:rLC2 g1 i4 g tc te Q J (inner ix σ) H)(jI:W2) :
  wpAny ZY X.A (newList []) (λag s₃=>ZD WH (λcenv s₄ =>
   codeAny ZY X.A (.compStart (.ListComp elt [⟨tg,iter,[],0⟩,⟨cO,bA,ifs,0⟩] sc pos) 0 (ZZ it) ag {cenv with scope:=relabel sc X.env}) (RR ag cenv.locals) s₄) E s₃) E s:=by
 refine wpAny_newObj_type (wpAny_newFunctionEnv B.nocell (by intro y hy;simp at hy) (λh₁ hns₁ hsb₁=>?_) B.kind)
 dsimp only at hns₁ hsb₁ ⊢
 generalize hD:s.heap.objs.size=D at hns₁ hsb₁ ⊢
 generalize cX:s.heap.push {cls:=.type "list",dict:=none,data:=.seq ([]:List Value).toArray}=g2 at hns₁ hsb₁ ⊢
 have hC:g2.objs.size=D+1:=by rw[←cX,Wo,hD]
 have k2:∀b o,s.heap.get? b=some o→g2.get? b=some o:=λb o e=>by rw[←cX];exact Qi _ e
 have I3:ZA H {s with heap:=g2}:=I.kept (t':=s.toks) k2
 have HD:H D=none:=I.hok.fresh (W0 hD)
 have fD:FpOk X a7 H D:=I.fpOk (W0 hD) HD
 have D2:g2.get? D=some {cls:=.type "list",dict:=none,data:=.seq ([]:List Value).toArray}:=by rw[←cX,←hD];exact Za _ rfl
 have k1:∀b o,g2.get? b=some o→h₁.get? b=some o:=λb o e=>by
  have hb:b≠g2.objs.size:=Zg (Qu e)
  exact(hsb₁.2 b hb).trans (Qi _ e)
 have fpx:∀b∈D::fp,FpOk X a7 H b:=λb hb=>by
  rcases Qg.mp hb with e | e
  ·rw[e];exact fD
  ·exact hf b e
 have fplt:∀b∈D::fp,b<g2.objs.size:=λb hb=>by
  rcases Qg.mp hb with e | e
  ·rw[e,hC];exact Yz _
  ·obtain ⟨o,q,_⟩:=T.obj _ _ h0 b e
   exact Qu (k2 b o q)
 have fpD:D∉fp:=λhm=>by
  obtain⟨o,q,_⟩:=T.obj _ _ h0 D hm
  have:=Qu q
  rw[hD]at this
  exact Ys _ this
 generalize ak:zbz X sc M g2.objs.size a7 (D::fp) {s with heap:=g2} H=Y
 have IY:Inv Y [] (inner ix σ) H {s with heap:=h₁,toks:=s.toks+([]:List (Str×Value)).length}:=by
  rw[←ak]
  exact inv_blk B I3 fpx fplt rfl hns₁ k1 rfl rfl
 have Yg1:=ak▸mQ g2.objs.size (D::fp) {s with heap:=g2} H
 have Yi2:=ak▸ao g2.objs.size (D::fp) {s with heap:=g2} H
 have Yg:=ak▸hg g2.objs.size (D::fp) {s with heap:=g2} H
 have Yt:=ak▸ht g2.objs.size (D::fp) {s with heap:=g2} H
 have Ye:=ak▸he g2.objs.size (D::fp) {s with heap:=g2} H
 have eP:Y.prog=X.prog:=by rw[←ak];rfl
 have eW:Y.w=X.w:=by rw[←ak];rfl
 have eK:Y.K=X.K:=by rw[←ak];rfl
 have eA:Y.A=X.A:=by rw[←ak];rfl
 have eC:Y.calm=true:=by rw[←ak];exact hc
 have eE:Y.env=compEnvC sc (clOf sc X.env) g2.objs.size X.env:=by rw[←ak];rfl
 have eX:Y.xe=λ_ _=>False:=by rw[←ak];rfl
 have eEx:Y.ex=D::fp:=by rw[←ak];rfl
 have eFs:Y.fs=frs X.stack:=by rw[←ak];rfl
 have ePn:Y.pn=X.pn++a7:=by rw[←ak];rfl
 have eL:Y.env.locals=g2.objs.size:=by rw[eE];rfl
 have o9:Y.H₀=H:=by rw[←ak];rfl
 have iG:Y.s₀={s with heap:=g2}:=by rw[←ak];rfl
 have fY:∀{H':Hp} {pl:Ng} {b:Nb},b∈D::fp→H' b=none→(∀p∈pl,p.1≠b)→FpOk Y pl H' b:=λ{H' pl b} hb hn hp=>by
  obtain⟨f0,f1,f2,f3,f4,f5⟩:=fpx b hb
  refine⟨hn,?_,?_,.inl (Z2 eEx hb),IY.ok.exf b (Z2 eEx hb) |>.2,λp gp=>?_⟩
  ·rw[eL];exact Zg (fplt b hb)
  ·rw [eFs]
   intro z
   rcases Qg.mp (I3.stkSub b z) with q | q
   ·exact f1 q
   ·exact f2 q
  ·rw [ePn] at gp
   rcases Qk.mp gp with z | z
   ·exact f5 p z
   ·exact hp p z
 obtain⟨W,⟨m0,w0⟩,turn⟩:=q
 have loop:∀ sN:Shared,sN={ s with heap:=h₁,toks:=s.toks+([]:List (Str×Value)).length } →
   codeAny ZY X.A (.compLoop (.ListComp elt [⟨tg,iter,[],0⟩,⟨cO,bA,ifs,0⟩] sc pos) 0 (ZZ it) (ZZ D) (compEnvC sc (clOf sc X.env) g2.objs.size X.env)) (RR (ZZ D) g2.objs.size) sN:=by
  rintro sN rfl
  refine loop_out (cv _) WX ?_ m0
   ⟨0,inner ix σ,H,[],[],0,IY,W1,λb hb=>(fpx b hb).1,k1 _ _ D2,.nil,Zc _,w0⟩
  rintro n s5 ⟨i,τ,H5,ys,a9,k,I5,t5,n5,d5,v5,z5,w5⟩
  have oD:∀{s':Nh} {its':Nj} {k':Nat},s'.heap.get? D=some {cls:=.type "list",data:=.seq its'.toArray k'}→∀b∈[D],∃o,s'.heap.get? b=some o∧∀v,o.data≠.cell v:=λ{s' its' k'} e b hb=>by
   rw[Qd.mp hb]
   exact⟨_,e,λv z=>by cases z⟩
  have dQ:Inv Y ([]++zbd [D] s5.heap) τ H5 s5:=I5.pinned (λb hb=>fY (by rw[Qd.mp hb];exact Qb) (n5 b (by rw[Qd.mp hb];exact Qb)) ZM) (oD d5)
  have pD:∀p∈zbd [D] s5.heap,p.1=D∧p.2={cls:=.type "list",data:=.seq a9.toArray k}:=λp hp=>by
   obtain⟨e1,e2⟩:=zc4 hp
   have dP:p.1=D:=Qd.mp e1
   rw[dP,d5]at e2
   exact⟨dP,(Qn e2).symm⟩
  have fN:∀{H':Hp},(∀b∈fp,H' b=none)→∀b∈fp,FpOk Y ([]++zbd [D] s5.heap) H' b:=λhn b hb=>fY (Qe _ hb) (hn b hb) λp hp z=>by
   rw[Ww]at hp
   rw[(pD p hp).1]at z
   exact fpD (z▸hb)
  rcases turn i n ys τ H5 w5 with⟨stop,qn⟩ | ⟨go,step⟩
  ·have h6:=T.done Y eP eW eK eC i _ s5 τ H5 (fun _ _=>False) dQ (fN fun b hb=>n5 b (Qe _ hb)) t5 stop
   rw[eA]at h6
   refine thn h6 λr s6 ⟨hr,I6⟩=>?_
   subst hr
   have d6:s6.heap.get? D=some {cls:=.type "list",data:=.seq a9.toArray k}:=by
    have hp:=za7 (fp:=[D]) (Qd.mpr rfl) d5
    exact(I6.pin (D,_) (Qh _ hp)).1
   have H5D:H5 D=none:=n5 D Qb
   obtain⟨mL,nL,_⟩:=I6.loc
   rw[eL]at nL
   have CD:g2.objs.size≠D:=by rw[hC];exact Kv _
   refine jI D _ mL ys H5 s6 ?_ (qn D H5D) nL ?_ (by rw[hC,hD];exact Yz _)
   ·have u6:=I6.base
    rw[eFs,eEx,o9,iG]at u6
    refine I3.call' (ch:=D::fp) (I6.os.trans (by rw[iG])) ⟨u6.keep,u6.slot,λb o e n hx=>?_,u6.there,λb xs e=>?_,λb o u e=>?_,λb ps e=>?_⟩ ?_ I6.bare λb hb=>?_
    ·rw[zaf (λz=>hx (Z2 z Qb))];exact u6.free b o e n hx
    ·rw[zaf (zab e HD)];exact u6.tups b xs e
    ·rw[zaf (zab e HD)];exact u6.frzs b o u e
    ·rw[zaf (zab e HD)];exact u6.tbls b ps e
    ·have i6:=I6.hok
     rw[eP,eW]at i6
     intro b u e
     by_cases hb:b=D
     ·subst hb
      rw[zac]at e
      cases e
      exact⟨z5,a9,k,v5,d6⟩
     ·rw [zaf hb] at e
      exact(i6 b u e).stay (λc v _ q=>q) (λc q=>by rw[zaf (zab q H5D)];exact q) λc xs q=>by rw[zaf (zab q H5D)];exact q
    ·obtain ⟨f0,f1,f2,f3,f4,f5⟩:=fpx b hb
     exact⟨f3,f1,f4,f5⟩
   ·rw [zaf CD]
    have:=I6.free
    rw[eL]at this
    exact this
  ·have h6:=T.item Y eP eW eK eC i _ s5 τ H5 (fun _ _=>False) dQ (fN fun b hb=>n5 b (Qe _ hb)) t5 go
   rw[eA]at h6
   refine thn h6 λr s6 ⟨u,hr,h7⟩=>?_
   subst hr
   refine thn h7 λ_ s7 ⟨x,H7,I7,r7,y7,t7,n7⟩=>?_
   have jN:=I7.pinned (fN n7) (T.obj _ _ t7)
   have h8:=Yg1 _ s7 τ H7 x u _ jN r7 (step x H7 y7)
   rw[eP,eW,eA,eX,eE]at h8
   refine thn h8 λ_ s8 ⟨τ8,H8,I8,q8⟩=>?_
   have h9:=Yi2 _ s8 τ8 H8 _ I8 q8
   rw[eP,eW,eA,eX,eE]at h9
   refine thn h9 λxv s9 gC=>thn gC λjv cF pE=>?_
   obtain⟨j,fp2,tn2,J2,eF,rfl,ga,T2,l0,kU,qc⟩:=pE
   have pp:∀{b:Nb} {o:Obj} {H':Hp} {τ':St} {s':Nh},Inv Y ([]++zbd fp s7.heap) τ' H' s'→b∈fp→s7.heap.get? b=some o→s'.heap.get? b=some o∧H' b=none:=λ{b o H' τ' s'} I' hb e =>
    let z:=I'.pin (b,o) (Qh _ (Qh _ (za7 hb e)))
    ⟨z.1,z.2.1⟩
   have hpD:=za7 (fp:=[D]) (Qd.mpr rfl) d5
   have zD:=ga.pin (D,_) (Qh _ (Qp _ (Qh _ hpD)))
   have uJ:Inv Y ([]++zbd fp s7.heap) τ8 eF cF:=ga.pins_of λp hp=>ga.pin p (Qh _ (Qh _ (by rwa[Ww]at hp)))
   have nfp:∀p∈zbd fp s7.heap,p.1≠D:=λp hp z=>fpD (z▸(zc4 hp).1)
   have keepT:∀{H':Hp} {τ':St} {s':Nh},Inv Y ([]++zbd fp s7.heap) τ' H' s'→tn QY s'.heap∧∀b∈fp,H' b=none:=λ{H' τ' s'} I'=>by
    refine⟨T.keep _ _ _ t7 λb hb o e=>(pp I' hb e).1,λb hb=>?_⟩
    obtain⟨o,e,_⟩:=T.obj _ _ t7 b hb
    exact(pp I' hb e).2
   have res:=in_loop (Y:=Y) (D:=D) (P1:=[]++zbd fp s7.heap) (elt:=elt) (tg1:=tg) (it1:=iter) (iter:=bA) (sc:=sc) (pos:=pos) (R:=λr s₅=>(∃f,r=.ok f)∧∃m,m<n∧Ex6 λi τ H' ys a9 k=>Aj7 (Inv Y [] τ H' s₅) (tn i s₅.heap) (∀b∈D::fp,H' b=none) (s₅.heap.get? D=some {cls:=.type "list",data:=.seq (a9:Nj).toArray k}) (Vals ys a9) (ys.length≤sizeLine) (W i m ys τ H'))
    eC eX Yg Yt Ye T2 (λhm=>?_) (λ{H'} hn=>fY Qb hn λp hp=>nfp p (by rwa[Ww]at hp)) (λ{H' b} hb hn=>?_) uJ l0 (λb hb=>?_) zD.1 v5 z5 qc λpV its' k' τ' H' s' I' HD' d' v' z' fin=>?_
   ·rw [eP,eW,eA,eE] at res
    exact res
   ·have:=(kU D hm).2.2.2.2.2 (D,_) (Qh _ (Qp _ (Qh _ hpD)))
    exact this rfl
   ·obtain ⟨f0,f1,f3,f4,f5,f6⟩:=kU b hb
    exact⟨hn,f1,f3,f4,f5,λp hp=>f6 p ((Qk.mp hp).elim (λz=>Qp _ z) λz=>Qh _ (Qh _ (by rwa[Ww]at z)))⟩
   ·rcases Qg.mp hb with z | z
    ·rw[z];exact zD.2.1
    ·exact(kU b z).1
   ·obtain ⟨m',hm,w'⟩:=fin
    obtain⟨kt,kn⟩:=keepT I'
    exact⟨⟨W7⟩,m',hm,i+1,τ',H',pV,its',k',I'.pins_of ZM,kt,λb hb=>(Qg.mp hb).elim (λe=>e▸HD') (kn b),d',v',z',w'⟩
 exact codeAny_compStart_list (loop _ rfl) (T.self _ 0 _ _ _ W1 (loop _ rfl))
def pe_lc2(B:Blk X sc M ix)(hc:X.calm=true)(hi:PI X tg iter wi)(mQ:∀C a7 ex s H,PG (ZJ H) tg g1)(ao:∀C a7 ex s H,PI (ZJ H) cO bA i4)(hg:∀C a7 ex s H,PG (ZJ H) cO g)(ht:∀C a7 ex s H,PTs (ZJ H) ifs tc)(he:∀C a7 ex s H,PE (ZJ H) elt te)(hs:∀x,foldedSetIterable iter X.env x=pure x:=by intro _;rfl)(cv:∀C x,foldedSetIterable bA (compEnvC sc (clOf sc X.env) C X.env) x=pure x:=by intro _ _;rfl):PE X (.ListComp elt [⟨tg,iter,[],0⟩,⟨cO,bA,ifs,0⟩] sc pos) (tLC2 ix wi g1 i4 g tc te):=by
 intro a7 s σ H Q I h
 rw[eval_ListComp]
 refine wpAny_comprehension_free (use:=none) rfl hs (zbv (B.clos I)) B.kind B.names (thn (hi a7 s σ H _ I h) λv s1 h1=>thn h1 λitv s2 h2=>?_)
 obtain⟨it,fp,tn,J,H2,e,I2,T,aW,f2,q⟩:=h2
 subst e
 refine lc2_block (RR:=λag C=>compPost ZY X.A X.xe none WY ag C) B hc (mQ · a7) (ao · a7) cv (hg · a7) (ht · a7) (he · a7) I2 T aW f2 q ?_
 intro D C m ys H' s' I' q' hn hC ae
 refine⟨m,hn,λh' bf=>⟨ZZ D,_,I'.letgo hn hC I2.lt I2.cl_lt I2.pin_lt I2.sz ae bf,rfl,q'⟩⟩
end
end L2
end
section
namespace RawD
open PySem PyProof.Rows PySem.W
def At(h:Nm)(a:Nb)(es:Array DictEntry)(ep:Nat):Prop:=∃o,h.get? a=some o∧o.ExactDict∧o.data=.dict es ep
def At.typeIs{s:Nh}{a:Nb}{es:Array DictEntry}{ep:Nat}(x:At s.heap a es ep):s.TypeIs (ZZ a) "dict" := let⟨o,e,c,_⟩:=x;⟨o,e,c.1⟩
def At.keep{h g:Nm}{a:Nb}{es:Array DictEntry}{ep:Nat}(x:At h a es ep)(k:∀o,h.get? a=some o→g.get? a=some o):At g a es ep:=let⟨o,e,r⟩:=x;⟨o,k _ e,r⟩
section
variable{prog:Ni}{w:Nk}{A:No}{E:Nc}{s:Nh}{d:Nb}{es:Array DictEntry}{ep:Nat}
def iter{Q:Nc}(nS:(d==sysModules)=false)(m:At s.heap d es ep)(q:Q Z6 {s with heap:=s.heap.push {cls:=.type "dict_keyiterator",data:=.fields #[ZZ d,.int 0 0,.int es.size 0,.int ep 0]}}):ZF (pyIter (ZZ d)) Q E s:=by
 obtain⟨o,ho,hc,hd⟩:=id m
 refine wpAny_pyIter_slot m.typeIs F.slot_dict_iter (wpAny_call_entry F.slot_dict_iter m.typeIs F.entry_dict_iter ?_ (F.args_dict_iter_1 _))
 unfold Builtin.«dict.__iter__»
 refine wpAny_bind ?_
 unfold Builtin.Dict.dictSlotNone
 refine wpAny_bind (wpAny_notOrdered_dict m.typeIs (show wpAny _ _ (pure (Value.ref d)) _ _ s from wpAny_pure ?_))
 show wpAny _ _ (Builtin.Dict.showsAll d >>= _) _ _ s
 unfold Builtin.Dict.showsAll
 rw[if_neg (Z2 nS Zh)]
 refine wpAny_bind (wpAny_pure (wpAny_bind (wpAny_dictEntries ho hd (wpAny_bind (wpAny_dictEpoch ho hd ?_)))))
 refine wpAny_bind (wpAny_newObj_type (wpAny_pure ⟨_,rfl, "dict_keyiterator",_,⟨_,Za _ rfl,rfl⟩,Ud.lookup,?_⟩))
 simpa[rawInt] using q
def item{j:Nb}{i:Nat}{Q:Option Value→Shared→Prop}(st:s.heap.IsKeyIter j d i es.size ep)(m:At s.heap d es ep)(hi:i<es.size)(hQ:∀g,g.IsKeyIter j d QY es.size ep→Heap.SameBut j s.heap g→Q (some es[i].key) {s with heap:=g}):ZF (pyNext (ZZ j)) Q E s:=by
 obtain⟨o,ho,hc,hd⟩:=id st
 obtain⟨od,lU,aD,gu⟩:=id m
 unfold pyNext
 refine wpAny_bind (wpAny_attempt (wpAny_callSpecial?_slot (name:=Str.ofString "__next__") st.typeIs Ud (wpAny_call_entry Ud st.typeIs F.entry_dict_keyiterator_next ?_ (F.args_dict_keyiterator_next_1 _))))
 refine wpAny_bind (wpAny_pure (wpAny_bind (wpAny_bind ?_)))
 first | refine wpAny_bind (wpAny_typeNameOfWhole_keyiter st.typeIs (wpAny_pure ?_)) | refine wpAny_bind (wpAny_typeNameOf_keyiter st.typeIs (wpAny_pure ?_))
 refine wpAny_bind (wpAny_fieldsOf ho hd ?_)
 have jg:Builtin.Dict_items.ownsTuple "dict_keyiterator" = false:=by decide
 simp only[jg,Jm,if_false]
 show wpAny _ _ (if(Value.ref d==.none)=true then _ else _) _ _ s
 rw[if_neg (show ¬((Value.ref d==.none)=true) from Zh)]
 refine wpAny_bind (wpAny_pure (wpAny_bind (wpAny_dictEntries lU gu ?_)))
 rw[if_neg ZM]
 refine wpAny_bind (wpAny_pure (wpAny_bind (wpAny_dictEpoch lU gu ?_)))
 rw[if_neg ZM]
 refine wpAny_pure ?_
 simp only[show ¬((i:Int)<0) from by lia,if_false,Wv,Kj hi]
 refine wpAny_bind ?_
 first | refine wpAny_bind (wpAny_typeNameOfWhole_keyiter st.typeIs (wpAny_pure ?_)) | refine wpAny_bind (wpAny_typeNameOf_keyiter st.typeIs (wpAny_pure ?_))
 refine wpAny_bind (wpAny_isOneOf_keyiter st.typeIs ?_)
 show wpAny _ _ (setField (ZZ j) 1 (rawInt ((i:Int)+1)) >>= _) _ _ s
 refine wpAny_bind (wpAny_setField ho hd ZM ?_)
 have ad:(s.heap.update j (Obj.mapFields (·.setIfInBounds 1 (rawInt ((i:Int)+1))))).IsKeyIter j d QY es.size ep :=
  ⟨_,Um _ ho (Obj.isFreed_of_fields (Ku hd _)),(Obj.cls_mapFields ..).trans hc,by rw[Ku hd];simp[rawInt]⟩
 refine wpAny_bind (wpAny_holding (wpAny_bind (wpAny_isOneOf_keyiter (s:={s with heap:=s.heap.update j (Obj.mapFields (·.setIfInBounds 1 (rawInt ((i:Int)+1))))}) ad.typeIs ?_)))
 show wpAny _ _ (pure es[i].key) _ _ _
 exact wpAny_pure (wpAny_pure ⟨_,rfl,wpAny_pure (hQ _ ad (Km ..))⟩)
def done{j:Nb}{i:Nat}{Q:Option Value→Shared→Prop}(hh:A.handled=none)(st:s.heap.IsKeyIter j d i es.size ep)(m:At s.heap d es ep)(hi:es.size≤i)(hQ:∀g,Heap.ExtBut j s.heap g→Q none {s with heap:=g}):ZF (pyNext (ZZ j)) Q E s:=by
 obtain⟨o,ho,hc,hd⟩:=id st
 obtain⟨od,lU,aD,gu⟩:=id m
 unfold pyNext
 refine wpAny_bind (wpAny_attempt (wpAny_callSpecial?_slot (name:=Str.ofString "__next__") st.typeIs Ud (wpAny_call_entry Ud st.typeIs F.entry_dict_keyiterator_next ?_ (F.args_dict_keyiterator_next_1 _))))
 refine wpAny_bind (wpAny_pure (wpAny_bind (wpAny_bind ?_)))
 first | refine wpAny_bind (wpAny_typeNameOfWhole_keyiter st.typeIs (wpAny_pure ?_)) | refine wpAny_bind (wpAny_typeNameOf_keyiter st.typeIs (wpAny_pure ?_))
 refine wpAny_bind (wpAny_fieldsOf ho hd ?_)
 have jg:Builtin.Dict_items.ownsTuple "dict_keyiterator" = false:=by decide
 simp only[jg,Jm,if_false]
 show wpAny _ _ (if(Value.ref d==.none)=true then _ else _) _ _ s
 rw[if_neg (show ¬((Value.ref d==.none)=true) from Zh)]
 refine wpAny_bind (wpAny_pure (wpAny_bind (wpAny_dictEntries lU gu ?_)))
 rw[if_neg ZM]
 refine wpAny_bind (wpAny_pure (wpAny_bind (wpAny_dictEpoch lU gu ?_)))
 rw[if_neg ZM]
 refine wpAny_pure ?_
 simp only[show ¬((i:Int)<0) from by lia,if_false,Wv,Array.getElem?_eq_none hi]
 refine wpAny_bind ?_
 first | refine wpAny_bind (wpAny_typeNameOfWhole_keyiter st.typeIs (wpAny_pure ?_)) | refine wpAny_bind (wpAny_typeNameOf_keyiter st.typeIs (wpAny_pure ?_))
 show wpAny _ _ (setField (ZZ j) 0 .none >>= _) _ _ s
 refine wpAny_bind (wpAny_setField ho hd ZM ?_)
 show wpAny _ _ (newExc (.type "StopIteration") [] >>= _) _ _ _
 refine wpAny_bind ?_
 simp only[newExc,newTuple]
 refine wpAny_bind (wpAny_newObj_type (wpAny_bind (m:=firstArgMember _ _) (wpAny_of_eq (a:=Value.none) (by first | rfl | (simp only[firstArgMember];rfl)) (wpAny_newObj_type ?_ (by size_fits)))) (by size_fits))
 simp only[raiseNew]
 refine wpAny_bind (wpAny_handled ?_)
 first | rw[show A.in1.handled=none from hh] | rw[hh]
 refine wpAny_bind (wpAny_pure (wpAny_throw ?_))
 refine wpAny_bind (wpAny_isInstance (T := "StopIteration") (b:=true) ⟨_,Za _ rfl,rfl⟩ isSubtype_stop ?_)
 exact wpAny_pure (hQ _ (((Km ..).extBut.push _).push _))
theorem src(nS:(d==sysModules)=false):KdlSrc prog w "dict" d d es.size (λi v=>∃e,es[i]?=some e∧v=e.key) (λh=>At h d es ep) where
 type:=λ_ m=>m.typeIs
 there:=λ_ m=>let⟨_,e,_⟩:=m;⟨Qu e,Qu e⟩
 keep:=λ_ _ m k=>m.keep λo e=>k d QX o e
 notList:=by decide
 notTuple:=by decide
 hint:=λ_ _ _ _ m q=>kdl_hint_dict m.typeIs q
 iter:=λA s hh m=>by
  have lt:d<s.heap.objs.size:=let⟨_,e,_⟩:=m;Qu e
  refine⟨_,λi h=>h.IsKeyIter s.heap.objs.size d i es.size ep∧At h d es ep,λ_ _ q=>iter nS m q,?_,⟨_,Za _ rfl,rfl,rfl⟩,m.keep λo e=>Qi _ e⟩
  exact
   {sub:=fun b hb=>by simp at hb;simp [hb]
    frame:=λi h g st k=>⟨st.1.at λo e=>k _ ZM o e,st.2.keep λo e=>k d ZM o e⟩
    item:=λi s' Q E hi st hQ=>item st.1 st.2 hi λg a b=>hQ _ g s'.toks ⟨_,Kj hi,rfl⟩ ⟨a,st.2.keep λo e=>(b.2 d (Zg lt)).trans e⟩ λc o hc e=>(b.2 c (λz=>hc (by simp[z]))).trans e
    done:=λs' Q E st hQ=>done hh st.1 st.2 QK λg a=>hQ g s'.toks λc o hc e=>a c o (λz=>hc (by simp[z])) e
    self:=λ_ _ _ _ st q=>wpAny_pyIter_keyiter st.1 q}
end
end RawD
namespace L2
open PySem PySem.Spec PyProof.Rows Tm
def kP(q:Str×Str):List Key:=[Sum.inr q.1,Sum.inr q.2]
abbrev zbn(H:Hp):List Addr→List (Str×Str)→Prop:=Paired λb r=>H b=some (.tup [.str r.1,.str r.2])
section
variable{X:Cx}
def zd9{α β:Type}{R:α→β→Prop}{as cN:List α}(p:cN.Perm as):∀{bs:List β},Paired R as bs→∃kX,kX.Perm bs∧Paired R cN kX:=by
 induction p with
 |nil=>intro bs r;cases r;exact⟨[],.nil,.nil⟩
 | cons x q ih =>
  intro bs r
  cases r with
  |cons r1 r2 =>
   obtain⟨zs,h1,h2⟩:=ih r2
   exact⟨_::zs,h1.cons _,.cons r1 h2⟩
 | swap x y l =>
  intro bs r
  cases r with
  |cons r1 r2 =>
   cases r2 with
   |cons r3 r4=>exact⟨_,List.Perm.swap ..,.cons r3 (.cons r1 r4)⟩
 |trans _ _ ih1 ih2 =>
  intro bs r
  obtain⟨zs,h1,h2⟩:=ih2 r
  obtain⟨iH,h3,h4⟩:=ih1 h2
  exact⟨iH,h3.trans h1,h4⟩
def pairs_mem{H:Hp}{as:Nl}{qs:Nq}(r:zbn H as qs){a:Nb}(ha:a∈as):∃r:Str×Str,H a=some (.tup [.str r.1,.str r.2]):=by
 induction r with
 |nil=>cases ha
 |cons h t ih =>
  rcases Qg.mp ha with zz | zz
  ·subst zz;exact⟨_,h⟩
  ·exact ih zz
def zgz(hc:X.calm=true):zck X (.builtin "sorted") (fun xs H Q=>Ex3 fun (d:Nb) (kvs:List (List Key×V)) (qs:Nq)=>Aj4 (xs=[ZZ d]) (H d=some (.dT kvs)) (kvs.map (·.1)=qs.map kP) (∀ (l:Nb) (as:Nl) (ws:Nq),H l=none→ws.Perm qs→zbn H as ws→Q (ZZ l) (ZW H l W4))):=by
 intro a7 s σ H xs us Q I r h
 obtain⟨d,kvs,qs,rfl,hq,ek,q⟩:=h
 obtain⟨u,rfl,rx⟩:=vals1 r
 cases rx
 obtain⟨z,lo,ts,rk,o,es,ep,e1,e2,e3,e4,e5⟩:=(show zbw X.prog X.w H s.heap d (.dT kvs) from I.hok d _ hq)
 have jM:RawD.At s.heap d es ep:=⟨o,e1,e2,e3⟩
 have af:kvs.length=ts.length:=Ya rk
 have aO:es.size=ts.length:=by rw[←Wm,e4,Qa]
 have im:zbn H (ts.map λt=>t.2.1) qs:=by
  clear e4 e5 aO af jM z q hq
  induction rk generalizing qs with
  |nil =>
   cases qs with
   |nil=>exact .nil
   |cons a b=>cases ek
  | @cons p t ps ts' h1 t1 ih =>
   cases qs with
   |nil=>cases ek
   |cons a b =>
    rw[Qm,Qm]at ek
    injection ek with k1 k2
    refine .cons ?_ (ih _ k2)
    have:=h1.2.1
    rw[k1]at this
    exact this
 have lC:∀ag:Array Value,ItemsOf (λi v=>∃e,es[i]?=some e∧v=e.key) ag es.size→ag.toList=(ts.map λt=>t.2.1).map Value.ref:=λag hi=>by
  apply List.ext_getElem?
  intro i
  rw[Qo,Qo]
  by_cases ae:i<es.size
  ·have cc:i < ag.size:=by rw [hi.1];exact ae
   have a1:ag[i]?=some ag[i]:=Kj cc
   obtain⟨e,h1,h2⟩:=hi.2 i _ a1
   rw[Uh,a1,h2]
   have h3:es.toList[i]?=some e:=by rw[Uh];exact h1
   rw[e4,Qo]at h3
   cases ht:ts[i]? with
   |none=>rw[ht]at h3;cases h3
   |some t =>
    rw[ht]at h3
    have h4:entryOfKey (tupleKind (zap X.prog X.w)) t=e:=Qn h3
    rw[←h4];rfl
  ·have a1:ag.toList[i]?=none:=by rw [Uh];exact Array.getElem?_eq_none (by rw [hi.1];lia)
   have a2:ts[i]?=none:=Js QL
   rw[a1,a2];rfl
 have hvr:∀as:List Addr,Vals W4 (as.map Value.ref):=λas=>by
  induction as with
  |nil=>exact .nil
  |cons a r ih=>exact .cons rfl ih
 refine zez (R:=λa9 ws=>a9.length<64→ws.Pairwise λx y=>(pairO strO strO).kle (kvP s.heap x) (kvP s.heap y)) (G:=λa9=>a9=(ts.map λt=>t.2.1).map Value.ref) (λE' R hR=>zgp (RawD.src lo) (show X.A.in1.handled=none from I.ok.hd hc) jM QL λg tk ag k le hi=>hR g tk _ k le (lC ag hi))
  (λa9 e=>by rw[e,Qa,Qa];exact zex ‹_› ‹_›) (λa9 e A' E' s' _ k=>?_) λa9 ws l g tk e r p1 p2 le k he=>?_
 ·have all:∀ v∈a9,∃ x y t,zfq s.heap v x (.str y t):=fun v hv=>by
   rw[e]at hv
   obtain⟨a,ha,rfl⟩:=Qj.mp hv
   obtain⟨rr,lL⟩:∃r:Str×Str,H a=some (.tup [.str r.1,.str r.2]):=pairs_mem im ha
   obtain⟨q',⟨t,rfl⟩,T⟩:=zhu I lL
   exact⟨_,_,t,T⟩
  refine zed k (λv hv=>let⟨x,y,t,T⟩:=all v hv;⟨x,_,T⟩) λv hv u hu x p q T T'=>.inr ?_
  obtain⟨_,y,t,T1⟩:=all v hv
  obtain⟨_,y',t',T2⟩:=all u hu
  exact⟨y,t,y',t',(zft T T1).2,(zft T' T2).2⟩
 ·subst r
  obtain⟨as,rfl,p3⟩:∃as:List Addr,ws=as.map Value.ref∧as.Perm (ts.map λt=>t.2.1):=by
   have key:∀{ws:Nj} {bs:Nl},ws.Perm (bs.map Value.ref)→∃as:List Addr,ws=as.map Value.ref∧as.Perm bs:=λ{ws bs} pm=>by
    have a2:∃as:List Addr,ws=as.map Value.ref:=by
     have a1:∀v∈ws,∃a,v=Value.ref a:=λv hv=>by
      obtain⟨a,_,e⟩:=Qj.mp (pm.mem_iff.mp hv)
      exact⟨a,e.symm⟩
     clear pm
     induction ws with
     |nil=>exact⟨[],rfl⟩
     |cons v r ih =>
      obtain⟨as,e⟩:=ih λv hv=>a1 v (Qe _ hv)
      obtain⟨x,e2⟩:=a1 v Qb
      exact⟨x::as,by rw[e,e2];rfl⟩
    obtain⟨as,rfl⟩:=a2
    refine⟨as,rfl,?_⟩
    have:=pm.map (λv=>match v with | .ref a=>a | _=>0)
    rw[Zk,Zk]at this
    simpa[Function.comp_def] using this
   exact key p1
  obtain⟨qs',q1,q2⟩:=zd9 p3 im
  refine⟨ZZ l,_,I.laid (t':=tk) k le (show zbw X.prog X.w _ g _ (QZ _) from⟨?_,as.map Value.ref,e,hvr as,he⟩),rfl,q l as qs' (I.hok.fresh le) q1 q2⟩
  rw[Qa,p3.length_eq,Qa];exact zex ‹_› ‹_›
end
end L2
end
section
set_option Elab.async false
set_option linter.all false
namespace L2
open PySem PySem.Spec PyProof.Rows
def fsk{N P:Nf}{sc:Scope}(a:sc.kind=.function:=by rfl)(b:sc.isCoroutine=false:=by rfl)(c:sc.isGenerator=false:=by rfl)(d:N.Nodup:=by decide +kernel)(e:N.take P.length=P:=by rfl)(f:∀x∈P,sc.names.lookup x=some .local∨sc.names.lookup x=some .cell:=by decide +kernel)(g:∀y∈sc.names,y.2≠.free:=by decide +kernel):zak N P sc:=⟨a,b,c,d,e,f,g⟩
section
variable{X:Cx}
def zar(i:Nat){x:Str}{e:Expr}{te:TE}{pos aE:Pos}(hN:X.N.Nodup)(he:PE X e te)(hi:X.N[i]?=some x:=by rfl)(hx:Loc X.env.scope x:=by exact Or.inl rfl)(hs:swapsWith e (QB (.Name x aE)) pos.line X.env=pure false:=by rfl)(hf:X.fn x=true∨X.env.scope.names.lookup x=some .local:=by first | exact .inl rfl | exact .inr rfl | assumption) :
  PS X (.Assign [.Name x aE] e pos) (tAsg te (ze9 i)):=zff hN hi hx he hs hf
def zan(i:Nat){x:Str}{pos:Pos}(hN:X.N.Nodup)(hi:X.N[i]?=some x:=by rfl)(hx:Loc X.env.scope x:=by exact Or.inl rfl)(hf:X.fn x=true∨X.env.scope.names.lookup x=some .local:=by first | exact .inl rfl | exact .inr rfl | assumption):PG X (.Name x pos) (ze9 i):=pg_name hN hi hx hf
def zb1{o i:Expr}{td ty:TE}{pos:Pos}(hu:X.A.units+1<cLine)(ho:PE X o td)(hi:PE X i ty)(hs:NoSl i:=by exact λ_ _=>rfl):PE X (.Subscript o i pos) (tDGet td ty):=pe_dget hu ho hi hs
end
end L2
namespace L2
open PySem PySem.Spec PyProof.Rows
def Fun.okL{P:Ni}{w:Nk}{K:Na}{mg:Nd}{base:Nm}{x qual:Str}{st:Stmt}{f:Nb}{fd:Nr}{N ps:Nf}{k:Nat}{sp:Sp}(F:Fun K x qual st f fd)(S:zak N ps (zag st))(cp:∀ (cdv:Value) (A:No) (outer:List Env) (s:Nh) (H:Hp) (vs:List V) (Q:VK) (E:XK),Room k (A.deeper (envOfC qual (zag st) s.heap.objs.size f cdv))→sp vs H Q E →
   ∃t,PSs (cxOf CX0 P w K mg base N qual (zag st) f cdv A outer s H E).nox (zca st) t∧t {nx:=λ_ H'=>Q .non H',rt:=Q} (start N vs) H)(len:∀vs H Q E,sp vs H Q E→vs.length=ps.length:=by intro _ _ _ _ h;cases h;subst_vars;rfl):ZC (k+1) f fd ps sp:=F.ok S len cp
end L2
end
section
namespace K21
open PySem L2
abbrev qR:Str := "_law_rounds_here"
abbrev qP:Str := "_law_pot_here"
abbrev qM:Str := "_law_many"
abbrev qO:Str := "_law_other"
abbrev qS:Str := "_law_script"
abbrev qN:Str := "_law_names_here"
def top(i:Nat):Stmt:=PySem.Challenge.pw_fivehues_k53_fewer_steps.main.body.getD i (.Pass ⟨0,0,0,0⟩)
def eOf:Stmt→Expr
 |.Assign _ e _=>e
 |.Return (some e) _=>e
 |.For _ e _ _ _=>e
 |.While e _ _ _=>e
 |_=>.Name "" ⟨0,0,0,0⟩
def bOf:Stmt→List Stmt
 |.For _ _ b _ _=>b
 |.If _ b _ _=>b
 |_=>[]
def aOf(i:Nat):Expr→Expr
 |.Call _ a _ _=>a.getD i (.Name "" ⟨0,0,0,0⟩)
 |.BinOp l _ r _=>[l,r].getD i l
 |.BoolOp _ a _=>a.getD i (.Name "" ⟨0,0,0,0⟩)
 |.Compare _ _ a _=>a.getD i (.Name "" ⟨0,0,0,0⟩)
 |e=>e
def scOf:Expr→Scope
 |.ListComp _ _ sc _=>sc
 |.DictComp _ _ _ sc _=>sc
 |_=>{kind:=.function,names:=[],isGenerator:=false,isCoroutine:=false}
abbrev sAt(s:Stmt)(i:Nat):Stmt:=(zca s).getD i (.Pass ⟨0,0,0,0⟩)
abbrev bAt(s:Stmt)(i:Nat):Stmt:=(bOf s).getD i (.Pass ⟨0,0,0,0⟩)
def Pot(H:Hp)(p:Nb)(b m:Int):Prop:=H p=some (.lst [W6 b,W6 m])∧0≤b∧0≤m∧m<2147483648
inductive IspTake(vs:List V)(H:Hp)(Q:VK):Prop
 |mk (p:Nb) (b m n:Int) (h0:vs=[.ref p,.int n]) (h1:Pot H p b m) (h2:0<n) (h3:n<1073741824) (h4:∀(d b' m':Int) (H':Hp),0≤d→d<n→Pot H' p b' m'→(∀c o,H c=some o→c≠p→H' c=some o)→Q (.int d) H'):IspTake vs H Q
def zf5:Sp:=λvs H Q _=>IspTake vs H Q
section
variable{P:Ni}{w:Nk}{K:Na}{mg:Nd}{base:Nm}
end
end K21
end
section
namespace Wb
section
variable{α:Type}[DecidableEq α]
def nxt(zs:List α)(x:α):α:=zs.getD ((zs.idxOf x+1)%zs.length) x
def ins(zs:List α):Option α→α→List α
 |none,n=>n::zs
 |some c,n=>zs.take (zs.idxOf c+1)++n::zs.drop (zs.idxOf c+1)
abbrev Rs(α:Type):=List (α×List α)
def row(rs:Rs α)(x:α):List α:=((rs.find? λp=>decide (p.1=x)).map (·.2)).getD []
def za4(rs:Rs α)(x:α)(r:List α):Rs α:=rs.map λp=>if p.1=x then(p.1,r) else p
def stp(rs:Rs α)(s:α×α):α×α:=(s.2,nxt (row rs s.2) s.1)
end
end Wb
namespace K21
open PySem L2 Wb
def Keep(xs:Nl)(H H':Hp):Prop:=∀c o,H c=some o→c∉xs→H' c=some o
def Keep.refl:Keep xs H H:=λ_ _ e _=>e
def Keep.trans(a:Keep xs H H1)(b:Keep xs H1 H2):Keep xs H H2:=λc o e n=>b c o (a c o e n) n
def Keep.sub(a:Keep xs H H1)(h:∀x∈xs,x∈ys):Keep ys H H1:=λc o e n=>a c o e λz=>n (h c z)
def Keep.new(h:H l=none):Keep xs H (upd H l o):=λc u e _=>by rw[zaf (zab e h)];exact e
def Keep.wr(h:l∈xs):Keep xs H (upd H l o):=λc u e n=>by rw[zaf (λz=>n (Z2 z h))];exact e
abbrev Ent:=Str×List Str×Addr
abbrev eWV(es:List Ent):List (Key×V):=es.map λe=>WO
structure RAt(H:Hp)(d:Nb)(es:List Ent):Prop where
 dc:H d=some Q7
 ro:∀e∈es,H e.2.2=some (.lst Z5)
 nd:(es.map (·.1)).Nodup
def rsOf(es:List Ent):Rs Str:=es.map λe=>(e.1,e.2.1)
def RAt.keep(r:RAt H d es)(k:Keep xs H H')(hd:d∉xs)(h:∀e∈es,e.2.2∉xs):RAt H' d es:=⟨k _ _ r.dc hd,λe he=>k _ _ (r.ro e he) (h e he),r.nd⟩
def zb3{es:List Ent}(nd:(es.map (·.1)).Nodup){e:Ent}(h:e∈es):valV (es.map fun e=>WO) (Sum.inr e.1)=some (.ref e.2.2):=by
 induction es with
 |nil=>cases h
 | cons a t ih =>
  rw[Qm,Qq]at nd
  rw[Qm]
  rcases Qg.mp h with z | z
  ·subst z;exact zce rfl
  ·rw [zbh]
   ·exact ih nd.2 z
   ·intro q
    exact nd.1 (by rw[Wd q];exact Qj.mpr ⟨e,z,rfl⟩)
def val_out{es:List Ent}{x:Str}(h:x∉es.map (·.1)):valV (es.map λe=>WO) (Sum.inr x)=none:=by
 induction es with
 |nil=>rfl
 |cons a t ih =>
  rw[Qm,Qg,not_or]at h
  rw[Qm,zbh]
  ·exact ih h.2
  ·intro q;exact h.1 (Wd q).symm
def zaw(nd:(es.map (·.1)).Nodup)(h:e∈es):ZG e.1=e.2.1:=by
 unfold row rsOf
 induction es with
 |nil=>cases h
 | cons a t ih =>
  rw[Qm,Qq]at nd
  rw[Qm]
  rcases Qg.mp h with z | z
  ·subst z;rw[Wy ZM];rfl
  ·rw [Wz]
   ·exact ih nd.2 z
   ·intro q
    exact nd.1 (by rw[of_decide_eq_true q];exact Qj.mpr ⟨e,z,rfl⟩)
def setE(es:List Ent)(x:Str)(r:Nf)(a:Nb):List Ent:=es.map λe=>if e.1=x then(e.1,r,a) else e
def zcz(es:List Ent)(x:Str)(r:Nf)(a:Nb):rsOf (setE es x r a)=za4 (rsOf es) x r:=by
 unfold rsOf setE za4
 rw[Zk,Zk]
 refine Yb λe _=>?_
 show(λe:Ent=>(e.1,e.2.1)) (if e.1=x then(e.1,r,a) else e)=if e.1=x then(e.1,r) else(e.1,e.2.1)
 by_cases h:e.1=x
 ·rw[if_pos h,if_pos h]
 ·rw[if_neg h,if_neg h]
def put_setE(h:x∈es.map (·.1)):putK (eWV es) (Sum.inr x) (ZZ a)=(setE es x r a).map λe=>WO:=by
 unfold putK setE
 rw[if_pos]
 ·rw [Zk,Zk]
  refine Yb λe _=>?_
  show(if(Sum.inr e.1:Key)=Sum.inr x then((Sum.inr e.1:Key),V.ref a) else(Sum.inr e.1,V.ref e.2.2))=(λe:Ent=>WO) (if e.1=x then(e.1,r,a) else e)
  by_cases q:e.1=x
  ·rw[if_pos (by rw[q]),if_pos q]
  ·rw[if_neg (λz=>q (Wd z)),if_neg q]
 ·obtain ⟨e,he,rfl⟩:=Qj.mp h
  exact Yh.mpr ⟨_,Qj.mpr ⟨e,he,rfl⟩,ZM⟩
def put_new{es:List Ent}{x:Str}{r:Nf}{a:Nb}(h:x∉es.map (·.1)):putK (eWV es) (Sum.inr x) (ZZ a)=(es++[(x,r,a)]).map λe=>WO:=by
 rw[zdw _ (val_out h),Qr]
 rfl
def zb2(es:List Ent)(x:Str)(r:Nf)(a:Nb):(setE es x r a).map (·.1)=es.map (·.1):=by
 unfold setE
 rw[Zk]
 refine Yb λe _=>?_
 show(if e.1=x then(e.1,r,a) else e).1=e.1
 split<;>rfl
def cut_to{xs:List V}{k:Nat}(h:k≤xs.length):cutV xs none (some (k:Int))=xs.take k:=by
 unfold cutV
 have e1:HT.sIx xs.length 0 none=0:=rfl
 have e2:HT.sIx xs.length xs.length (some (k:Int))=k:=by rw[HT.sIx_nat];omega
 rw[e1,e2];simp
def ziq{xs:List V}{k:Nat}(h:k≤xs.length):cutV xs (some (k:Int)) none=xs.drop k:=by
 unfold cutV
 have e1:HT.sIx xs.length 0 (some (k:Int))=k:=by rw[HT.sIx_nat];omega
 have e2:HT.sIx xs.length xs.length none=xs.length:=rfl
 rw[e1,e2,Qt (W0 Ky)]
def idx_lt{zs:Nf}{x:Str}(h:x∈zs):zs.idxOf x<zs.length:=List.idxOf_lt_length_iff.mpr h
def zih{zs:Nf}{x:Str}(h:x∈zs):(∃ z,(zs.map V.str)[zs.idxOf x]?=some z∧eqV z (.str x)=true)∧∀ m z,m < zs.idxOf x→(zs.map V.str)[m]?=some z→eqV z (.str x)=false:=by
 refine⟨⟨.str x,?_,beq_self_eq_true x⟩,λm z hm e=>?_⟩
 ·rw[Qo,Qc (idx_lt h),List.getElem_idxOf];rfl
 ·rw [Qo] at e
  have bC:m<zs.length:=Wj hm (idx_lt h)
  rw[Qc bC]at e
  cases e
  show(zs[m]==x)=false
  refine beq_eq_false_iff_ne.mpr λq=>?_
  have av:∀(l:Nf) (j:Nat) (hj:j<l.length),l[j]=x→l.idxOf x≤j:=by
   intro l
   induction l with
   |nil=>intro j hj;simp at hj
   | cons a t ih =>
    intro j hj e
    rw[List.idxOf_cons]
    cases j with
    |zero =>
     have e':a=x:=e
     rw[e'];simp
    | succ i =>
     have:=ih i (ZR hj) (ZR e)
     by_cases h:a=x
     ·rw[h];simp
     ·have hb:(a == x)=false:=beq_eq_false_iff_ne.mpr h
      rw[hb];simp;assumption
  have:=av zs m bC q
  omega
def zcj(zs:Nf):(zs.map V.str).all zdf=true:=by
 rw[Ja];intro v hv;obtain⟨x,_,rfl⟩:=Qj.mp hv;rfl
end K21
end
section
namespace K21
open PySem L2 Wb
def zbm:Option Str→V
 |none=>.non
 |some c=>.str c
section
variable{P:Ni}{w:Nk}{K:Na}{mg:Nd}{base:Nm}
end
end K21
end
section
namespace Wb
section
variable{α:Type}[DecidableEq α]
def itr(rs:Rs α)(s:α×α):Nat→α×α
 |0=>s
 |n+1=>stp rs (itr rs s n)
def IsSt(rs:Rs α)(s:α×α):Prop:=∃p∈rs,p.1=s.2∧s.1∈p.2
def Clo(rs:Rs α):Prop:=∀s,IsSt rs s→IsSt rs (stp rs s)
def run(rs:Rs α)(s:α×α)(n:Nat):List (α×α):=(List.range n).map (itr rs s)
def nodup_len{l m:List (α×α)}(nd:l.Nodup)(h:∀x∈l,x∈m):l.length≤m.length:=by
 induction l generalizing m with
 |nil=>exact Zc _
 |cons a t ih =>
  rw[Qq]at nd
  have ha:=h a Qb
  have:=ih (m:=m.erase a) nd.2 λx hx=>(List.mem_erase_of_ne (λe=>nd.1 (by rw[←e];exact hx))).mpr (h x (Qe _ hx))
  rw[Yf ha]at this
  have hp:0<m.length:=Yd ha
  rw[Qv];lia
end
end Wb
namespace K21
open PySem L2 Wb
section
variable{P:Ni}{w:Nk}{K:Na}{mg:Nd}{base:Nm}
def zbn.keep{H H':Hp}{as:Nl}{qs:Nq}(r:zbn H as qs)(k:∀b x y,H b=some (.tup [x,y])→H' b=some (.tup [x,y])):zbn H' as qs:=by
 induction r with
 |nil=>exact .nil
 |cons h t ih=>exact .cons (k _ _ _ h) ih
end
end K21
end
section
namespace Wb
section
variable{α:Type}[DecidableEq α]
structure Gen(G:Rs α→Prop):Prop where
 clo:∀rs,G rs→Clo rs
 nd:∀rs,G rs→(rs.map (·.1)).Nodup
 sub:∀rs,G rs→∀p∈rs,p.2.Nodup∧∀x∈p.2,x∈rs.map (·.1)
 sy:∀rs,G rs→∀p∈rs,∀x∈p.2,p.1∈row rs x
 nil:G []
 new:∀rs x,G rs→x∉rs.map (·.1)→G (rs++[(x,[])])
 leaf:∀rs x p c,G rs→x∉rs.map (·.1)→p∈rs→(∀y,c=some y→y∈p.2)→(c=none→p.2=[])→G (za4 (za4 (rs++[(x,[])]) p.1 (ins p.2 c x)) x [p.1])
 tie:∀rs c p n,G rs→p∈rs→c∈p.2→(itr rs (c,p.1) n).2≠p.1→(itr rs (c,p.1) n).2∉p.2 →
  G (za4 (za4 rs p.1 (ins p.2 (QB c) (itr rs (c,p.1) n).2)) (itr rs (c,p.1) n).2 (ins (row rs (itr rs (c,p.1) n).2) (some (itr rs (c,p.1) n).1) p.1))
def zcs{l m:List α}(nd:l.Nodup)(h:∀x∈l,x∈m):l.length≤m.length:=by
 induction l generalizing m with
 |nil=>exact Zc _
 |cons a t ih =>
  rw[Qq]at nd
  have ha:=h a Qb
  have:=ih (m:=m.erase a) nd.2 λx hx=>(List.mem_erase_of_ne (λe=>nd.1 (by rw[←e];exact hx))).mpr (h x (Qe _ hx))
  rw[Yf ha]at this
  have hp:0<m.length:=Yd ha
  rw[Qv];lia
def Gen.rows{G:Rs α→Prop}(g:Gen G){rs:Rs α}(h:G rs):∀p∈rs,p.2.length≤rs.length:=λp hp=>by
 obtain⟨a,b⟩:=g.sub rs h p hp
 have:=zcs a b
 rwa[Qa]at this
end
end Wb
namespace K21
open PySem L2 Wb
def zga{H:Hp}{p a:Nb}{b m:Int}{zs:Nf}(h:Pot H p b m)(ha:H a=some (.lst QN)):a≠p:=za3 ha h.1 (by
 intro z
 have z':zs.map V.str=[W6 b,W6 m]:=by injection z
 cases zs with
 |nil=>cases z'
 |cons x t=>rw[Qm]at z';injection z' with z1 _;cases z1)
def pot_nd{H:Hp}{p d:Nb}{b m:Int}{kvs:List (Key×V)}(h:Pot H p b m)(hd:H d=some (.dK kvs)):d≠p:=za3 hd h.1 ZX
def Pot.keep{H H':Hp}{p:Nb}{b m:Int}{xs:Nl}(h:Pot H p b m)(k:Keep xs H H')(hp:p∉xs):Pot H' p b m:=⟨k _ _ h.1 hp,h.2⟩
def zbb{H H':Hp}{p:Nb}(h:∀c o,H c=some o→c≠p→H' c=some o):Keep [p] H H':=λc o e n=>h c o e λz=>n (by rw[z];exact Qd.mpr rfl)
section
variable{P:Ni}{w:Nk}{K:Na}{mg:Nd}{base:Nm}
def ze7{x:Str}{zs:Nf}:inV (.str x) QN=decide (x∈zs):=by
 unfold inV
 rw[Yy,Yh,decide_eq_true_iff]
 constructor
 ·rintro ⟨v,hv,e⟩
  obtain⟨y,hy,rfl⟩:=Qj.mp hv
  have e':y=x:=eq_of_beq e
  rw[←e'];exact hy
 ·intro h
  exact⟨.str x,Qj.mpr ⟨x,h,rfl⟩,beq_self_eq_true x⟩
def zbl{c:Bool}{A B:Prop}(h:c=false)(b:B):if c=true then A else B:=by rw[h];exact iteF b
def zbs{c:Bool}{A B:Prop}(h:c=true)(a:A):if c=true then A else B:=by rw[h];exact iteT a
def zg9{X:Cx}{K:Na}(hK:X.K=K)(hu:X.A.units<cLine):OpR X (compareOp .NotEq) (rNil true K):=hK▸zdm hu
end
end K21
end
section
namespace K21
open PySem L2 Wb
def rat_new(R:RAt H d es)(hx:x∉es.map (·.1))(ha:H a=some (QZ (r.map V.str))) :
  RAt (upd H d (.dK (putK (eWV es) (Sum.inr x) (ZZ a)))) d (es++[(x,r,a)]):=by
 refine⟨by rw[zac,put_new (r:=r) hx],λe he=>?_,?_⟩
 ·have key:∀ {b:Nb} {xs:List V},H b=some (QZ xs)→(upd H d (.dK (putK (es.map fun e=>WO) (Sum.inr x) (ZZ a)))) b=some (QZ xs):=fun {b xs} hb=>by
   rw[zaf (za3 hb R.dc ZX)];exact hb
  rcases Qk.mp he with z | z
  ·exact key (R.ro e z)
  ·rw[Qd.mp z];exact key ha
 ·rw [Qr,Zd]
  refine⟨R.nd,Qq.mpr ⟨ZM,Zo⟩,λy hy z hz=>?_⟩
  have gj:z=x:=by simpa using hz
  rw[gj]
  exact λe=>hx (e▸hy)
def rat_set(R:RAt H d es)(hx:x∈es.map (·.1))(ha:H a=some (QZ (r.map V.str))) :
  RAt (upd H d (.dK (putK (eWV es) (Sum.inr x) (ZZ a)))) d (setE es x r a):=by
 refine⟨by rw[zac,put_setE (r:=r) hx],λe he=>?_,by rw[zb2];exact R.nd⟩
 have key:∀{b:Nb} {xs:List V},H b=some (QZ xs)→(upd H d (.dK (putK (eWV es) (Sum.inr x) (ZZ a)))) b=some (QZ xs):=λ{b xs} hb=>by
  rw[zaf (za3 hb R.dc ZX)];exact hb
 unfold setE at he
 obtain⟨e0,h0,rfl⟩:=Qj.mp he
 by_cases z:e0.1=x
 ·rw[if_pos z];exact key ha
 ·rw[if_neg z];exact key (R.ro e0 h0)
def zeq(es:List Ent):((eWV es).map λp=>kV p.1)=(es.map (·.1)).map V.str:=by
 rw[Zk,Zk];rfl
section
variable{P:Ni}{w:Nk}{K:Na}{mg:Nd}{base:Nm}
end
def zfm(z:Str):Prop:=1≤z.length∧z.length≤8∧∀c∈z.cps.toList,97≤c∧c≤122
def zfh{α β:Type}{f:α→β}{l:List α}(h:(l.map f).Nodup):l.Nodup:=by
 induction l with
 |nil=>exact Zo
 |cons a t ih =>
  rw[Qm,Qq]at h
  exact Qq.mpr ⟨λz=>h.1 (Qj.mpr ⟨a,z,rfl⟩),ih h.2⟩
def zib{α β:Type}{f:α→β}{l:List α}(nd:l.Nodup)(h:∀a∈l,∀b∈l,f a=f b→a=b):(l.map f).Nodup:=by
 induction l with
 |nil=>exact Zo
 |cons a t ih =>
  rw[Qq]at nd
  rw[Qm,Qq]
  refine⟨λz=>?_,ih nd.2 λx hx y hy=>h x (Qe _ hx) y (Qe _ hy)⟩
  obtain⟨b,hb,e⟩:=Qj.mp z
  exact nd.1 (h b (Qe _ hb) a Qb e▸hb)
def zdo{β:Type}{f:Nat→β}{n:Nat}(h:∀a,a<n→∀b,b<n→f a=f b→a=b):((List.range n).map f).Nodup :=
 zib List.nodup_range λa ha b hb=>h a (Wh.mp ha) b (Wh.mp hb)
section
variable{P:Ni}{w:Nk}{K:Na}{mg:Nd}{base:Nm}
end
def zav(k:Keep xs H H')(h:H' l=none)(hx:l∉xs):H l=none:=by
 cases z:H l with
 |none=>rfl
 |some o=>rw[k _ _ z hx]at h;cases h
section
variable{P:Ni}{w:Nk}{K:Na}{mg:Nd}{base:Nm}
end
end K21
end
section
namespace K21
open PySem L2 Wb Tm
def leS_anti(a b:Str)(h:leS a b)(g:leS b a):a=b:=by
 have e:a.cps.toList=b.cps.toList:=List.le_antisymm (List.not_lt.mp h) (List.not_lt.mp g)
 cases a;cases b
 congr 1
 exact Array.toList_inj.mp e
end K21
end
section
namespace K21
open PySem L2 Wb
abbrev sWeb:Stmt:=top 40
abbrev sPlaces:Stmt:=inClass sWeb 1
structure TAt(H:Hp)(d:Nb)(es:List Ent):Prop where
 dc:H d=some Q7
 ro:∀e∈es,H e.2.2=some (.tup Z5)
 nd:(es.map (·.1)).Nodup
def TAt.keep(r:TAt H d es)(k:Keep xs H H')(hd:d∉xs)(h:∀e∈es,e.2.2∉xs):TAt H' d es:=⟨k _ _ r.dc hd,λe he=>k _ _ (r.ro e he) (h e he),r.nd⟩
structure WAt(H:Hp)(C x dx d:Nb)(es:List Ent):Prop where
 ob:H x=some (.ins C dx [("rounds",ZZ d)])
 ta:TAt H d es
def WAt.keep(r:WAt H C x dx d es)(k:Keep xs H H')(hx:x∉xs)(hd:d∉xs)(h:∀e∈es,e.2.2∉xs):WAt H' C x dx d es :=
 ⟨k _ _ r.ob hx,r.ta.keep k hd h⟩
inductive IspPlaces(C:Nb)(vs:List V)(H:Hp)(Q:VK):Prop
 |mk (x dx d:Nb) (es:List Ent) (h0:vs=[.ref x]) (h1:WAt H C x dx d es) (h2:∀l,H l=none→Q (.ref l) (upd H l (.lst ((es.map (·.1)).map V.str)))):IspPlaces C vs H Q
def zhy(C:Nb):Sp:=λvs H Q _=>IspPlaces C vs H Q
def refs_perm(h:ws.Perm W4):∃cN:List Addr,ws=cN.map V.ref∧cN.Perm as:=by
 have key:∀ws:List V,(∀v∈ws,∃a,v=V.ref a)→∃cN:List Addr,ws=cN.map V.ref:=by
  intro ws
  induction ws with
  |nil=>intro _;exact⟨[],rfl⟩
  |cons v t ih =>
   intro hh
   obtain⟨a,rfl⟩:=hh v Qb
   obtain⟨cN,rfl⟩:=ih λv hv=>hh v (Qe _ hv)
   exact⟨a::cN,rfl⟩
 obtain⟨cN,rfl⟩:=key ws λv hv=>by
  obtain⟨a,_,rfl⟩:=Qj.mp (h.mem_iff.mp hv)
  exact⟨a,rfl⟩
 refine⟨cN,rfl,?_⟩
 have:=h.map (λv:V=>match v with | .ref a=>a | _=>0)
 rw[Zk,Zk]at this
 have e:∀l:List Addr,l.map ((λv:V=>match v with | .ref a=>a | _=>0)∘V.ref)=l:=λl=>List.map_id l
 rw[e,e]at this
 exact this
section
variable{P:Ni}{w:Nk}{K:Na}{mg:Nd}{base:Nm}
def scPlaces:zak ["self"] ["self"] (zag sPlaces):=fsk
def ok_places(F:Fun K "places" "Web.places" sPlaces f fd)(cW:Cls K C)(nW:zd2 K C "rounds")(aq:mg "list" = none):ZC 1 f fd ["self"] (zhy C):=by
 refine F.okL scPlaces Z1
 obtain⟨x,dx,d,es,rfl,wt,k⟩:=h
 have hx:=wt.ob
 have T:=wt.ta
 refine⟨_,zah (zau (zbp (zc2 rfl) Q4 aq Wi (zaa (pe_fld QH rfl) zae))),?_⟩
 refine⟨W7,x,C,dx,_,W7,hx,cW,nW,rfl,d,W7,.inl T.dc,λl hl=>?_⟩
 rw[zeq]
 exact k l hl
end
def zaz:∀{as:List α} {bs:List β},Paired R as bs→∀{i:Nat} (hi:i<as.length),∃ao:i<bs.length,R as[i] bs[i]:=by
 intro as bs r
 induction r with
 |nil=>intro i hi;simp at hi
 | cons h t ih =>
  intro i hi
  cases i with
  |zero=>exact⟨ZM,h⟩
  |succ j =>
   obtain⟨a,b⟩:=ih (i:=j) (ZR hi)
   exact⟨ZR a,b⟩
section
variable{P:Ni}{w:Nk}{K:Na}{mg:Nd}{base:Nm}
end
end K21
end
section
namespace L2
open PySem
def ps_no:PS X st (λ_ _ _=>False):=λ_ _ _ _ _ _ h=>h.elim
def pe_tyN(hg:Gl X x)(hm:X.mg x=none)(hv:bootBuiltins x=some (.type T))(hn:x ≠ "__name__" := by decide)(fT:WT=false:=by decide):PE X (.Name x pos) (tC (.ty T)):=by
 intro a7 s σ H Q I h
 exact zgk I hg hm hv ⟨.ty T,H,I,rfl,h⟩ hn fT
end L2
namespace K21
open PySem L2 Wb
abbrev zd6:Stmt:=top 34
inductive IspIsName(vs:List V)(H:Hp)(Q:VK):Prop
 |mk (z:Str) (h0:vs=[.str z]) (h1:zfm z) (h2:∀H',Keep [] H H'→Q (.bl true) H'):IspIsName vs H Q
def spIsName:Sp:=λvs H Q _=>IspIsName vs H Q
abbrev zev:Scope:=scOf (aOf 0 (aOf 1 (eOf (sAt zd6 1))))
def csIsName_k:zev.kind=.function:=by rfl
def csIsName_c:∀y∈zev.names,y.2≠.cell:=by decide +kernel
def csIsName_n:∀y∈zev.names,y.2=.local→zev.names.lookup y.1=some .local:=by decide +kernel
def csIsName_f:∀y∈zev.names,y.2=.free→(zag zd6).names.lookup y.1=some .cell∨(zag zd6).names.lookup y.1=some .free:=by decide +kernel
def nd1:(["sign"]:List Str).Nodup:=by decide +kernel
section
variable{P:Ni}{w:Nk}{K:Na}{mg:Nd}{base:Nm}
def scIsName:zak ["thing"] ["thing"] (zag zd6):=fsk
def ok_isname(F:Fun K "is_name" "is_name" zd6 f fd)(hML:mg "MOST_LETTERS" = some (.int 8 tk))(sm:mg "isinstance" = none)(qZ:mg "str" = none)(af:mg "len" = none)(aI:mg "all" = none):ZC 1 f fd ["thing"] spIsName:=by
 refine F.okL scIsName Z1
 obtain⟨z,rfl,hz,k⟩:=h
 have hu:=zcd hr
 have aw  := sizeLine_eq
 refine⟨_,zad (zb0 (pt_not (pt_val (zal call_isi_str Q4 sm PyProof.Rows.boot_isinstance (ZV 0 (pe_tyN (T := "str") rfl qZ PyProof.Rows.boot_str))))) (zah ps_no) zas)
  (zah (zau (pe_and (pe_chain op_le op_le zai (zal call_len_str Q4 af Yj (Z0 0)) (zge (v:=.int 8) rfl hML ⟨tk,rfl⟩))
   (pe_one (zal (call_all rfl) Q4 aI PyProof.Rows.boot_all (zaa (zgd (M:=["sign"]) (ix:=[none]) ⟨csIsName_k,csIsName_c,csIsName_n,csIsName_f,rfl,by decide +kernel,λj i x h1 h2=>by
      match j,h1,h2 with
      |0,_,h2=>cases h2
      |n+1,h1,_=>cases h1⟩ rfl (pi_str QH) (λC a7 ex s H=>zan 0 nd1)
      (λC a7 ex s H=>zc0) (λC a7 ex s H=>pe_chain op_le_str op_le_str pe_str QH pe_str)) zae)))))),?_⟩
 obtain⟨hz1,bW,jY⟩:=hz
 have hz1':1≤z.cps.size:=hz1
 have hz2':z.cps.size≤8:=bW
 refine⟨W7,z,rfl,W7,zbl rfl ?_⟩
 refine⟨W7,z,rfl,(by show z.cps.size≤sizeLine;lia),_,W7,rfl,W7,zbs (WW (by show(1:Int)≤(z.cps.size:Int);exact zar9 ‹_›)) ?_⟩
 refine⟨_,W7,rfl,W7,zbs (WW (by show(z.cps.size:Int)≤8;lia)) ?_⟩
 have asc:z.cps.all (· < 128)=true:=by
  rw[Array.all_eq_true]
  intro i hi
  have:=jY z.cps[i] (by rw[Array.mem_toList_iff];exact Array.getElem_mem hi)
  exact decide_eq_true QL
 refine⟨W7,z,rfl,asc,λi m ys τ H1=>Aj5 (H1=H) (m=z.cps.size-i) (i≤z.cps.size) (ys=List.replicate i (V.bl true)) (Ex1 λx0=>τ=[x0]),⟨_,rfl,rfl,Zc _,rfl,none,rfl⟩,?_⟩
 rintro i m ys τ H1 ⟨rfl,rfl,hi,rfl,x0,rfl⟩
 by_cases ae:i<z.cps.size
 ·refine .inr ⟨ae,by rw [Us];lia,?_⟩
  rintro y H' ⟨rfl,c,hc,rfl⟩
  obtain⟨h1,h2⟩:=jY c (by rw[Array.mem_toList_iff];exact Array.mem_of_getElem? hc)
  have l1:(!decide ((⟨#[c]⟩:Str).cps.toList<("a" : Str).cps.toList))=true:=by
   rw[Kn,decide_eq_false_iff_not,show("a" : Str).cps.toList=[97] from by decide +kernel]
   show ¬[c]<[97]
   intro h
   have:=List.cons_lt_cons_iff.mp h
   rcases this with q | ⟨_,q⟩
   ·exact zar10 ‹_› ‹_›
   ·exact Wu _ q
  have l2:(!decide (("z" : Str).cps.toList<(⟨#[c]⟩:Str).cps.toList))=true:=by
   rw[Kn,decide_eq_false_iff_not,show("z" : Str).cps.toList=[122] from by decide +kernel]
   show ¬[122]<[c]
   intro h
   have:=List.cons_lt_cons_iff.mp h
   rcases this with q | ⟨_,q⟩
   ·exact zar10 ‹_› ‹_›
   ·exact Wu _ q
  refine⟨W7,_,W7,rfl,W7,zbs l1 ?_⟩
  refine⟨_,W7,rfl,_,?_,rfl,rfl,ae,?_,W7⟩
  ·exact zar1 ‹_›
  ·rw[l2,List.replicate_succ']
 ·have e:i=z.cps.size:=by exact zar3 ‹_› ‹_›
  subst e
  refine .inl ⟨QK,λD hD=>?_⟩
  refine⟨D,List.replicate z.cps.size true,rfl,Z4 (by rw[zac,List.map_replicate]),?_⟩
  have:(List.replicate z.cps.size true).all id=true:=by
   rw[Ja];intro b hb;exact(List.mem_replicate.mp hb).2
  rw[this]
  exact k _ (QD hD)
end
end K21
end
section
namespace L2
open PySem
def lc_at(T:St→Prop)(ys:List V)(hl:ys.length=xs.length)(ha:SqL K H a xs)(hn:xs.length≤sizeLine)(h0:T τ)(hs:∀(i:Nat) (hi:i<xs.length) (aK:i<ys.length),∀τ,T τ→∀k:V→St→Hp→Prop,(∀τ2,T τ2→k ys[i] τ2 H)→g xs[i] τ H λ τ2 H2=>te τ2 H2 λy H4=>k y τ2 H4)(q:∀D,H D=none→Q (ZZ D) (ZW H D ys)):rLC g tAll te Q (Itl K a) τ H:=by
 refine⟨λi m zs τ H1=>Aj5 (H1=H) (T τ) (m=xs.length-i) (i≤xs.length) (zs=ys.take i),⟨_,rfl,h0,rfl,Zc _,rfl⟩,?_⟩
 rintro i m zs τ H1 ⟨rfl,ht,rfl,hi,rfl⟩
 by_cases ae:i<xs.length
 ·refine .inr ⟨⟨xs,xs[i],ha,Qc ae⟩,by rw [Zt];lia,?_⟩
  rintro x H' ⟨rfl,hx⟩
  have gk:=hx xs ha
  rw[Qc ae]at gk
  have oH:xs[i]=x:=Qn gk
  rw[←oH]
  refine hs i ae (by exact zar6 ‹_› ‹_›) τ ht (λy τ2 H4=>∃m',m'<xs.length-i∧Aj5 (H4=H') (T τ2) (m'=xs.length-QY) (i+1≤xs.length) (ys.take i++[y]=ys.take QY)) λ τ2 h2=>?_
  exact⟨_,QP,rfl,h2,rfl,ae,by rw[Ql (by exact zar6 ‹_› ‹_›:i<ys.length)]⟩
 ·have e:i=xs.length:=by exact zar3 ‹_› ‹_›
  refine .inl ⟨⟨xs,ha,QL⟩,λD hD=>?_⟩
  rw[Qt QL]
  exact q D hD
end L2
namespace K21
open PySem L2 Wb
structure RwAt(H:Hp)(l:Nb)(as:Nl)(es:List Ent):Prop where
 ls:H l=some (QZ W4)
 ts:Paired (λa (e:Ent)=>H a=some (.tup [.str e.1,.ref e.2.2])) as es
 ro:∀e∈es,H e.2.2=some (.lst Z5)
def RwAt.keep(r:RwAt H l as es)(k:ZE H H'):RwAt H' l as es :=
 ⟨k _ _ r.ls ZM,Paired.imp' (λ_ _ h=>k _ _ h ZM) r.ts,λe he=>k _ _ (r.ro e he) ZM⟩
abbrev zfw:Stmt:=top 35
abbrev zd0:Stmt:=top 36
abbrev zh5:Stmt:=top 37
inductive zhp(vs:List V)(H:Hp)(Q:VK):Prop
 |mk (l:Nb) (as:Nl) (es:List Ent) (h0:vs=[.ref l]) (h1:RwAt H l as es) (h2:(∀e∈es,e.2.1.length≤100∧zfm e.1∧∀x∈e.2.1,zfm x)) (h3:∀H',Keep [] H H'→Q .non H'):zhp vs H Q
def spNoNames:Sp:=λvs H Q _=>zhp vs H Q
inductive IspTwice(vs:List V)(H:Hp)(Q:VK):Prop
 |mk (l:Nb) (as:Nl) (es:List Ent) (h0:vs=[.ref l]) (h1:RwAt H l as es) (h2:es.length≤60) (h3:(es.map (·.1)).Nodup) (h4:(∀e∈es,e.2.1.length≤100∧e.2.1.Nodup)) (h5:∀H',Keep [] H H'→Q .non H'):IspTwice vs H Q
def spTwice:Sp:=λvs H Q _=>IspTwice vs H Q
inductive IspOneWay(vs:List V)(H:Hp)(Q:VK):Prop
 |mk (l:Nb) (as:Nl) (es:List Ent) (h0:vs=[.ref l]) (h1:RwAt H l as es) (h2:(es.map (·.1)).Nodup) (h3:(∀e∈es,e.1∉e.2.1∧∀x∈e.2.1,∃e'∈es,e'.1=x∧e.1∈e'.2.1)) (h4:∀H',Keep [] H H'→Q .non H'):IspOneWay vs H Q
def spOneWay:Sp:=λvs H Q _=>IspOneWay vs H Q
section
variable{P:Ni}{w:Nk}{K:Na}{mg:Nd}{base:Nm}
def zeh:zak ["rows", "place", "around", "thing"] ["rows"] (zag zfw):=fsk
def ok_nonames(F:Fun K "refuse_no_names" "refuse_no_names" zfw f fd)(FN:Fun K "is_name" "is_name" zd6 fn fdn)(bN:Binds K fdn ["thing"] [])(mN:mg "is_name" = some (ZZ fn))(GN:ZC 1 fn fdn ["thing"] spIsName):ZC 2 f fd ["rows"] spNoNames:=by
 refine F.okL zeh Z1
 obtain⟨l,as,es,rfl,R,hok,k⟩:=h
 have hu:=zcd hr
 have aw  := sizeLine_eq
 refine⟨_,zah (zba Ze rfl (zao QH) (zcp rfl (zaj (zan 1 zeh.nd) (zaj (zan 2 zeh.nd) zbq)))
  (zah (zba Ze rfl (zao (za1 zhb (zbk (Z0 1)) Q8)) (zan 3 zeh.nd)
   (zah (zb0 (pt_not (pt_val (zcq GN hr rfl mN FN.kp bN .nil zc9 (Z0 3)))) (zah ps_no) zas))))),?_⟩
 refine⟨W7,l,rfl,⟨_,SqL.of R.ls⟩,zbf (xs:=as.map V.ref) (λi σ H'=>Aj2 (ZE H H') (Ex3 λx1 x2 x3=>σ=[ZP l,x1,x2,x3])) ⟨Keep.refl,none,none,none,rfl⟩ (λi σ H' _ hh=>SqL.of (hh.1 _ _ R.ls ZM)) ?_ ?_⟩
 ·rintro i y σ H1 hx ⟨k1,x1,x2,x3,rfl⟩
  have hi:i<as.length:=by
   have:=(Qz.mp hx).1
   rwa[Qa]at this
  have gG:y=.ref as[i]:=by
   rw[Qo,Qc hi]at hx
   exact(Qn hx).symm
  subst gG
  obtain⟨ao,e9⟩:=zaz R.ts hi
  obtain⟨dE,c9,bm⟩:=hok _ (Qs ao)
  have eY:=k1 _ _ (R.ro _ (Qs ao)) ZM
  refine⟨as[i],W7,WV (k1 _ _ e9 ZM),rfl,_,W7,_,W7,rfl,?_⟩
  refine⟨W7,(ZS 1),λq hq=>?_⟩
  have nq:es[i].2.2≠q:=zab eY hq
  refine⟨W7,q,es[i].2.2,_,W7,rfl,zac,(QF nq eY),(by rw[Qa];show 1+_≤sizeLine;lia),λq2 bZ=>?_⟩
  have k2:ZE H (upd (upd H1 q (.lst [.str es[i].1])) q2 (QZ ([V.str es[i].1]++es[i].2.1.map V.str))):=(k1.trans (QD hq)).trans (QD bZ)
  have ja:(upd (upd H1 q (.lst [.str es[i].1])) q2 (QZ ([V.str es[i].1]++es[i].2.1.map V.str))) q2=some (QZ ((es[i].1::es[i].2.1).map V.str)):=zac
  generalize upd (upd H1 q (.lst [.str es[i].1])) q2 (QZ ([V.str es[i].1]++es[i].2.1.map V.str))=H2 at k2 ja
  refine⟨q2,rfl,⟨_,Z4 ja⟩,zbf (xs:=(es[i].1::es[i].2.1).map V.str) (λj σ H'=>Aj2 (ZE H2 H') (Ex3 λx1 x2 x3=>σ=[ZP l,x1,x2,x3])) ⟨Keep.refl,_,_,_,rfl⟩ (λj σ H' _ hh=>SqL.of (hh.1 _ _ ja ZM)) ?_ ?_⟩
  ·rintro j y σ H3 hy ⟨k3,y1,y2,y3,rfl⟩
   obtain⟨z,hz,rfl⟩:=Qj.mp (Yv hy)
   have cP:zfm z:=by
    rcases Qg.mp hz with e | e
    ·rw[e];exact c9
    ·exact bm z e
   refine⟨W7,z,rfl,cP,λH4 k4=>⟨_,rfl,zbl rfl ?_⟩⟩
   exact⟨k3.trans k4,_,_,W7⟩
  ·rintro σ H3 ⟨k3,y1,y2,y3,rfl⟩
   exact⟨k2.trans k3,_,_,W7⟩
 ·rintro σ H1 ⟨k1,x1,x2,x3,rfl⟩
  exact k H1 k1
abbrev csTwA:Scope:=scOf (eOf (sAt zd0 0))
abbrev csTwB:Scope:=scOf (aOf 1 (eOf (sAt zd0 1)))
def csTwA_k:csTwA.kind=.function:=by rfl
def csTwA_c:∀y∈csTwA.names,y.2≠.cell:=by decide +kernel
def csTwA_n:∀y∈csTwA.names,y.2=.local→csTwA.names.lookup y.1=some .local:=by decide +kernel
def csTwA_f:∀y∈csTwA.names,y.2=.free→(zag zd0).names.lookup y.1=some .cell∨(zag zd0).names.lookup y.1=some .free:=by decide +kernel
def csTwB_k:csTwB.kind=.function:=by rfl
def csTwB_c:∀y∈csTwB.names,y.2≠.cell:=by decide +kernel
def csTwB_n:∀y∈csTwB.names,y.2=.local→csTwB.names.lookup y.1=some .local:=by decide +kernel
def csTwB_f:∀y∈csTwB.names,y.2=.free→(zag zd0).names.lookup y.1=some .cell∨(zag zd0).names.lookup y.1=some .free:=by decide +kernel
def ndPA:(["place", "around"]:List Str).Nodup:=by decide +kernel
def scTwice:zak ["rows", "places", "names"] ["rows"] (zag zd0):=fsk
def noB(h1:sc.kind=.function)(h2:∀y∈sc.names,y.2≠.cell)(h3:∀y∈sc.names,y.2=.local→sc.names.lookup y.1=some .local)(h4:∀y∈sc.names,y.2=.free→X.env.scope.names.lookup y.1=some .cell∨X.env.scope.names.lookup y.1=some .free)(h5:n=M.length)(h6:M.Nodup):Blk X sc M (List.replicate n none):=⟨h1,h2,h3,h4,by rw [Us,h5],h6,fun j i x _ h=>by
   have:=Yv h
   have:=(List.mem_replicate.mp this).2
   cases this⟩
def pg_tupK(hK:X.K=K)(hc:X.calm=true)(h:PGs X es t)(hn:(assignEach es X.env).length=n:=by rfl)(ap:(assignEach es X.env).findIdx? (·.1)=none:=by rfl):PG X (.Tuple es k pos) (gTup K n t):=hK▸zcp hc h hn ap
def ok_twice(F:Fun K "refuse_twice" "refuse_twice" zd0 f fd)(af:mg "len" = none)(rh:mg "set" = none):ZC 1 f fd ["rows"] spTwice:=by
 refine F.okL scTwice Z1
 obtain⟨l,as,es,rfl,R,gr,ay,hok,k⟩:=h
 have hu:=zcd hr
 have aw  := sizeLine_eq
 refine⟨_,zad (ps_lc (i:=1) (M:=["place", "around"]) (ix:=[none,none]) scTwice.nd rfl rfl (noB (n:=2) csTwA_k csTwA_c csTwA_n csTwA_f rfl ndPA) rfl (zao QH)
   (λC a7 ex s H=>pg_tupK (K:=K) (n:=2) rfl rfl (zaj (zan 0 ndPA) (zaj (zan 1 ndPA) zbq)))
   (λC a7 ex s H=>zc0) (λC a7 ex s H=>pv 0) rfl)
  (zah (zba Ze rfl (zao (za1 zhb (zbk (Z0 1)) (zgd (M:=["place", "around"]) (ix:=[none,none]) (noB (n:=2) csTwB_k csTwB_c csTwB_n csTwB_f rfl ndPA) rfl (zao QH)
   (λC a7 ex s H=>pg_tupK (K:=K) (n:=2) rfl rfl (zaj (zan 0 ndPA) (zaj (zan 1 ndPA) zbq)))
   (λC a7 ex s H=>zc0) (λC a7 ex s H=>pv 1)))) (zan 2 scTwice.nd)
   (zah (zb0 (zaq op_lt (zal zi1 Q4 af Yj (zaa (zbp (zix rfl) Q4 rh PyProof.Rows.boot_set (Z0 2)) zae))
    (zal zat Q4 af Yj (Z0 2)) (zbe _)) (zah ps_no) zas)))),?_⟩
 have ba:as.length=es.length:=Ya R.ts
 refine⟨W7,l,rfl,⟨_,SqL.of R.ls⟩,lc_at (xs:=as.map V.ref) (λ τ=>∃x0 x1,τ=[x0,x1]) QE (by rw[Qa,Qa,Qa,ba]) (SqL.of R.ls) (by rw[Qa];lia) ⟨none,none,rfl⟩ ?_ (λD hD=>?_)⟩
 ·rintro i hi aK τ ⟨x0,x1,rfl⟩ kk hk
  rw[Qa]at hi
  obtain⟨ao,e9⟩:=zaz R.ts hi
  rw[Zl]
  refine⟨as[i],W7,WV e9,rfl,_,W7,_,W7,rfl,W7,?_⟩
  have e:((es.map (·.1)).map V.str)[i]=V.str es[i].1:=by rw[Zl,Zl]
  rw[e]at hk
  exact hk _ ⟨_,_,rfl⟩
 ·have k1:ZE H (ZW H D QE):=Keep.new hD
  have hD1:(ZW H D QE) D=some (.lst QE):=zac
  generalize upd H D (.lst QE)=H1 at k1 hD1
  have R1:=R.keep k1
  refine⟨W7,(ZS 1),λq hq=>?_⟩
  have k2:ZE H1 (upd H1 q (.lst [ZZ D])):=Keep.new hq
  have bZ:(upd H1 q (.lst [ZZ D])) q=some (.lst [ZZ D]):=zac
  generalize upd H1 q (.lst [ZZ D])=H2 at k2 bZ
  have R2:=R1.keep k2
  refine⟨W7,l,rfl,⟨_,SqL.of R2.ls⟩,lc_at (xs:=as.map V.ref) (λ τ=>∃x0 x1,τ=[x0,x1]) (es.map λe=>V.ref e.2.2) (by rw[Qa,Qa,ba]) (SqL.of R2.ls) (by rw[Qa];lia) ⟨none,none,rfl⟩ ?_ (λD2 cY=>?_)⟩
  ·rintro i hi aK τ ⟨x0,x1,rfl⟩ kk hk
   rw[Qa]at hi
   obtain⟨ao,e9⟩:=zaz R2.ts hi
   rw[Zl]
   refine⟨as[i],W7,WV e9,rfl,_,W7,_,W7,rfl,W7,?_⟩
   rw[Zl]at hk
   exact hk _ ⟨_,_,rfl⟩
  ·have k3:ZE H2 (upd H2 D2 (.lst (es.map fun e=>V.ref e.2.2))):=Keep.new cY
   have bV:(upd H2 D2 (.lst (es.map λe=>V.ref e.2.2))) D2=some (.lst (es.map λe=>V.ref e.2.2)):=zac
   generalize upd H2 D2 (.lst (es.map λe=>V.ref e.2.2))=H3 at k3 bV
   refine⟨q,D2,_,W7,rfl,k3 _ _ bZ ZM,bV,(by rw[Qa];show 1+_≤sizeLine;lia),λq4 hq4=>?_⟩
   have k4:ZE H3 (upd H3 q4 (.lst ([V.ref D]++es.map λe=>V.ref e.2.2))):=Keep.new hq4
   have j6:(upd H3 q4 (.lst ([V.ref D]++es.map λe=>V.ref e.2.2))) q4=some (.lst ([V.ref D]++es.map λe=>V.ref e.2.2)):=zac
   generalize upd H3 q4 (.lst ([V.ref D]++es.map λe=>V.ref e.2.2))=H4 at k4 j6
   have de:ZE H H4:=((k1.trans k2).trans k3).trans k4
   refine⟨q4,rfl,⟨_,Z4 j6⟩,zbf (xs:=[V.ref D]++es.map λe=>V.ref e.2.2) (λi σ H'=>Aj2 (ZE H4 H') (Ex2 λx1 x2=>σ=[ZP l,x1,x2])) ⟨Keep.refl,_,_,rfl⟩ (λi σ H' _ hh=>SqL.of (hh.1 _ _ j6 ZM)) ?_ ?_⟩
   ·rintro i y σ H5 hy ⟨k5,x1,x2,rfl⟩
    obtain⟨a,zs,rfl,ha,cP,bH⟩:∃(a:Nb) (zs:Nf),y=V.ref a∧H5 a=some (.lst QN)∧zs.Nodup∧zs.length≤100:=by
     rcases Qk.mp (Yv hy) with z | z
     ·refine ⟨D,es.map (·.1),Qd.mp z,?_,ay,by rw [Qa];exact Zi gr ZU⟩
      exact k5 _ _ (k4 _ _ (k3 _ _ (k2 _ _ hD1 ZM) ZM) ZM) ZM
     ·obtain ⟨e,he,rfl⟩:=Qj.mp z
      exact⟨e.2.2,e.2.1,rfl,k5 _ _ (de _ _ (R.ro e he) ZM) ZM,(hok e he).2,(hok e he).1⟩
    refine⟨W7,a,zs,rfl,Z4 ha,cP,QL,λt ht=>?_⟩
    have qk:a≠t:=zab ha ht
    refine⟨t,zs,rfl,zac,QL,W7,a,W7,.inl (Z4 (by rw[zaf qk];exact ha)),_,W7,rfl,W7,zbl (decide_eq_false (by rw[Qa];lia)) ?_⟩
    exact⟨k5.trans (QD ht),_,W7⟩
   ·rintro σ H5 ⟨k5,x1,x2,rfl⟩
    exact k H5 (de.trans k5)
end
end K21
end
section
namespace K21
open PySem L2 Wb
abbrev sLeast:Stmt:=top 39
inductive IspLeast(vs:List V)(H:Hp)(Q:VK):Prop
 |mk (a:Nb) (zs:Nf) (h0:vs=[.ref a]) (h1:H a=some (.lst (zs.map V.str))) (h2:zs.length≤100) (h3:∀(t:Nb) (j:Nat) (H':Hp),j≤zs.length→H' t=some (.tup ((zs.drop j++zs.take j).map V.str))→H t=none→Keep [] H H'→Q (.ref t) H'):IspLeast vs H Q
def spLeast:Sp:=λvs H Q _=>IspLeast vs H Q
def paired_map{α β γ:Type}{R:α→γ→Prop}{f:β→γ}:∀{as:List α} {bs:List β},Paired (λa b=>R a (f b)) as bs→Paired R as (bs.map f):=by
 intro as bs r
 induction r with
 |nil=>exact .nil
 |cons h t ih=>exact .cons h ih
section
variable{P:Ni}{w:Nk}{K:Na}{mg:Nd}{base:Nm}
def zeg:zak ["rows", "rounds", "one", "around", "other"] ["rows"] (zag zh5):=fsk
def ok_oneway{f:Nb}{fd:Nr}(F:Fun K "refuse_one_way" "refuse_one_way" zh5 f fd)(cj:mg "dict" = none):ZC 1 f fd ["rows"] spOneWay:=by
 refine F.okL zeg Z1
 obtain⟨l,as,es,rfl,R,ay,hok,k⟩:=h
 have hu:=zcd hr
 have aw  := sizeLine_eq
 refine⟨_,zad (zar 1 zeg.nd (zbp (zg0 rfl) Q4 cj Xc (Z0 0)))
  (zah (zba Ze rfl (zao QH) (zcp rfl (zaj (zan 2 zeg.nd) (zaj (zan 3 zeg.nd) zbq)))
   (zah (zba Ze rfl (zao (pv 3)) (zan 4 zeg.nd)
    (zah (zb0 (PW.pt (pw_or (zaq op_eq (pv 4) Q8 (zbe _)) (pw_or1 (zaq zcw Q8 (pe_dget2 hu QQ (pv 4) (zbk zae) ⟨rfl,rfl,rfl,rfl⟩) rfl)))) (zah ps_no) zas)))))),?_⟩
 have hps:(es.map λe:Ent=>(e.1,V.ref e.2.2)).map (·.1)=es.map (·.1):=by rw[Zk];rfl
 refine⟨W7,l,as,es.map λe=>(e.1,V.ref e.2.2),rfl,R.ls,paired_map R.ts,Z2 hps ay,λd hd=>?_⟩
 have hpd:((es.map λe:Ent=>(e.1,V.ref e.2.2)).map λp=>((Sum.inr p.1:Key),p.2))=eWV es:=by rw[Zk];rfl
 rw[hpd]
 have k1:ZE H (upd H d Q7):=Keep.new hd
 have kK:(upd H d Q7) d=some Q7:=zac
 generalize upd H d Q7=H1 at k1 kK
 have R1:=R.keep k1
 refine⟨W7,l,rfl,⟨_,SqL.of R1.ls⟩,zbf (xs:=as.map V.ref) (λi σ H'=>Aj2 (ZE H1 H') (Ex3 λx2 x3 x4=>σ=[ZP l,ZP d,x2,x3,x4])) ⟨Keep.refl,none,none,none,rfl⟩ (λi σ H' _ hh=>SqL.of (hh.1 _ _ R1.ls ZM)) ?_ ?_⟩
 ·rintro i y σ H2 hx ⟨k2,x2,x3,x4,rfl⟩
  have hi:i<as.length:=by
   have:=(Qz.mp hx).1
   rwa[Qa]at this
  have gG:y=.ref as[i]:=by
   rw[Qo,Qc hi]at hx
   exact(Qn hx).symm
  subst gG
  obtain⟨ao,e9⟩:=zaz R1.ts hi
  obtain⟨c9,bm⟩:=hok _ (Qs ao)
  have eY:=k2 _ _ (R1.ro _ (Qs ao)) ZM
  refine⟨as[i],W7,WV (k2 _ _ e9 ZM),rfl,_,W7,_,W7,rfl,?_⟩
  refine⟨W7,es[i].2.2,rfl,⟨_,Z4 eY⟩,zbf (xs:=es[i].2.1.map V.str) (λj σ H'=>Aj2 (ZE H2 H') (Ex1 λx4=>σ=[ZP l,ZP d,QB (.str es[i].1),QB (.ref es[i].2.2),x4])) ⟨Keep.refl,_,rfl⟩ (λj σ H' _ hh=>SqL.of (hh.1 _ _ eY ZM)) ?_ ?_⟩
  ·rintro j y σ H3 hy ⟨k3,y4,rfl⟩
   obtain⟨z,hz,rfl⟩:=Qj.mp (Yv hy)
   obtain⟨e',br,ph,aB⟩:=bm z hz
   have av:z≠es[i].1:=λq=>c9 (q▸hz)
   have np:=k3 _ _ (k2 _ _ kK ZM) ZM
   refine⟨W7,W7,rfl,W7,zbl (decide_eq_false (λq=>av (by injection q))) ?_⟩
   refine⟨W7,W7,d,rfl,.inl ⟨_,.inl np⟩,W7,(ZS 0),λq hq=>?_⟩
   have ndq:d≠q:=zab np hq
   have tD:(upd H3 q WQ) d=some Q7:=by rw[zaf ndq];exact np
   have lN:(upd H3 q WQ) e'.2.2=some (QZ (e'.2.1.map V.str)):=by
    have h3:=k3 _ _ (k2 _ _ (R1.ro e' br) ZM) ZM
    rw[zaf (zab h3 hq)];exact h3
   have dg:=DGet.k (k:=Sum.inr z) tD
   rw[←ph,zb3 ay br,ph]at dg
   refine⟨_,dg,e'.2.2,W7,.inl (Z4 lN),rfl,zcj _,W7,?_⟩
   refine zbl (by rw[if_pos rfl,ze7,decide_eq_true aB];rfl) ?_
   exact⟨k3.trans (QD hq),W7⟩
  ·rintro σ H3 ⟨k3,y4,rfl⟩
   exact⟨k2.trans k3,_,_,W7⟩
 ·rintro σ H2 ⟨k2,x2,x3,x4,rfl⟩
  exact k H2 (k1.trans k2)
def scLeast:zak ["around", "at"] ["around"] (zag sLeast):=fsk
def ok_least(F:Fun K "from_least" "from_least" sLeast f fd)(jl:mg "min" = none)(qT:mg "tuple" = none):ZC 1 f fd ["around"] spLeast:=by
 refine F.okL scLeast Z1
 obtain⟨a,zs,rfl,ha,hz,k⟩:=h
 have aw  := sizeLine_eq
 refine⟨_,zad (zar 1 scLeast.nd (pe_ifExp (zel QH (by intro _;rfl)) (zfn Zy Kt Ks zic QH (zaa (zal (ziy rfl) Q4 jl PyProof.Rows.boot_min (Z0 0)) zae)) zai))
  (zah (zau (zbp ziw Q4 qT PyProof.Rows.boot_tuple (zaa (za1 zhb (zcg zcy QH (zb6 QQ) zc8) (zcg zcy QH zc8 (zb6 QQ))) zae)))),?_⟩
 have aG:(zs.map V.str).length=zs.length:=Qa ..
 refine⟨W7,_,.inl ⟨_,Z4 ha,rfl⟩,?_⟩
 by_cases qB:zs=[]
 ·refine zbl (by rw [qB];rfl) ?_
  have h0:0≤zs.length:=Zc _
  refine⟨W7,W7,W7,a,W7,Z4 ha,λp1 h1=>?_⟩
  have n1:a≠p1:=zab ha h1
  refine⟨W7,W7,W7,a,W7,Z4 (by rw[zaf n1];exact ha),λp2 h2=>?_⟩
  have eM:p1≠p2:=zab (o:=_) zac h2
  refine⟨p1,p2,_,W7,rfl,(QF eM zac),zac,?_,λp3 h3=>?_⟩
  ·have q1:=zbu QN (QB (0:Int)) none
   have q2:=zbu QN none (QB (0:Int))
   rw[aG]at q1 q2
   show _+_≤sizeLine
   lia
  have ecut:cutV QN (QB (0:Int)) none++cutV QN none (QB (0:Int))=(zs.drop (0:Nat)++zs.take (0:Nat)).map V.str:=by
   show cutV QN (QB (((0:Nat)):Int)) none++cutV QN none (QB (((0:Nat)):Int))=_
   rw[ziq (Z2 aG h0),cut_to (Z2 aG h0),Qr,Ko,Je]
  rw[ecut]
  refine⟨p3,W7,.inl ⟨Z4 zac,λt ht=>?_⟩⟩
  have kk:ZE H _:=(((QD h1).trans (QD h2)).trans (QD h3)).trans (Keep.new (o:=.tup ((zs.drop (0:Nat)++zs.take (0:Nat)).map V.str)) ht)
  exact k t (0:Nat) _ h0 zac (zav (xs:=[]) (((QD h1).trans (QD h2)).trans (QD h3)) ht ZM) kk
 ·refine zbs (by cases hh:zs with
   |nil=>exact absurd hh qB
   |cons _ _=>rfl) ?_
  refine⟨W7,.inl ⟨rfl,_,Z4 ha⟩,W7,a,zs,rfl,Z4 ha,qB,λz cu _=>?_⟩
  obtain⟨i1,i2⟩:=zih cu
  have hj:zs.idxOf z≤zs.length:=Wt (idx_lt cu)
  refine⟨a,_,_,W7,rfl,ha,rfl,zcj _,i1,i2,?_⟩
  refine⟨W7,W7,W7,a,W7,Z4 ha,λp1 h1=>?_⟩
  have n1:a≠p1:=zab ha h1
  refine⟨W7,W7,W7,a,W7,Z4 (by rw[zaf n1];exact ha),λp2 h2=>?_⟩
  have eM:p1≠p2:=zab (o:=_) zac h2
  refine⟨p1,p2,_,W7,rfl,(QF eM zac),zac,?_,λp3 h3=>?_⟩
  ·have q1:=zbu QN (QB ((zs.idxOf z):Int)) none
   have q2:=zbu QN none (QB ((zs.idxOf z):Int))
   rw[aG]at q1 q2
   show _+_≤sizeLine
   lia
  have ecut:cutV QN (QB ((zs.idxOf z):Int)) none++cutV QN none (QB ((zs.idxOf z):Int))=(zs.drop (zs.idxOf z)++zs.take (zs.idxOf z)).map V.str:=by
   rw[ziq (Z2 aG hj),cut_to (Z2 aG hj),Qr,Ko,Je]
  rw[ecut]
  refine⟨p3,W7,.inl ⟨Z4 zac,λt ht=>?_⟩⟩
  have kk:ZE H _:=(((QD h1).trans (QD h2)).trans (QD h3)).trans (Keep.new (o:=.tup ((zs.drop (zs.idxOf z)++zs.take (zs.idxOf z)).map V.str)) ht)
  exact k t (zs.idxOf z) _ hj zac (zav (xs:=[]) (((QD h1).trans (QD h2)).trans (QD h3)) ht ZM) kk
end
end K21
end
section
namespace Wb
section lk
variable{β:Type}
def Lk(f:β→β):β→List β→β→Prop
 |s,[],e=>f s=e
 |s,x::t,e=>f s=x∧Lk f x t e
def zhf:∀{A:List β} {s:β},Lk f s (A++x::B) e↔Lk f s A x∧Lk f x B e:=by
 intro A
 induction A with
 |nil=>intro s;exact Iff.rfl
 |cons a t ih =>
  intro s
  show f s=a∧Lk f a (t++x::B) e↔(f s=a∧Lk f a t x)∧Lk f x B e
  rw[ih,and_assoc]
def lk_congr:∀{t:List β} {s:β},(∀y,y=s∨y∈t→g y=f y)→Lk f s t e→Lk g s t e:=by
 intro t
 induction t with
 |nil=>intro s h k;exact(h s QX).trans k
 |cons a t ih =>
  intro s h k
  refine⟨(h s QX).trans k.1,ih (λy hy=>h y (.inr ?_)) k.2⟩
  rcases hy with z | z
  ·rw[z];exact Qb
  ·exact Qe _ z
def Cyc(f:β→β)(c:List β):Prop:=∃s t,c=s::t∧Lk f s t s
def zc1(h:Cyc f (A++x::B)):Lk f x (B++A) x:=by
 obtain⟨s,t,e,k⟩:=h
 cases A with
 |nil =>
  cases e
  rw[Zw];exact k
 |cons a A' =>
  cases e
  obtain⟨k1,k2⟩:=zhf.mp k
  exact zhf.mpr ⟨k2,k1⟩
def zet(h:∀y∈c,g y=f y)(k:Cyc f c):Cyc g c:=by
 obtain⟨s,t,e,k⟩:=k
 subst e
 exact⟨s,t,rfl,lk_congr (λy hy=>h y (Qg.mpr hy)) k⟩
end lk
section nx
variable{α:Type}[DecidableEq α]
def za8{A B:List α}{w:α}(h:w∉A):(B++A++[w]).head?=some (nxt (A++w::B) w):=by
 have hi:(A++w::B).idxOf w=A.length:=by
  rw[List.idxOf_append,if_neg h,List.idxOf_cons_self];lia
 unfold nxt
 rw[hi,Qy,Qv]
 cases B with
 |nil =>
  have e:(A.length+1)%(A.length+(([]:List α).length+1))=0:=by simp
  rw[e]
  cases A with
  |nil=>rfl
  |cons a t=>rfl
 | cons b t =>
  have e:(A.length+1)%(A.length+((b::t).length+1))=A.length+1:=Nat.mod_eq_of_lt (by rw[Qv];lia)
  rw[e]
  have:(A++w::b::t).getD (A.length+1) w=b:=by
   rw[Zb,Kd (by exact Wq _ _)]
   have:A.length+1-A.length=1:=by lia
   rw[this];rfl
  rw[this];rfl
def zbx{zs:List α}{c:α}(h:c∈zs)(nd:zs.Nodup):∃A B,zs=A++c::B∧c∉A∧c∉B:=by
 obtain⟨A,B,e⟩:=Yl h
 refine⟨A,B,e,?_,?_⟩
 ·rw [e,Zd] at nd
  exact λz=>nd.2.2 _ z _ Qb rfl
 ·rw [e,Zd,Qq] at nd
  exact nd.2.1.1
def zc5{A B:List α}{c n:α}(h:c∉A):ins (A++c::B) (QB c) n=A++c::n::B:=by
 have hi:(A++c::B).idxOf c=A.length:=by
  rw[List.idxOf_append,if_neg h,List.idxOf_cons_self];lia
 show(A++c::B).take ((A++c::B).idxOf c+1)++n::(A++c::B).drop ((A++c::B).idxOf c+1)=_
 rw[hi]
 have e1:(A++c::B).take (A.length+1)=A++[c]:=by
  rw[List.take_append,Qt (by exact Wq _ _)]
  have:A.length+1-A.length=1:=by lia
  rw[this];rfl
 have e2:(A++c::B).drop (A.length+1)=B:=by
  rw[List.drop_append,Ua (by exact Wq _ _)]
  have:A.length+1-A.length=1:=by lia
  rw[this];rfl
 rw[e1,e2,Qw];rfl
variable{zs:List α}{c n:α}
def zdp(hc:c∈zs)(nd:zs.Nodup){w:α}:w∈ins zs (QB c) n↔w=n∨w∈zs:=by
 obtain⟨A,B,rfl,h1,h2⟩:=zbx hc nd
 rw[zc5 h1]
 simp only[Qk,Qg]
 constructor
 ·rintro (h | h | h | h)
  ·exact .inr (.inl h)
  ·exact .inr (.inr (.inl h))
  ·exact .inl h
  ·exact .inr (.inr (.inr h))
 ·rintro (h | h | h | h)
  ·exact .inr (.inr (.inl h))
  ·exact .inl h
  ·exact .inr (.inl h)
  ·exact .inr (.inr (.inr h))
def zid(hc:c∈zs)(nd:zs.Nodup):(ins zs (QB c) n).length=zs.length+1:=by
 obtain⟨A,B,rfl,h1,h2⟩:=zbx hc nd
 rw[zc5 h1]
 simp only[Qy,Qv];lia
def nd_ins(hc:c∈zs)(nd:zs.Nodup)(hn:n∉zs):(ins zs (QB c) n).Nodup:=by
 obtain⟨A,B,rfl,h1,h2⟩:=zbx hc nd
 rw[zc5 h1]
 rw[Zd,Qq]at nd
 rw[Qk,Qg,not_or,not_or]at hn
 obtain⟨nA,⟨ncB,nB⟩,nAB⟩:=nd
 rw[Zd,Qq,Qq]
 refine⟨nA,⟨?_,hn.2.2,nB⟩,λa ha b hb=>?_⟩
 ·rw[Qg,not_or];exact⟨λe=>hn.2.1 e.symm,ncB⟩
 ·rcases Qg.mp hb with z | z
  ·rw[z];exact nAB a ha c Qb
  ·rcases Qg.mp z with y | y
   ·rw[y];exact λe=>hn.1 (e▸ha)
   ·exact nAB a ha b (Qe _ y)
def zeo(hc:c∈zs)(nd:zs.Nodup):nxt (ins zs (QB c) n) c=n:=by
 obtain⟨A,B,rfl,h1,h2⟩:=zbx hc nd
 rw[zc5 h1]
 have k:=za8 (B:=n::B) h1
 exact(Qn k).symm
def zen(hc:c∈zs)(nd:zs.Nodup)(hn:n∉zs):nxt (ins zs (QB c) n) n=nxt zs c:=by
 obtain⟨A,B,rfl,h1,h2⟩:=zbx hc nd
 rw[zc5 h1]
 rw[Qk,Qg,not_or,not_or]at hn
 have e:A++c::n::B=(A++[c])++n::B:=by rw[Qw];rfl
 have rS:n∉A++[c]:=by
  rw[Qk,not_or,Qd];exact⟨hn.1,hn.2.1⟩
 have k1:=za8 (B:=B) rS
 have k2:=za8 (B:=B) h1
 rw[←e]at k1
 refine Qn (k1.symm.trans (Eq.trans ?_ k2))
 cases B with
 |cons b t=>rfl
 |nil=>cases A with
  |nil=>rfl
  |cons a t=>rfl
def zdn(hc:c∈zs)(nd:zs.Nodup)(hn:n∉zs){w:α}(hw:w∈zs)(qH:w≠c):nxt (ins zs (QB c) n) w=nxt zs w:=by
 obtain⟨A,B,rfl,h1,h2⟩:=zbx hc nd
 rw[zc5 h1]
 rw[Zd,Qq]at nd
 obtain⟨nA,⟨ncB,nB⟩,nAB⟩:=nd
 rw[Qk,Qg,not_or,not_or]at hn
 rcases Qk.mp hw with h | h
 ·obtain ⟨A1,A2,rfl,g1,g2⟩:=zbx h nA
  have k1:=za8 (A:=A1) (B:=A2++c::n::B) g1
  have k2:=za8 (A:=A1) (B:=A2++c::B) g1
  rw[Qw,Wr,Qw,Wr]
  refine Qn (k1.symm.trans (Eq.trans ?_ k2))
  cases A2<;>rfl
 ·rcases Qg.mp h with z | z
  ·exact absurd z qH
  ·obtain ⟨B1,B2,rfl,g1,g2⟩:=zbx z nB
   have hwA:w∉A:=λq=>nAB _ q _ (Qe _ z) rfl
   have df:w≠n:=λq=>hn.2.2 (q▸z)
   have m1:w∉A++c::n::B1:=by
    simp only[Qk,Qg,not_or];exact⟨hwA,qH,df,g1⟩
   have m2:w∉A++c::B1:=by
    simp only[Qk,Qg,not_or];exact⟨hwA,qH,g1⟩
   have k1:=za8 (B:=B2) m1
   have k2:=za8 (B:=B2) m2
   have e1:A++c::n::(B1++w::B2)=(A++c::n::B1)++w::B2:=by rw[Qw];rfl
   have e2:A++c::(B1++w::B2)=(A++c::B1)++w::B2:=by rw[Qw];rfl
   rw[e1,e2]
   refine Qn (k1.symm.trans (Eq.trans ?_ k2))
   cases B2 with
   |cons b t=>rfl
   |nil=>cases A<;>rfl
def nxt_rot(nd:zs.Nodup)(k:Nat){w:α}(hw:w∈zs):nxt (zs.drop k++zs.take k) w=nxt zs w:=by
 obtain⟨A,B,rfl,h1,h2⟩:=zbx hw nd
 have k2:=za8 (B:=B) h1
 by_cases hk:k≤A.length
 ·have e:(A++w::B).drop k++(A++w::B).take k=A.drop k++w::(B++A.take k):=by
   rw[List.drop_append,List.take_append]
   have:k-A.length=0:=by lia
   rw[this,List.drop_zero,List.take_zero,Zw,Qw];rfl
  have k1:=za8 (A:=A.drop k) (B:=B++A.take k) (λz=>h1 (List.mem_of_mem_drop z))
  rw[e]
  refine Qn (k1.symm.trans (Eq.trans ?_ k2))
  rw[Qw B,We]
 ·have e:(A++w::B).drop k++(A++w::B).take k=(B.drop (k - A.length - 1)++A)++w::B.take (k - A.length - 1):=by
   rw[List.drop_append,List.take_append,Ua QL,Qt QL]
   have:k-A.length=(k-A.length-1)+1:=by lia
   conv=>lhs;rw[this]
   rw[List.drop_succ_cons,List.take_succ_cons,Ww,Qw]
  have k1:=za8 (A:=B.drop (k-A.length-1)++A) (B:=B.take (k-A.length-1)) (λz=>by
   rcases Qk.mp z with y | y
   ·exact h2 (List.mem_of_mem_drop y)
   ·exact h1 y)
  rw[e]
  refine Qn (k1.symm.trans (Eq.trans ?_ k2))
  rw[←Qw,We]
end nx
section
variable{α:Type}[DecidableEq α]
def st(r:α→List α)(s:α×α):α×α:=(s.2,nxt (r s.2) s.1)
inductive Conn(r:α→List α)(x:α):α→Prop
 |refl:Conn r x x
 |step {y z:α}:Conn r x y→z∈r y→Conn r x z
def Conn.trans{r:α→List α}{x y z:α}(a:Conn r x y)(b:Conn r y z):Conn r x z:=by
 induction b with
 |refl=>exact a
 |step _ h ih=>exact .step ih h
def Conn.mono(h:∀x y,y∈r x→y∈r' x)(a:Conn r x y):Conn r' x y:=by
 induction a with
 |refl=>exact .refl
 |step _ hz ih=>exact .step ih (h _ _ hz)
def wt(ns:List α)(r:α→List α)(aa:α→α)(t:α):Int:=(ns.map λx=>if aa x=t then 2+(if r x=[] then 2 else 0)-((r x).length:Int) else 0).sum
def ct(cs:List (List (α×α)))(aa:α→α)(t:α):Int:=(cs.map λc=>if(c.any λs=>decide (aa s.1=t))=true then(2:Int) else 0).sum
structure Cert(ns:List α)(r:α→List α)(cs:List (List (α×α)))(aa:α→α):Prop where
 nd:ns.Nodup
 ro:∀x,x∉ns→r x=[]
 rn:∀x,(r x).Nodup
 ir:∀x,x∉r x
 sy:∀x y,y∈r x→x∈r y
 cf:cs.flatten.Nodup
 cm:∀s,s∈cs.flatten↔s.1∈r s.2
 cy:∀c∈cs,Cyc (st r) c
 ln:∀x∈ns,aa x∈ns
 la:∀x y,y∈r x→aa y=aa x
 co:∀x∈ns,∀y∈ns,aa x=aa y→Conn r x y
 eu:∀x∈ns,wt ns r aa (aa x)+ct cs aa (aa x)=4
variable{ns:List α}{r r':α→List α}{cs:List (List (α×α))}{aa:α→α}
def Cert.inn(C:Cert ns r cs aa){x y:α}(h:y∈r x):x∈ns:=Jb λz=>by rw[C.ro x z]at h;cases h
def Cert.inn'(C:Cert ns r cs aa){x y:α}(h:y∈r x):y∈ns:=C.inn (C.sy x y h)
def zey{g g':α→Int}:∀ {l:List α},l.Nodup→a∈l→(∀ x∈l,x≠a→g' x=g x)→(l.map g').sum=(l.map g).sum+(g' a - g a):=by
 intro l
 induction l with
 |nil=>intro _ h;cases h
 | cons b t ih =>
  intro nd h e
  rw[Qq]at nd
  rw[Qm,Qm,Zm,Zm]
  by_cases hb:b=a
  ·have:(t.map g').sum=(t.map g).sum:=by
    congr 1
    exact Yb λx hx=>e x (Qe _ hx) λz=>nd.1 (by rw[hb,←z];exact hx)
   rw[this,hb];lia
  ·have h':a∈t:=by
    rcases Qg.mp h with z | z
    ·exact absurd z.symm hb
    ·exact z
   rw[ih nd.2 h' λx hx=>e x (Qe _ hx),e b Qb hb];lia
def zcf{β:Type}{g g':β→Int}{l:List β}(h:∀x∈l,g' x=g x):(l.map g').sum=(l.map g).sum:=by
 congr 1;exact Yb h
def ziu(C:Cert ns r cs aa){N R:List (List (α×α))}{c0 news:List (α×α)}(hR:∀c∈R,c∈cs)(bD:cs.flatten.Perm (c0++R.flatten))(hN:N.flatten.Perm (news++c0))(ay:news.Nodup)(cR:∀s∈news,s.1∉r s.2)(hmem:∀s:α×α,s.1∈r' s.2↔s∈news∨s.1∈r s.2)(ny:∀c∈N,Cyc (st r') c)(ap:∀s:α×α,s.1∈r s.2→s∉c0→st r' s=st r s) :
  (N++R).flatten.Nodup∧(∀s,s∈(N++R).flatten↔s.1∈r' s.2)∧∀c∈N++R,Cyc (st r') c:=by
 have hp:(N++R).flatten.Perm (news++cs.flatten):=by
  rw[Wl]
  refine(List.Perm.append_right _ hN).trans ?_
  rw[Qw]
  exact Zz _ bD.symm
 refine⟨?_,λs=>?_,λc hc=>?_⟩
 ·rw [hp.nodup_iff,Zd]
  exact⟨ay,C.cf,λa ha b hb e=>cR a ha (by rw[e];exact(C.cm b).mp hb)⟩
 ·rw[hp.mem_iff,Qk,hmem,C.cm]
 ·rcases Qk.mp hc with z | z
  ·exact ny c z
  ·refine zet (fun y hy=>?_) (C.cy c (hR c z))
   have hyR:y∈R.flatten:=Zs.mpr ⟨c,z,hy⟩
   refine ap y ((C.cm y).mp (bD.mem_iff.mpr (Qh _ hyR))) λoG=>?_
   have:=bD.nodup_iff.mp C.cf
   rw[Zd]at this
   exact this.2.2 y oG y hyR rfl
def zdt{β:Type}{g:β→Int}:∀{l:List β},(∀x∈l,g x=0)→(l.map g).sum=0:=by
 intro l
 induction l with
 |nil=>intro _;rfl
 |cons a t ih =>
  intro h
  rw[Qm,Zm,h a Qb,ih λx hx=>h x (Qe _ hx)];rfl
def Cert.inc(C:Cert ns r cs aa){c:List (α×α)}(hc:c∈cs){s:α×α}(hs:s∈c):s.1∈r s.2:=(C.cm s).mp (Zs.mpr ⟨c,hc,hs⟩)
def ct_lab{ah:α→α}{t:α}(h:∀c∈cs,∀s∈c,ah s.1=aa s.1):ct cs ah t=ct cs aa t:=by
 refine zcf λc hc=>?_
 have:(c.any λs=>decide (ah s.1=t))=c.any λs=>decide (aa s.1=t):=by
  rw[Yy,Yh,Yh]
  constructor
  ·rintro⟨s,hs,e⟩;exact⟨s,hs,by rwa[h c hc s hs]at e⟩
  ·rintro⟨s,hs,e⟩;exact⟨s,hs,by rw[h c hc s hs];exact e⟩
 rw[this]
def cert_new(C:Cert ns r cs aa){x:α}(hx:x∉ns){ah:α→α}(hl:∀y∈ns,ah y=aa y)(bn:ah x=x):Cert (ns++[x]) r cs ah:=by
 have hrx:r x=[]:=C.ro x hx
 have ne:∀{y},y∈ns→y≠x:=λ{y} hy e=>hx (e▸hy)
 have aB:∀c∈cs,∀s∈c,s.1∈ns:=λc hc s hs=>C.inn' (C.inc hc hs)
 have kL:∀t,ct cs ah t=ct cs aa t:=λt=>ct_lab λc hc s hs=>hl _ (aB c hc s hs)
 have lx:∀y∈ns,aa y≠x:=λy hy e=>hx (e▸C.ln y hy)
 have tE:ct cs aa x=0:=zdt λc hc=>if_neg λz=>by
  obtain⟨s,hs,e⟩:=Yh.mp z
  exact lx _ (aB c hc s hs) (of_decide_eq_true e)
 have hw:∀t,wt (ns++[x]) r ah t=wt ns r aa t+if x=t then 4 else 0:=λt=>by
  unfold wt
  rw[Qr,List.sum_append,Qm,Xf,Zm,List.sum_nil]
  congr 1
  ·exact zcf λz hz=>by rw[hl z hz]
  ·rw[bn,hrx];simp
 refine⟨?_,λy hy=>C.ro y λz=>hy (Qp _ z),C.rn,C.ir,C.sy,C.cf,C.cm,C.cy,λy hy=>?_,λy z hz=>?_,λy hy z hz e=>?_,λy hy=>?_⟩
 ·rw [Zd]
  exact⟨C.nd,Qq.mpr ⟨ZM,Zo⟩,λa ha b hb=>by rw[Qd.mp hb];exact ne ha⟩
 ·rcases Qk.mp hy with h | h
  ·rw[hl y h];exact Qp _ (C.ln y h)
  ·rw[Qd.mp h,bn];exact Qh _ Qb
 ·rw[hl _ (C.inn' hz),hl _ (C.inn hz)];exact C.la y z hz
 ·rcases Qk.mp hy with h | h <;> rcases Qk.mp hz with g | g
  ·rw[hl _ h,hl _ g]at e;exact C.co y h z g e
  ·rw [hl _ h,Qd.mp g,bn] at e
   exact absurd e (lx y h)
  ·rw [hl _ g,Qd.mp h,bn] at e
   exact absurd e.symm (lx z g)
  ·rw[Qd.mp h,Qd.mp g];exact .refl
 ·rw [kL,hw]
  rcases Qk.mp hy with h | h
  ·rw [hl _ h,if_neg (fun z=>lx y h z.symm)]
   have:=C.eu y h;lia
  ·rw [Qd.mp h,bn,if_pos rfl,tE]
   have:wt ns r aa x=0:=zdt λz hz=>if_neg (lx z hz)
   rw[this];rfl
end
section
variable{β:Type}
def zfy:∀{t:List β},g s'=f s→(∀y∈t,g y=f y)→Lk f s t e→Lk g s' t e:=by
 intro t
 cases t with
 |nil=>intro h _ k;exact h.trans k
 |cons a t =>
  intro h hh k
  exact⟨h.trans k.1,lk_congr (λy hy=>hh y (Qg.mpr hy)) k.2⟩
def lk_lab{γ:Type}{f:β→β}{lb:β→γ}{e:β}:∀{t:List β} {s:β},(∀y,y=s∨y∈t→lb (f y)=lb y)→Lk f s t e→∀y∈t,lb y=lb s:=by
 intro t
 induction t with
 |nil=>intro s _ _ y hy;cases hy
 | cons a t ih =>
  intro s h k y hy
  have ha:lb a=lb s:=by rw[←k.1];exact h s QX
  rcases Qg.mp hy with z | z
  ·rw[z];exact ha
  ·rw [← ha]
   exact ih (λy hy=>h y (.inr (Qg.mpr hy))) k.2 y z
def zh9{l m:List Int}(h:l.Perm m):l.sum=m.sum:=by
 induction h with
 |nil=>rfl
 |cons x _ ih=>rw[Zm,Zm,ih]
 |swap x y l=>rw[Zm,Zm,Zm,Zm];omega
 |trans _ _ a b=>exact a.trans b
end
section
variable{α:Type}[DecidableEq α]{ns:List α}{r r':α→List α}{cs:List (List (α×α))}{aa ah:α→α}
def ct_perm{cs':List (List (α×α))}(h:cs.Perm cs')(t:α):ct cs aa t=ct cs' aa t:=zh9 (h.map _)
def zdq(c:List (α×α))(t:α):ct (c::cs) aa t=(if(c.any λs=>decide (aa s.1=t))=true then(2:Int) else 0)+ct cs aa t:=by
 unfold ct;rw[List.map_cons,List.sum_cons]
def Cert.one_lab(C:Cert ns r cs aa){c:List (α×α)}(hc:c∈cs){s u:α×α}(hs:s∈c)(hu:u∈c):aa u.1=aa s.1:=by
 obtain⟨A,B,rfl⟩:=Yl hs
 have k:=zc1 (C.cy _ hc)
 have hl:∀y,y=s∨y∈B++A→aa (st r y).1=aa y.1:=λy hy=>by
  have bQ:y∈A++s::B:=by
   rcases hy with z | z
   ·rw[z];exact hs
   ·rcases Qk.mp z with q | q
    ·exact Qh _ (Qe _ q)
    ·exact Qp _ q
  exact(C.la _ _ (C.inc hc bQ)).symm
 rcases Qk.mp hu with z | z
 ·exact lk_lab (lb:=λy:α×α=>aa y.1) hl k u (Qh _ z)
 ·rcases Qg.mp z with q | q
  ·rw[q]
  ·exact lk_lab (lb:=λy:α×α=>aa y.1) hl k u (Qp _ q)
def zds{c:List (α×α)}(h:∀s∈c,aa s.1=u)(av:c≠[]):(c.any λs=>decide (aa s.1=t))=decide (u=t):=by
 rw[Yy,Yh,decide_eq_true_iff]
 constructor
 ·rintro⟨s,hs,e⟩;rw[←h s hs];exact of_decide_eq_true e
 ·intro e
  cases c with
  |nil=>exact absurd rfl av
  |cons s _=>exact⟨s,Qb,WW ((h s Qb).trans e)⟩
def zby(hc:c∈cs):cs.flatten.Perm (c++(cs.erase c).flatten):=by
 have:=List.Perm.flatten (Jv hc)
 rwa[Wc]at this
def zfk(C:Cert ns r cs aa)(hp:p∈ns)(hx:x∉ns)(h1:r' x=[p])(h3:∀ y,y≠x→y≠p→r' y=r y)(hm:∀ w,w∈r' p↔w=x∨w∈r p)(hn:(r' p).Nodup)(af:(r' p).length=(r p).length+1)(hl:∀y∈ns,ah y=aa y)(bn:ah x=aa p)(hc:cs'.flatten.Nodup∧(∀s,s∈cs'.flatten↔s.1∈r' s.2)∧∀c∈cs',Cyc (st r') c)(kL:∀t,ct cs' ah t=ct cs aa t+if aa p=t then(if r p=[] then 2 else 0) else 0):Cert (ns++[x]) r' cs' ah:=by
 have dX:p≠x:=λe=>hx (e▸hp)
 have hrx:r x=[]:=C.ro x hx
 have ne:∀{y},y∈ns→y≠x:=λ{y} hy e=>hx (e▸hy)
 have sub:∀z y,y∈r z→y∈r' z:=λz y hy=>by
  by_cases hz:z=p
  ·rw[hz]at hy ⊢;exact(hm y).mpr (.inr hy)
  ·rw[h3 z (ne (C.inn hy)) hz];exact hy
 have hw:∀t,wt (ns++[x]) r' ah t=wt ns r aa t-if aa p=t then(if r p=[] then 2 else 0) else 0:=λt=>by
  unfold wt
  rw[Qr,List.sum_append,Qm,Xf,Zm,List.sum_nil,bn,h1]
  have e1:(ns.map λy=>if ah y=t then(2:Int)+(if r' y=[] then 2 else 0)-((r' y).length:Int) else 0).sum=(ns.map λy=>if aa y=t then(2:Int)+(if r' y=[] then 2 else 0)-((r' y).length:Int) else 0).sum :=
   zcf λy hy=>by rw[hl y hy]
  rw[e1,zey (g:=λy=>if aa y=t then(2:Int)+(if r y=[] then 2 else 0)-((r y).length:Int) else 0) C.nd hp (λy hy aU=>by rw[h3 y (ne hy) aU])]
  have av:r' p≠[]:=λe=>by rw[e]at af;simp at af
  by_cases ht:aa p=t
  ·simp only [ht,if_true,av,if_false,af]
   by_cases lP:r p=[]
   ·simp[lP];omega
   ·simp[lP];omega
  ·simp only[ht,if_false];omega
 refine⟨?_,λy hy=>?_,λy=>?_,λy=>?_,λy z hz=>?_,hc.1,hc.2.1,hc.2.2,λy hy=>?_,λy z hz=>?_,λy hy z hz e=>?_,λy hy=>?_⟩
 ·rw [Zd]
  exact⟨C.nd,Qq.mpr ⟨ZM,Zo⟩,λa ha b hb=>by rw[Qd.mp hb];exact ne ha⟩
 ·rw [Qk,not_or,Qd] at hy
  rw[h3 y hy.2 (λe=>hy.1 (e▸hp))];exact C.ro y hy.1
 ·by_cases bX:y=x
  ·rw[bX,h1];exact Qq.mpr ⟨ZM,Zo⟩
  ·by_cases aU:y=p
   ·rw[aU];exact hn
   ·rw[h3 y bX aU];exact C.rn y
 ·by_cases bX:y=x
  ·rw[bX,h1,Qd];exact Zn dX
  ·by_cases aU:y=p
   ·rw[aU,hm,not_or];exact⟨dX,C.ir p⟩
   ·rw[h3 y bX aU];exact C.ir y
 ·by_cases bX:y=x
  ·rw [bX,h1,Qd] at hz
   rw[hz,bX];exact(hm x).mpr QX
  ·by_cases aU:y=p
   ·rw [aU] at hz ⊢
    rcases(hm z).mp hz with q | q
    ·rw[q,h1];exact Qb
    ·exact sub z p (C.sy p z q)
   ·rw [h3 y bX aU] at hz
    exact sub z y (C.sy y z hz)
 ·rcases Qk.mp hy with h | h
  ·rw[hl y h];exact Qp _ (C.ln y h)
  ·rw[Qd.mp h,bn];exact Qp _ (C.ln p hp)
 ·by_cases bX:y=x
  ·rw [bX,h1,Qd] at hz
   rw[hz,bX,bn,hl p hp]
  ·by_cases aU:y=p
   ·rw [aU] at hz ⊢
    rcases(hm z).mp hz with q | q
    ·rw[q,bn,hl p hp]
    ·rw[hl _ (C.inn' q),hl p hp];exact C.la p z q
   ·rw [h3 y bX aU] at hz
    rw[hl _ (C.inn' hz),hl _ (C.inn hz)];exact C.la y z hz
 ·have xp:Conn r' x p:=.step .refl (by rw [h1];exact Qb)
  rcases Qk.mp hy with h | h<;>rcases Qk.mp hz with g | g
  ·rw[hl _ h,hl _ g]at e;exact(C.co y h z g e).mono sub
  ·rw [hl _ h,Qd.mp g,bn] at e
   rw[Qd.mp g]
   exact .step ((C.co y h p hp e).mono sub) ((hm x).mpr QX)
  ·rw [hl _ g,Qd.mp h,bn] at e
   rw[Qd.mp h]
   exact xp.trans ((C.co p hp z g e).mono sub)
  ·rw[Qd.mp h,Qd.mp g];exact .refl
 ·have key:∀ u∈ns,wt (ns++[x]) r' ah (aa u)+ct cs' ah (aa u)=4:=fun u hu=>by
   rw[hw,kL]
   have:=C.eu u hu;omega
  rcases Qk.mp hy with h | h
  ·rw[hl _ h];exact key y h
  ·rw[Qd.mp h,bn];exact key p hp
def zia(p:α):nxt [p] p=p:=by
 unfold nxt
 simp
def leaf_mem(C:Cert ns r cs aa)(hp:p∈ns)(hx:x∉ns)(h1:r' x=[p])(h3:∀ y,y≠x→y≠p→r' y=r y)(hm:∀ w,w∈r' p↔w=x∨w∈r p) :
  ∀s:α×α,s.1∈r' s.2↔s∈[(x,p),(p,x)]∨s.1∈r s.2:=λs=>by
 obtain⟨a,b⟩:=s
 have dX:p≠x:=λe=>hx (e▸hp)
 show a∈r' b↔(a,b)∈[(x,p),(p,x)]∨a∈r b
 rw[Qg,Qd,Prod.mk.injEq,Prod.mk.injEq]
 by_cases pk:b=x
 ·subst pk
  rw[h1,C.ro b hx,Qd]
  constructor
  ·intro e;exact .inl (.inr ⟨e,rfl⟩)
  ·rintro ((⟨_,e⟩ | ⟨e,_⟩) | e)
   ·exact absurd e.symm dX
   ·exact e
   ·cases e
 ·by_cases iD:b=p
  ·subst iD
   rw[hm]
   constructor
   ·rintro (e | e)
    ·exact .inl (.inl ⟨e,rfl⟩)
    ·exact .inr e
   ·rintro ((⟨e,_⟩ | ⟨_,e⟩) | e)
    ·exact .inl e
    ·exact absurd e pk
    ·exact .inr e
  ·rw [h3 b pk iD]
   constructor
   ·exact .inr
   ·rintro ((⟨_,e⟩ | ⟨_,e⟩) | e)
    ·exact absurd e iD
    ·exact absurd e pk
    ·exact e
def leaf_nd(dX:p≠x):([(x,p),(p,x)]:List (α×α)).Nodup:=by
 rw[Qq,Qd]
 exact⟨λe=>dX (Uv e).1.symm,Qq.mpr ⟨ZM,Zo⟩⟩
def leaf_no(C:Cert ns r cs aa)(hx:x∉ns):∀s∈([(x,p),(p,x)]:List (α×α)),s.1∉r s.2:=λs hs h=>by
 rcases Qg.mp hs with e | e
 ·rw[e]at h;exact hx (C.inn' h)
 ·rw[Qd.mp e]at h;exact hx (C.inn h)
def cert_leaf0(C:Cert ns r cs aa)(hp:p∈ns)(hx:x∉ns)(iY:r p=[])(h1:r' x=[p])(h2:r' p=[x])(h3:∀ y,y≠x→y≠p→r' y=r y)(hl:∀ y∈ns,ah y=aa y)(bn:ah x=aa p) :
  Cert (ns++[x]) r' ([(x,p),(p,x)]::cs) ah:=by
 have dX:p≠x:=λe=>hx (e▸hp)
 have hm:∀w,w∈r' p↔w=x∨w∈r p:=λw=>by rw[h2,iY,Qd];simp
 refine zfk C hp hx h1 h3 hm (by rw[h2];exact Qq.mpr ⟨ZM,Zo⟩) (by rw[h2,iY];rfl) hl bn ?_ λt=>?_
 ·refine ziu (N:=[[(x,p),(p,x)]]) (R:=cs) (c0:=[]) (news:=[(x,p),(p,x)]) C (fun c h=>h) (by rw [Ww]) ZM (leaf_nd dX) (leaf_no C hx) (leaf_mem C hp hx h1 h3 hm) (fun c hc=>?_) fun s hs _=>?_
  ·rw [Qd.mp hc]
   refine⟨(x,p),[(p,x)],rfl,?_,?_⟩
   ·show (p,nxt (r' p) x)=(p,x)
    rw[h2,zia]
   ·show (x,nxt (r' x) p)=(x,p)
    rw[h1,zia]
  ·have qX:s.2≠x:=fun e=>hx (e ▸ C.inn hs)
   have bB:s.2≠p:=λe=>by rw[e,iY]at hs;cases hs
   unfold st;rw[h3 s.2 qX bB]
 ·rw [zdq,zds (u:=aa p) (fun s hs=>?_) ZM]
  ·have:ct cs ah t=ct cs aa t:=ct_lab fun c hc s hs=>hl _ (C.inn' (C.inc hc hs))
   rw[this]
   simp only[decide_eq_true_eq,iY,if_true]
   lia
  ·rcases Qg.mp hs with e | e
   ·rw[e];exact bn
   ·rw[Qd.mp e];exact hl p hp
def cert_leaf(C:Cert ns r cs aa)(hp:p∈ns)(hx:x∉ns)(hc:c∈r p)(h1:r' x=[p])(h2:r' p=ins (r p) (QB c) x)(h3:∀ y,y≠x→y≠p→r' y=r y)(hl:∀ y∈ns,ah y=aa y)(bn:ah x=aa p) :
  ∃cs',Cert (ns++[x]) r' cs' ah:=by
 have dX:p≠x:=λe=>hx (e▸hp)
 have i8:x∉r p:=λh=>hx (C.inn' h)
 have hm:∀w,w∈r' p↔w=x∨w∈r p:=λw=>by rw[h2];exact zdp hc (C.rn p)
 obtain⟨c1,bu,cw⟩:=Zs.mp ((C.cm (c,p)).mpr hc)
 obtain⟨A,B,dN⟩:=Yl cw
 have k:=zc1 (dN▸C.cy c1 bu)
 have old:∀y∈c1,y.1∈r y.2:=λy hy=>C.inc bu hy
 have nd1:c1.Nodup:=by
  have:=(zby bu).nodup_iff.mp C.cf
  rw[Zd]at this
  exact this.1
 have ap:∀s:α×α,s.1∈r s.2→s≠(c,p)→st r' s=st r s:=λs hs av=>by
  have qX:s.2≠x:=λe=>hx (e▸C.inn hs)
  by_cases bB:s.2=p
  ·unfold st
   rw[bB,h2]
   rw[bB]at hs
   rw[zdn hc (C.rn p) i8 hs (λe=>av (Ue e bB))]
  ·unfold st;rw[h3 s.2 qX bB]
 have inBA:∀y∈B++A,y∈c1∧y≠(c,p):=λy hy=>by
  rw[dN]at nd1 ⊢
  rw[Zd,Qq]at nd1
  rcases Qk.mp hy with z | z
  ·exact⟨Qh _ (Qe _ z),λe=>nd1.2.1.1 (e▸z)⟩
  ·exact⟨Qp _ z,λe=>nd1.2.2 y z (c,p) Qb e⟩
 refine⟨[(c,p)::(p,x)::(x,p)::(B++A)]++cs.erase c1,zfk C hp hx h1 h3 hm (by rw[h2];exact nd_ins hc (C.rn p) i8) (by rw[h2];exact zid hc (C.rn p)) hl bn ?_ λt=>?_⟩
 ·refine ziu (c0:=c1) (news:=[(x,p),(p,x)]) C (fun c h=>Ug h) (zby bu) ?_ (leaf_nd dX) (leaf_no C hx) (leaf_mem C hp hx h1 h3 hm) (fun c' cn=>?_) fun s hs hn=>ap s hs fun e=>hn (e ▸ cw)
  ·rw [dN]
   refine Jc.mpr λa=>?_
   simp only[Wc,List.flatten_nil,Zw,Jp,Jy,List.count_nil]
   lia
  ·rw [Qd.mp cn]
   refine⟨(c,p),W7,?_,?_,zfy (f:=st r) (s:=(c,p)) ?_ (λy hy=>ap y (old y (inBA y hy).1) (inBA y hy).2) k⟩
   ·show (p,nxt (r' p) c)=(p,x)
    rw[h2,zeo hc (C.rn p)]
   ·show (x,nxt (r' x) p)=(x,p)
    rw[h1,zia]
   ·show (p,nxt (r' p) x)=(p,nxt (r p) c)
    rw[h2,zen hc (C.rn p) i8]
 ·have av:r p≠[]:=Jl hc
  have e2:ct cs aa t=ct (c1::cs.erase c1) aa t:=ct_perm (Jv bu) t
  have e3:ct (cs.erase c1) ah t=ct (cs.erase c1) aa t:=ct_lab λc h s hs=>hl _ (C.inn' (C.inc (Ug h) hs))
  have lc:∀s∈c1,aa s.1=aa p:=λs hs=>(C.one_lab bu cw hs).trans (C.la p c hc)
  rw[e2,zdq,Xm,zdq,e3,zds (u:=aa p) lc (Jl cw),zds (u:=aa p) (λs hs=>?_) ZM,if_neg av]
  ·simp
  ·rcases Qg.mp hs with e | hs
   ·rw[e];exact(hl _ (C.inn' hc)).trans (C.la p c hc)
   ·rcases Qg.mp hs with e | hs
    ·rw[e];exact hl p hp
    ·rcases Qg.mp hs with e | hs
     ·rw[e];exact bn
     ·rw[hl _ (C.inn' (old s (inBA s hs).1))];exact lc s (inBA s hs).1
def cert_tie(C:Cert ns r cs aa)(bu:c1∈cs)(cw:(c,p)∈c1)(cv:(a,o)∈c1)(ij:o≠p)(cR:o∉r p)(h1:r' p=ins (r p) (QB c) o)(h2:r' o=ins (r o) (QB a) p)(h3:∀ y,y≠p→y≠o→r' y=r y) :
  ∃cs',Cert ns r' cs' aa:=by
 have hc:c∈r p:=C.inc bu cw
 have ha:a∈r o:=C.inc bu cv
 have hp:p∈ns:=C.inn hc
 have ho:o∈ns:=C.inn ha
 have oW:p∉r o:=λh=>cR (C.sy o p h)
 have jo:∀w,w∈r' p↔w=o∨w∈r p:=λw=>by rw[h1];exact zdp hc (C.rn p)
 have bC:∀w,w∈r' o↔w=p∨w∈r o:=λw=>by rw[h2];exact zdp ha (C.rn o)
 have fA:aa o=aa p:=by
  rw[←C.la o a ha,←C.la p c hc];exact C.one_lab bu cw cv
 obtain⟨A,B,dN⟩:=Yl cw
 have k:=zc1 (dN▸C.cy c1 bu)
 have old:∀y∈c1,y.1∈r y.2:=λy hy=>C.inc bu hy
 have nd1:c1.Nodup:=by
  have:=(zby bu).nodup_iff.mp C.cf
  rw[Zd]at this
  exact this.1
 have rj:(a,o)∈B++A:=by
  rw[dN]at cv
  rcases Qk.mp cv with z | z
  ·exact Qh _ z
  ·rcases Qg.mp z with q | q
   ·exact absurd (Uv q).2 ij
   ·exact Qp _ q
 obtain⟨A2,B2,nU⟩:=Yl rj
 rw[nU]at k
 obtain⟨k1,k2⟩:=zhf.mp k
 have pm:c1.Perm ((c,p)::(A2++(a,o)::B2)):=by
  rw[dN,←nU]
  refine Jc.mpr λa=>?_
  simp only[Jp,Jy]
  lia
 have eJ:=pm.nodup_iff.mp nd1
 rw[Qq,Zd,Qq]at eJ
 obtain⟨n1,n2,⟨n3,n4⟩,n5⟩:=eJ
 have inA:∀y∈A2,y∈c1∧y≠(c,p)∧y≠(a,o):=λy hy=>⟨pm.mem_iff.mpr (Qe _ (Qp _ hy)),λe=>n1 (e▸Qp _ hy),λe=>n5 y hy (a,o) Qb e⟩
 have inB:∀y∈B2,y∈c1∧y≠(c,p)∧y≠(a,o):=λy hy=>⟨pm.mem_iff.mpr (Qe _ (Qh _ (Qe _ hy))),λe=>n1 (e▸Qh _ (Qe _ hy)),λe=>n3 (e▸hy)⟩
 have ap:∀s:α×α,s.1∈r s.2→s≠(c,p)→s≠(a,o)→st r' s=st r s:=λs hs c9 bm=>by
  by_cases bB:s.2=p
  ·unfold st
   rw[bB,h1]
   rw[bB]at hs
   rw[zdn hc (C.rn p) cR hs (λe=>c9 (Ue e bB))]
  ·by_cases oP:s.2=o
   ·unfold st
    rw[oP,h2]
    rw[oP]at hs
    rw[zdn ha (C.rn o) oW hs (λe=>bm (Ue e oP))]
   ·unfold st;rw[h3 s.2 bB oP]
 have sub:∀z y,y∈r z→y∈r' z:=λz y hy=>by
  by_cases hz:z=p
  ·rw[hz]at hy ⊢;exact(jo y).mpr (.inr hy)
  ·by_cases bW:z=o
   ·rw[bW]at hy ⊢;exact(bC y).mpr (.inr hy)
   ·rw[h3 z hz bW];exact hy
 have hmem:∀s:α×α,s.1∈r' s.2↔s∈[(o,p),(p,o)]∨s.1∈r s.2:=λs=>by
  obtain⟨u,b⟩:=s
  show u∈r' b↔(u,b)∈[(o,p),(p,o)]∨u∈r b
  rw[Qg,Qd,Prod.mk.injEq,Prod.mk.injEq]
  by_cases iD:b=p
  ·subst iD
   rw[jo]
   constructor
   ·rintro (e | e)
    ·exact .inl (.inl ⟨e,rfl⟩)
    ·exact .inr e
   ·rintro ((⟨e,_⟩ | ⟨_,e⟩) | e)
    ·exact .inl e
    ·exact absurd e.symm ij
    ·exact .inr e
  ·by_cases tH:b=o
   ·subst tH
    rw[bC]
    constructor
    ·rintro (e | e)
     ·exact .inl (.inr ⟨e,rfl⟩)
     ·exact .inr e
    ·rintro ((⟨_,e⟩ | ⟨e,_⟩) | e)
     ·exact absurd e iD
     ·exact .inl e
     ·exact .inr e
   ·rw [h3 b iD tH]
    constructor
    ·exact .inr
    ·rintro ((⟨_,e⟩ | ⟨_,e⟩) | e)
     ·exact absurd e iD
     ·exact absurd e tH
     ·exact e
 have nnd:([(o,p),(p,o)]:List (α×α)).Nodup:=by
  rw[Qq,Qd]
  exact⟨λe=>ij (Uv e).1,Qq.mpr ⟨ZM,Zo⟩⟩
 have ck:=ziu (N:=[(c,p)::(p,o)::B2,(a,o)::(o,p)::A2]) (R:=cs.erase c1) (c0:=c1) (news:=[(o,p),(p,o)]) (r':=r') C (λc h=>Ug h) (zby bu) (by
   refine List.Perm.trans ?_ (Zz _ pm.symm)
   refine Jc.mpr λa=>?_
   simp only[Wc,List.flatten_nil,Zw,Jp,Jy,List.count_nil]
   lia) nnd (λs hs h=>by
    rcases Qg.mp hs with e | e
    ·rw[e]at h;exact cR h
    ·rw[Qd.mp e]at h;exact oW h) hmem (λc' cn=>by
   rcases Qg.mp cn with e | e
   ·rw [e]
    refine⟨(c,p),W7,?_,zfy (f:=st r) (s:=(a,o)) ?_ (λy hy=>ap y (old y (inB y hy).1) (inB y hy).2.1 (inB y hy).2.2) k2⟩
    ·show (p,nxt (r' p) c)=(p,o)
     rw[h1,zeo hc (C.rn p)]
    ·show (o,nxt (r' o) p)=(o,nxt (r o) a)
     rw[h2,zen ha (C.rn o) oW]
   ·rw [Qd.mp e]
    refine⟨(a,o),W7,?_,zfy (f:=st r) (s:=(c,p)) ?_ (λy hy=>ap y (old y (inA y hy).1) (inA y hy).2.1 (inA y hy).2.2) k1⟩
    ·show (o,nxt (r' o) a)=(o,p)
     rw[h2,zeo ha (C.rn o)]
    ·show (p,nxt (r' p) o)=(p,nxt (r p) c)
     rw[h1,zen hc (C.rn p) cR]) λs hs hn=>ap s hs (λe=>hn (e▸cw)) λe=>hn (e▸cv)
 refine⟨_,C.nd,λy hy=>?_,λy=>?_,λy=>?_,λy z hz=>?_,ck.1,ck.2.1,ck.2.2,C.ln,λy z hz=>?_,λy hy z hz e=>(C.co y hy z hz e).mono sub,λy hy=>?_⟩
 ·rw[h3 y (λe=>hy (e▸hp)) (λe=>hy (e▸ho))];exact C.ro y hy
 ·by_cases aU:y=p
  ·rw[aU,h1];exact nd_ins hc (C.rn p) cR
  ·by_cases eQ:y=o
   ·rw[eQ,h2];exact nd_ins ha (C.rn o) oW
   ·rw[h3 y aU eQ];exact C.rn y
 ·by_cases aU:y=p
  ·rw[aU,jo,not_or];exact⟨Zn ij,C.ir p⟩
  ·by_cases eQ:y=o
   ·rw[eQ,bC,not_or];exact⟨ij,C.ir o⟩
   ·rw[h3 y aU eQ];exact C.ir y
 ·by_cases aU:y=p
  ·rw [aU] at hz ⊢
   rcases(jo z).mp hz with q | q
   ·rw[q];exact(bC p).mpr QX
   ·exact sub z p (C.sy p z q)
  ·by_cases eQ:y=o
   ·rw [eQ] at hz ⊢
    rcases(bC z).mp hz with q | q
    ·rw[q];exact(jo o).mpr QX
    ·exact sub z o (C.sy o z q)
   ·rw [h3 y aU eQ] at hz
    exact sub z y (C.sy y z hz)
 ·by_cases aU:y=p
  ·rw [aU] at hz ⊢
   rcases(jo z).mp hz with q | q
   ·rw[q];exact fA
   ·exact C.la p z q
  ·by_cases eQ:y=o
   ·rw [eQ] at hz ⊢
    rcases(bC z).mp hz with q | q
    ·rw[q];exact fA.symm
    ·exact C.la o z q
   ·rw [h3 y aU eQ] at hz
    exact C.la y z hz
 ·have e2:ct cs aa (aa y)=ct (c1::cs.erase c1) aa (aa y):=ct_perm (Jv bu) _
  have lc:∀s∈c1,aa s.1=aa p:=λs hs=>(C.one_lab bu cw hs).trans (C.la p c hc)
  have l1:∀s∈(c,p)::(p,o)::B2,aa s.1=aa p:=λs hs=>by
   rcases Qg.mp hs with e | hs
   ·rw[e];exact C.la p c hc
   ·rcases Qg.mp hs with e | hs
    ·rw[e]
    ·exact lc s (inB s hs).1
  have l2:∀s∈(a,o)::(o,p)::A2,aa s.1=aa p:=λs hs=>by
   rcases Qg.mp hs with e | hs
   ·rw[e];exact(C.la o a ha).trans fA
   ·rcases Qg.mp hs with e | hs
    ·rw[e];exact fA
    ·exact lc s (inA s hs).1
  have kL:ct ([(c,p)::(p,o)::B2,(a,o)::(o,p)::A2]++cs.erase c1) aa (aa y)=ct cs aa (aa y)+if aa p=aa y then 2 else 0:=by
   rw[e2,zdq,Wr,zdq,Wr,zdq,Ww,zds lc (Jl cw),zds l1 ZM,zds l2 ZM]
   simp only[decide_eq_true_eq]
   split<;>lia
  have hw:wt ns r' aa (aa y)=wt ns r aa (aa y)-if aa p=aa y then 2 else 0:=by
   have am:∀{zs:List α} {w n:α},w∈zs→zs.Nodup→ins zs (QB w) n≠[]:=λ{zs w n} hw nd e=>by
    have:=zid (n:=n) hw nd
    rw[e]at this;simp at this
   unfold wt
   have s1:=zey (g:=λx=>if aa x=aa y then(2:Int)+(if r x=[] then 2 else 0)-((r x).length:Int) else 0)
    (g':=λx=>if x=p then(if aa p=aa y then(2:Int)+(if r' p=[] then 2 else 0)-((r' p).length:Int) else 0) else if aa x=aa y then(2:Int)+(if r x=[] then 2 else 0)-((r x).length:Int) else 0) C.nd hp (λx _ hx=>if_neg hx)
   have s2:=zey (g:=λx=>if x=p then(if aa p=aa y then(2:Int)+(if r' p=[] then 2 else 0)-((r' p).length:Int) else 0) else if aa x=aa y then(2:Int)+(if r x=[] then 2 else 0)-((r x).length:Int) else 0)
    (g':=fun x=>if aa x=aa y then (2:Int)+(if r' x=[] then 2 else 0) - ((r' x).length:Int) else 0) C.nd ho (fun x _ hx=>by
     by_cases i8:x=p
     ·rw[if_pos i8,i8]
     ·rw[if_neg i8,h3 x i8 hx])
   rw[s2,s1]
   simp only[if_true,ij,if_false,fA,h1,h2,am hc (C.rn p),am ha (C.rn o),zid hc (C.rn p),zid ha (C.rn o),Jl hc,Jl ha]
   by_cases ht:aa p=aa y
   ·simp only[ht,if_true];lia
   ·simp only[ht,if_false];lia
  rw[kL,hw]
  have:=C.eu y hy
  lia
end
section
variable{α:Type}[DecidableEq α]
def Good(rs:Rs α):Prop:=∃cs aa,Cert (rs.map (·.1)) (row rs) cs aa
def zio{β:Type}{f:β→β}{c:List β}(h:Cyc f c){s:β}(hs:s∈c):f s∈c:=by
 obtain⟨A,B,rfl⟩:=Yl hs
 have k:=zc1 h
 cases e:B++A with
 |nil =>
  rw[e]at k
  rw[show f s=s from k];exact hs
 |cons a t =>
  rw[e]at k
  rw[k.1]
  have:a∈B++A:=by rw[e];exact Qb
  rcases Qk.mp this with z | z
  ·exact Qh _ (Qe _ z)
  ·exact Qp _ z
variable{rs:Rs α}
def zfe(nd:(rs.map (·.1)).Nodup){p:α×List α}(h:p∈rs):row rs p.1=p.2:=by
 unfold row
 induction rs with
 |nil=>cases h
 | cons a t ih =>
  rw[Qm,Qq]at nd
  rcases Qg.mp h with z | z
  ·subst z;rw[Wy ZM];rfl
  ·rw [Wz]
   ·exact ih nd.2 z
   ·intro q
    exact nd.1 (by rw[of_decide_eq_true q];exact Qj.mpr ⟨p,z,rfl⟩)
def zf9(h:x∉rs.map (·.1)):row rs x=[]:=by
 unfold row
 rw[List.find?_eq_none.mpr]
 ·rfl
 ·intro p hp q
  exact h (of_decide_eq_true q▸Qj.mpr ⟨p,hp,rfl⟩)
def zig(nd:(rs.map (·.1)).Nodup){s:α×α}:IsSt rs s↔s.1∈row rs s.2:=by
 constructor
 ·rintro ⟨p,hp,e,h⟩
  rw[←e,zfe nd hp];exact h
 ·intro h
  by_cases hx:s.2∈rs.map (·.1)
  ·obtain ⟨p,hp,e⟩:=Qj.mp hx
   have e':p.1=s.2:=e
   rw[←e',zfe nd hp]at h
   exact⟨p,hp,e',h⟩
  ·rw[zf9 hx]at h;cases h
def zbt(x:α)(rr:List α):(za4 rs x rr).map (·.1)=rs.map (·.1):=by
 unfold za4
 rw[Zk]
 refine Yb λp _=>?_
 show(if p.1=x then(p.1,rr) else p).1=p.1
 split<;>rfl
def za9{x:α}{rr:List α}(h:x∈rs.map (·.1)):row (za4 rs x rr) x=rr:=by
 unfold row za4
 induction rs with
 |nil=>cases h
 | cons a t ih =>
  rw[Qm]
  by_cases hx:a.1=x
  ·rw[if_pos hx,Wy (ZR hx)];rfl
  ·rw [if_neg hx,Wz (ZR hx)]
   refine ih ?_
   rw[Qm]at h
   rcases Qg.mp h with z | z
   ·exact absurd z.symm hx
   ·exact z
def za6{x y:α}{rr:List α}(h:y≠x):row (za4 rs x rr) y=row rs y:=by
 unfold row za4
 induction rs with
 |nil=>rfl
 | cons a t ih =>
  rw[Qm]
  by_cases hy:a.1=y
  ·have hx:a.1≠x:=fun e=>h (hy ▸ e)
   rw[if_neg hx,Wy (ZR hy),Wy (ZR hy)]
  ·have h1:(if a.1=x then (a.1,rr) else a).1=a.1:=by split <;> rfl
   rw[Wz (by rw[h1];simpa using hy),Wz (ZR hy)]
   exact ih
def row_snoc{x:α}(h:x∉rs.map (·.1)):row (rs++[(x,[])])=row rs:=by
 funext y
 unfold row
 rw[List.find?_append]
 cases e:rs.find? λp=>decide (p.1=y) with
 |some p=>rfl
 |none =>
  rw[Option.none_or]
  by_cases hy:x=y
  ·rw[Wy (ZR hy)];rfl
  ·rw[Wz (ZR hy)];rfl
theorem zer:Gen (Good (α:=α)) where
 clo:=λrs ⟨cs,aa,C⟩ s hs=>by
  obtain⟨c,hc,h⟩:=Zs.mp ((C.cm s).mpr ((zig C.nd).mp hs))
  exact(zig C.nd).mpr ((C.cm _).mp (Zs.mpr ⟨c,hc,zio (C.cy c hc) h⟩))
 nd:=λrs ⟨cs,aa,C⟩=>C.nd
 sub:=λrs ⟨cs,aa,C⟩ p hp=>by
  have e:=zfe C.nd hp
  exact⟨e▸C.rn p.1,λx hx=>C.inn' (x:=p.1) (Z2 e hx)⟩
 sy:=λrs ⟨cs,aa,C⟩ p hp x hx=>C.sy p.1 x (by rw[zfe C.nd hp];exact hx)
 nil:=by
  refine⟨[],id,⟨Zo,QC,λ_=>Zo,λ_ h=>?_,λ_ _ h=>?_,Zo,λs=>⟨λh=>?_,λh=>?_⟩,λc h=>?_,λ_ h=>?_,λ_ _ h=>?_,λ_ h=>?_,λ_ h=>?_⟩⟩
  ·exact absurd h (by simp[row])
  ·exact absurd h (by simp[row])
  ·cases h
  ·exact absurd h (by simp[row])
  ·cases h
  ·cases h
  ·exact absurd h (by simp[row])
  ·cases h
  ·cases h
 new:=λrs x ⟨cs,aa,C⟩ hx=>by
  refine⟨cs,λy=>if y=x then x else aa y,?_⟩
  rw[row_snoc hx,Qr]
  exact cert_new C hx (λy hy=>if_neg (λe:y=x=>hx (e▸hy))) (if_pos rfl)
 leaf:=λrs x p c ⟨cs,aa,C⟩ hx hp hc gy=>by
  have kj:p.1∈rs.map (·.1):=Qj.mpr ⟨p,hp,rfl⟩
  have dX:p.1≠x:=λe=>hx (e▸kj)
  have e0:(za4 (za4 (rs++[(x,[])]) p.1 (ins p.2 c x)) x [p.1]).map (·.1)=rs.map (·.1)++[x]:=by rw[zbt,zbt,Qr];rfl
  have qD:x∈(za4 (rs++[(x,[])]) p.1 (ins p.2 c x)).map (·.1):=by rw[zbt,Qr];exact Qh _ Qb
  have rJ:p.1∈(rs++[(x,([]:List α))]).map (·.1):=by rw[Qr];exact Qp _ kj
  have r1:row (za4 (za4 (rs++[(x,[])]) p.1 (ins p.2 c x)) x [p.1]) x=[p.1]:=za9 qD
  have r2:row (za4 (za4 (rs++[(x,[])]) p.1 (ins p.2 c x)) x [p.1]) p.1=ins p.2 c x:=by rw[za6 dX,za9 rJ]
  have r3:∀y,y≠x→y≠p.1→row (za4 (za4 (rs++[(x,[])]) p.1 (ins p.2 c x)) x [p.1]) y=row rs y:=λy h1 h2=>by rw[za6 h1,za6 h2,row_snoc hx]
  have er:=zfe C.nd hp
  have hl:∀y∈rs.map (·.1),(λy=>if y=x then aa p.1 else aa y) y=aa y:=λy hy=>if_neg (λe:y=x=>hx (e▸hy))
  have bn:(λy=>if y=x then aa p.1 else aa y) x=aa p.1:=if_pos rfl
  unfold Good
  rw[e0]
  cases c with
  |none =>
   have h0:=gy rfl
   refine⟨_,_,cert_leaf0 C kj hx (er.trans h0) r1 ?_ r3 hl bn⟩
   rw[r2,h0];rfl
  |some y =>
   have hy:=hc y rfl
   obtain⟨cs',C'⟩:=cert_leaf C kj hx (c:=y) (Z2 er hy) r1 (by rw[r2,er]) r3 hl bn
   exact⟨cs',_,C'⟩
 tie:=λrs c p n ⟨cs,aa,C⟩ hp hc h1 h2=>by
  have er:=zfe C.nd hp
  obtain⟨c1,bu,cw⟩:=Zs.mp ((C.cm (c,p.1)).mpr (Z2 er hc))
  have cv:∀n,itr rs (c,p.1) n∈c1:=λn=>by
   induction n with
   |zero=>exact cw
   |succ n ih=>exact zio (C.cy c1 bu) ih
  have ke:=cv n
  generalize itr rs (c,p.1) n=q at h1 h2 ke
  have kj:p.1∈rs.map (·.1):=Qj.mpr ⟨p,hp,rfl⟩
  have lQ:q.2∈rs.map (·.1):=C.inn (C.inc bu ke)
  unfold Good
  rw[zbt,zbt]
  obtain⟨cs',C'⟩:=cert_tie (r':=row (za4 (za4 rs p.1 (ins p.2 (QB c) q.2)) q.2 (ins (row rs q.2) (some q.1) p.1))) C bu cw (a:=q.1) (o:=q.2) ke h1 (Z2 er h2)
   (by rw[za6 (Zn h1),za9 kj,er]) (by rw[za9 (Z2 zbt lQ)]) (λy h3 h4=>by rw[za6 h4,za6 h3])
  exact⟨cs',aa,C'⟩
end
section
variable{α:Type}[DecidableEq α]{ns ou:List α}{r r':α→List α}{cs:List (List (α×α))}{aa:α→α}
def rot_perm(zs:List α)(k:Nat):(zs.drop k++zs.take k).Perm zs:=by
 refine Wf.trans ?_
 rw[We]
def cert_turn(C:Cert ns r cs aa)(hn:ou.Perm ns)(hr:∀x,∃k,r' x=(r x).drop k++(r x).take k):Cert ou r' cs aa:=by
 have hp:∀x,(r' x).Perm (r x):=λx=>by obtain⟨k,e⟩:=hr x;rw[e];exact rot_perm _ k
 have hm:∀{x y},y∈r' x↔y∈r x:=λ{x y}=>(hp x).mem_iff
 have ap:∀s:α×α,s.1∈r s.2→st r' s=st r s:=λs hs=>by
  obtain⟨k,e⟩:=hr s.2
  unfold st;rw[e,nxt_rot (C.rn _) k hs]
 have hw:∀t,wt ou r' aa t=wt ns r aa t:=λt=>by
  unfold wt
  rw[zh9 (hn.map _)]
  refine zcf λx _=>?_
  have h1:=(hp x).length_eq
  have h2:(r' x=[])=(r x=[]):=propext ⟨λe=>by rw[e]at h1;exact List.eq_nil_of_length_eq_zero h1.symm,λe=>by rw[e]at h1;exact List.eq_nil_of_length_eq_zero h1⟩
  simp only[h1,h2]
 refine⟨hn.nodup_iff.mpr C.nd,λx hx=>?_,λx=>(hp x).nodup_iff.mpr (C.rn x),λx h=>C.ir x (hm.mp h),λx y h=>hm.mpr (C.sy x y (hm.mp h)),C.cf,λs=>(C.cm s).trans hm.symm,λc hc=>?_,λx hx=>hn.mem_iff.mpr (C.ln x (hn.mem_iff.mp hx)),λx y h=>C.la x y (hm.mp h),λx hx y hy e=>?_,λx hx=>?_⟩
 ·have:=hp x
  rw[C.ro x (λz=>hx (hn.mem_iff.mpr z))]at this
  exact List.Perm.eq_nil this
 ·exact zet (λy hy=>ap y (C.inc hc hy)) (C.cy c hc)
 ·exact(C.co x (hn.mem_iff.mp hx) y (hn.mem_iff.mp hy) e).mono λ_ _ h=>hm.mpr h
 ·rw[hw];exact C.eu x (hn.mem_iff.mp hx)
end
end Wb
end
section
namespace K21
open PySem L2 Wb
abbrev sSteps:Stmt:=top 12
structure BAt(H:Hp)(b:Nb)(bs:List ((Str×Str)×Addr))(r:Nn):Prop where
 dc:H b=some (.dT (bs.map λe=>(kP e.1,V.ref e.2)))
 tp:∀e∈bs,H e.2=some (.tup [.str (st r e.1).1,.str (st r e.1).2])
 nd:(bs.map (·.1)).Nodup
def BAt.keep{H H':Hp}{b:Nb}{bs:List ((Str×Str)×Addr)}{r:Nn}{xs:Nl}(h:BAt H b bs r)(k:Keep xs H H')(hb:b∉xs)(ht:∀e∈bs,e.2∉xs):BAt H' b bs r :=
 ⟨k _ _ h.dc hb,λe he=>k _ _ (h.tp e he) (ht e he),h.nd⟩
def kP_inj{s u:Str×Str}(h:kP s=kP u):s=u:=by
 unfold kP at h
 injection h with h1 h2
 injection h2 with h2 _
 exact Ue (Wd h1) (Wd h2)
def valT_out{bs:List ((Str×Str)×Addr)}{s:Str×Str}(h:s∉bs.map (·.1)):valV (bs.map λe=>(kP e.1,V.ref e.2)) (kP s)=none:=by
 induction bs with
 |nil=>rfl
 |cons a t ih =>
  rw[Qm,Qg,not_or]at h
  rw[Qm,zbh]
  ·exact ih h.2
  ·intro q;exact h.1 (kP_inj q).symm
def valT_in{bs:List ((Str×Str)×Addr)}(nd:(bs.map (·.1)).Nodup){e:(Str×Str)×Addr}(h:e∈bs):valV (bs.map fun e=>(kP e.1,V.ref e.2)) (kP e.1)=some (.ref e.2):=by
 induction bs with
 |nil=>cases h
 | cons a t ih =>
  rw[Qm,Qq]at nd
  rw[Qm]
  rcases Qg.mp h with z | z
  ·subst z;exact zce rfl
  ·rw [zbh]
   ·exact ih nd.2 z
   ·intro q
    exact nd.1 (by rw[kP_inj q];exact Qj.mpr ⟨e,z,rfl⟩)
inductive IspSteps(vs:List V)(H:Hp)(Q:VK):Prop
 |mk (d:Nb) (es:List Ent) (h0:vs=[.ref d]) (h1:TAt H d es) (h2:es.length≤60) (h3:(∀e∈es,e.2.1.Nodup∧e.2.1.length≤100)) (h4:∀(b:Nb) (bs:List ((Str×Str)×Addr)) (H':Hp),BAt H' b bs (row (rsOf es))→(∀s,s∈bs.map (·.1)↔s.1∈row (rsOf es) s.2)→bs.length≤10000→H b=none→Keep [] H H'→Q (.ref b) H'):IspSteps vs H Q
def spSteps:Sp:=λvs H Q _=>IspSteps vs H Q
def pidx(n j:Nat):Nat:=if j=0 then n-1 else j-1
def atI_prev{zs:List V}{j:Nat}(hj:j<zs.length):atI zs ((j:Int)-1)=zs[pidx zs.length j]?:=by
 unfold pidx
 by_cases h:j=0
 ·subst h
  rw[if_pos rfl]
  unfold atI ixN
  have e1:¬(0:Int)≤((0:Nat):Int)-1:=by lia
  have e2:-(zs.length:Int)≤((0:Nat):Int)-1:=by lia
  rw[if_neg e1,if_pos e2]
  show zs[(((0:Nat):Int)-1+(zs.length:Int)).toNat]?=_
  congr 1;lia
 ·rw [if_neg h]
  have e:(j:Int)-1=((j-1:Nat):Int):=by lia
  rw[e,zax (Qc QL),Qc QL]
def idx_at{zs:Nf}(nd:zs.Nodup){i:Nat}(hi:i<zs.length):zs.idxOf zs[i]=i:=by
 have h1:zs.idxOf zs[i]<zs.length:=idx_lt (Qs hi)
 have h2:zs[zs.idxOf zs[i]]=zs[i]:=List.getElem_idxOf h1
 exact(Wa nd).mp h2
def nxt_idx{zs:Nf}(nd:zs.Nodup){j:Nat}(hj:j<zs.length)(hp:pidx zs.length j<zs.length):nxt zs zs[pidx zs.length j]=zs[j]:=by
 unfold nxt
 rw[idx_at nd hp]
 have e:(pidx zs.length j+1)%zs.length=j:=by
  unfold pidx
  by_cases h:j=0
  ·rw [if_pos h,h]
   have:zs.length-1+1=zs.length:=by lia
   rw[this,Nat.mod_self]
  ·rw [if_neg h]
   have:j-1+1=j:=by lia
   rw[this,Nat.mod_eq_of_lt hj]
 rw[e,Zb,Qc hj];rfl
section
variable{P:Ni}{w:Nk}{K:Na}{mg:Nd}{base:Nm}
def ze0:zak ["rounds", "behind", "place", "around", "at", "to"] ["rounds"] (zag sSteps):=fsk
def ok_steps{f:Nb}{fd:Nr}(F:Fun K "steps_behind" "steps_behind" sSteps f fd)(ng:mg "enumerate" = none):ZC 1 f fd ["rounds"] spSteps:=by
 refine F.okL ze0 Z1
 obtain⟨d,es,rfl,T,aO,hok,k⟩:=h
 have hu:=zcd hr
 have aw  := sizeLine_eq
 refine⟨_,zad (zar 1 ze0.nd pe_dnewT)
  (zad (zh8 (zba Ze rfl (ze2 QH) (zan 2 ze0.nd)
   (zad (zar 3 ze0.nd (zb1 hu QH Q8))
   (zah (zba Ze rfl (pi_enum rfl ng (Z0 3)) (zcp rfl (zaj (zan 4 ze0.nd) (zaj (zan 5 ze0.nd) zbq)))
    (zah (zb5 hu QQ (zbo (zaa (za2 zbr (pv 3) (za1 zdl (pv 4) zai) QC) (Z0 2))) (zbo (ZV 2 (pv 5))) rfl)))))))
  (zah (zau QQ))),?_⟩
 refine λb hb=>?_
 have nfz:∀o' u',H d≠some (.frz o' u'):=λo' u' z=>by rw[T.dc]at z;cases z
 have nbd:d≠b:=zab T.dc hb
 have k1:ZE H (upd H b (.dT [])):=Keep.new hb
 have gA:BAt (upd H b (.dT [])) b [] ZQ:=⟨zac,λe he=>(by cases he),Zo⟩
 have T1:TAt (upd H b (.dT [])) d es:=T.keep k1 ZM WR
 generalize upd H b (.dT [])=H1 at k1 gA T1
 have hbm:∀{H':Hp} {bs:List ((Str×Str)×Addr)},BAt H' b bs ZQ→b≠d:=λ_=>Zn nbd
 refine⟨_,rfl,d,_,rfl,T1.dc,λo=>for_dict (λi σ H'=>Aj4 (Ex4 λx2 x3 x4 x5=>σ=[ZP d,ZP b,x2,x3,x4,x5]) (H' d=some (.frz o Q7)) (Keep [d,b] H1 H') (Ex1 λbs=>Aj3 (BAt H' b bs ZQ) (bs.length≤100*i) (∀s,s∈bs.map (·.1)↔s.2∈(es.take i).map (·.1)∧s.1∈ZG s.2)))
  ⟨⟨_,_,_,_,rfl⟩,zac,Keep.wr ZM,[],gA.keep (xs:=[d]) (Keep.wr ZM) (by simpa using Zn nbd) (λe he=>by cases he),Zc _,λs=>⟨λh=>(by cases h),λh=>(by cases h.1)⟩⟩
  (λi σ H' _ hh=>hh.2) ?_ ?_⟩
 ·rintro i pr σ H2 rG ⟨⟨x2,x3,x4,x5,rfl⟩,hz,k2,bs,aZ,kM,bp⟩
  have hi:i<es.length:=by
   have:=(Qz.mp rG).1
   rwa[Qa]at this
  have g1:pr=((Sum.inr es[i].1:Key),V.ref es[i].2.2):=by
   rw[Qo,Qc hi]at rG
   exact(Qn rG).symm
  subst g1
  have bG:es[i]∈es:=Qs hi
  obtain⟨ay,hln⟩:=hok _ bG
  have iX:ZG es[i].1=es[i].2.1:=zaw T.nd bG
  have bx:=T1.ro _ bG
  have nrd:es[i].2.2≠d:=za3 bx T1.dc ZX
  have nrb:es[i].2.2≠b:=za3 bx gA.dc ZX
  have iZ:=k2 _ _ bx (by simp[nrd,nrb])
  refine⟨W7,W7,d,.ref es[i].2.2,rfl,.inl ⟨_,Sum.inr es[i].1,.inr ⟨o,hz⟩,rfl,(zb3 T.nd bG).symm⟩,?_⟩
  have c8:es[i].1∉(es.take i).map (·.1):=by
   have h1:(es.map (·.1)).take QY=(es.map (·.1)).take i++[es[i].1]:=by
    rw[Ql (Z2 Qa hi),Zl]
   have h2:((es.map (·.1)).take QY).Nodup:=Yx (Uk _ _) T.nd
   rw[h1,Zd,←Je]at h2
   exact λz=>h2.2.2 _ z _ (Qd.mpr rfl) rfl
  refine⟨_,rfl,es[i].2.2,rfl,⟨_,WV iZ⟩,for_enum (xs:=es[i].2.1.map V.str) (λj σ H'=>Aj4 (Ex2 λx4 x5=>σ=[ZP d,ZP b,QB (.str es[i].1),QB (.ref es[i].2.2),x4,x5]) (H' d=some (.frz o Q7)) (Keep [d,b] H1 H') (Ex1 λbs=>Aj3 (BAt H' b bs ZQ) (bs.length≤100*i+j) (∀s,s∈bs.map (·.1)↔(s.2∈(es.take i).map (·.1)∧s.1∈ZG s.2)∨∃(m:Nat) (hm:m<j) (hp:pidx es[i].2.1.length m<es[i].2.1.length),s=(es[i].2.1[WL m],es[i].1))))
   ⟨⟨_,_,rfl⟩,hz,k2,bs,aZ,kM,fun s=>(bp s).trans ⟨.inl,fun h=>by
    rcases h with z | ⟨m,hm,_⟩
    ·exact z
    ·exact absurd hm (Xg m)⟩⟩ (λj σ H' _ hh=>hh.3 _ _ bx (by simp[nrd,nrb])) ?_ ?_⟩
  ·rintro j y t σ H3 hy ⟨⟨y4,y5,rfl⟩,jY,k3,kW,dI,nE,fB⟩ ht
   have hj:j<es[i].2.1.length:=by
    have:=(Qz.mp hy).1
    rwa[Qa]at this
   have lr:y=.str es[i].2.1[j]:=by
    rw[Qo,Qc hj]at hy
    exact(Qn hy).symm
   subst lr
   have rH:pidx es[i].2.1.length j<es[i].2.1.length:=by unfold pidx;split<;>lia
   have rB:=k3 _ _ bx (by simp[nrd,nrb])
   have k4:ZE H3 (upd H3 t (.tup [W6 j,.str es[i].2.1[j]])):=Keep.new ht
   refine⟨t,W7,WV zac,rfl,_,W7,_,W7,rfl,?_⟩
   generalize upd H3 t (.tup [W6 j,.str es[i].2.1[j]])=H4 at k4
   refine⟨W7,W7,(ZS 2),λv hv=>?_⟩
   have k5:ZE H4 (upd H4 v (.tup [.str es[i].1,.str es[i].2.1[j]])):=Keep.new hv
   have hv5:(upd H4 v (.tup [.str es[i].1,.str es[i].2.1[j]])) v=some (.tup [.str es[i].1,.str es[i].2.1[j]]):=zac
   generalize upd H4 v (.tup [.str es[i].1,.str es[i].2.1[j]])=H5 at k5 hv5
   have jV:ZE H3 H5:=k4.trans k5
   have rA:=jV _ _ rB ZM
   have dL:atI (es[i].2.1.map V.str) ((j:Int)-1)=some (.str es[i].2.1[WL j]):=by
    rw[atI_prev (Z2 Qa hj),Qa,Qo,Qc rH];rfl
   refine⟨W7,W7,W7,_,W7,rfl,es[i].2.2,_,_,W7,rfl,WV rA,dL,W7,(ZS 2),λq hq=>?_⟩
   have k6:ZE H5 (upd H5 q (.tup [.str es[i].2.1[WL j],.str es[i].1])):=Keep.new hq
   have hq6:(upd H5 q (.tup [.str es[i].2.1[WL j],.str es[i].1])) q=some (.tup ((kP (es[i].2.1[WL j],es[i].1)).map kV)):=zac
   generalize upd H5 q (.tup [.str es[i].2.1[WL j],.str es[i].1])=H6 at k6 hq6
   have qv:ZE H3 H6:=jV.trans k6
   have jD:BAt H6 b kW ZQ:=dI.keep qv ZM WR
   have hv6:=k6 _ _ hv5 ZM
   have hz6:=qv _ _ jY ZM
   refine⟨b,W7,DPut.t jD.dc hq6 (by rw[Qa];lia),?_⟩
   have fM:(es[i].2.1[WL j],es[i].1)∉kW.map (·.1):=λz=>by
    rcases(fB _).mp z with⟨z1,_⟩ | ⟨m,hm,hpm,e⟩
    ·exact c8 z1
    ·have e1:=(Uv e).1
     have e2:=(Wa ay).mp e1
     unfold pidx at e2
     by_cases hj0:j=0
     ·lia
     ·rw [if_neg hj0] at e2
      by_cases gq:m=0
      ·rw[if_pos gq]at e2;lia
      ·rw[if_neg gq]at e2;lia
   have jb:putK (kW.map λe=>(kP e.1,V.ref e.2)) (kP (es[i].2.1[WL j],es[i].1)) (ZZ v)=(kW++[((es[i].2.1[WL j],es[i].1),v)]).map λe=>(kP e.1,V.ref e.2):=by
    rw[zdw _ (valT_out fM),Qr];rfl
   have ap:st ZQ (es[i].2.1[WL j],es[i].1)=(es[i].1,es[i].2.1[j]):=by
    show(es[i].1,nxt (ZG es[i].1) es[i].2.1[WL j])=_
    rw[iX,nxt_idx ay hj rH]
   refine⟨⟨_,W7⟩,QF nbd hz6,(k3.trans (qv.sub ZM)).trans (Keep.wr ZM),_,⟨by rw[zac,jb],λe he=>?_,?_⟩,?_,λs=>?_⟩
   ·rcases Qk.mp he with z | z
    ·have:=jD.tp e z
     rw[zaf (za3 this jD.dc ZX)];exact this
    ·rw[Qd.mp z,ap,zaf (za3 hv6 jD.dc ZX)];exact hv6
   ·rw [Qr,Zd]
    refine⟨dI.nd,Qq.mpr ⟨ZM,Zo⟩,λx hx y hy e=>?_⟩
    have bQ:y=(es[i].2.1[WL j],es[i].1):=by simpa using hy
    exact fM (by rw[←bQ,←e];exact hx)
   ·rw[Qy];show _+1≤_;exact zar4 ‹_›
   ·rw [Qr,Qk,fB]
    constructor
    ·rintro ((z | ⟨m,hm,hp,e⟩) | z)
     ·exact .inl z
     ·exact .inr ⟨m,by exact zar16 ‹_›,hp,e⟩
     ·exact .inr ⟨j,by exact Qf _,rH,ZR z⟩
    ·rintro (z | ⟨m,hm,hp,e⟩)
     ·exact .inl (.inl z)
     ·by_cases hmj:m < j
      ·exact .inl (.inr ⟨m,hmj,hp,e⟩)
      ·have:m=j:=by lia
       subst this
       exact .inr (Z2 e Qb)
  ·rintro σ H3 ⟨⟨y4,y5,rfl⟩,jY,k3,kW,dI,nE,fB⟩
   rw[Qa]at fB nE
   refine⟨⟨_,_,_,W7⟩,jY,k3,kW,dI,QL,λs=>(fB s).trans ?_⟩
   have aQ:(es.take QY).map (·.1)=(es.take i).map (·.1)++[es[i].1]:=by rw[Ql hi,Qr];rfl
   rw[aQ,Qk,Qd]
   constructor
   ·rintro (⟨z1,z2⟩ | ⟨m,hm,hp,e⟩)
    ·exact⟨.inl z1,z2⟩
    ·rw[e];exact⟨.inr rfl,by rw[iX];exact Qs hp⟩
   ·rintro ⟨z1 | z1,z2⟩
    ·exact .inl ⟨z1,z2⟩
    ·refine .inr ?_
     rw[z1,iX]at z2
     obtain⟨q,hq,e⟩:=Zv z2
     by_cases fw:q+1<es[i].2.1.length
     ·have dY:pidx es[i].2.1.length (q+1) < es[i].2.1.length:=by unfold pidx;rw [if_neg QL];assumption
      refine⟨q+1,fw,dY,Ue ?_ z1⟩
      show s.1=es[i].2.1[WL (q+1)]
      rw[←e];congr 1
     ·have dY:pidx es[i].2.1.length 0 < es[i].2.1.length:=by unfold pidx;rw [if_pos rfl];lia
      refine⟨0,QL,dY,Ue ?_ z1⟩
      show s.1=es[i].2.1[WL 0]
      rw[←e];congr 1
      unfold pidx;rw[if_pos rfl];lia
 ·rintro σ H2 ⟨⟨x2,x3,x4,x5,rfl⟩,hz,k2,bs,aZ,kM,bp⟩
  rw[Qa]at bp kM
  rw[Qt QK]at bp
  refine⟨d,o,_,hz,nfz,?_⟩
  have kf:ZE H (upd H2 d Q7):=λc u ec _=>by
   have nc:c≠b:=zab ec hb
   by_cases aD:c=d
   ·subst aD
    rw[zac,←T.dc];exact ec
   ·rw [zaf aD]
    exact k2 c u (k1 c u ec ZM) (by simp[aD,nc])
  refine⟨W7,k b bs _ (aZ.keep (xs:=[d]) (Keep.wr ZM) (by simpa using Zn nbd) (λe he=>by simpa using za3 (aZ.tp e he) hz ZX)) (λs=>?_) QL hb kf⟩
  rw[bp]
  constructor
  ·exact λh=>h.2
  ·intro h
   refine⟨?_,h⟩
   obtain⟨p,hp,e,_⟩:=(zig (rs:=rsOf es) (by unfold rsOf;rw[List.map_map];exact T.nd)).mpr h
   obtain⟨en,bq,rfl⟩:=Qj.mp hp
   exact Qj.mpr ⟨en,bq,e⟩
end
abbrev zfd:Stmt:=top 13
def zde(H:Hp)(a:Nb)(h:Str):Prop:=∃t:List Str,H a=some (QZ ((h::t).map V.str))
def ze6(es:List Ent):List Str:=(es.filter λe=>e.2.1.isEmpty).map (·.1)
inductive IspFaces(vs:List V)(H:Hp)(Q:VK):Prop
 |mk (d:Nb) (es:List Ent) (cs:List (List (Str×Str))) (aa:Nv) (h0:vs=[.ref d]) (h1:TAt H d es) (h2:es.length≤60) (h3:(∀e∈es,e.2.1.length≤100)) (h4:Cert (es.map (·.1)) (row (rsOf es)) cs aa) (h5:∀(l:Nb) (as:Nl) (hd hc:Nf) (cs':List (List (Str×Str))) (H':Hp),H' l=some (.lst (as.map V.ref))→as.length≤20000→Paired (zde H') as hd→hd.Perm (ze6 es++hc)→cs'.Perm cs→Paired (λh c=>∃s∈c,s.1=h) hc cs'→ZE H H'→Q (ZZ l) H'):IspFaces vs H Q
def spFaces:Sp:=λvs H Q _=>IspFaces vs H Q
def pt_truthK{X:Cx}{K:Na}{a:Expr}{ta:TE}(hK:X.K=K)(ha:PE X a ta)(he:∀whole,isTrue a X.env whole=(do let v ←whole;standAt a.pos;holding [v] (truthy v))) :
  PT X a (λ σ H Q=>ta σ H λx H'=>RTr K x H' Q):=hK▸zel ha he
abbrev zfa:Scope:=scOf (eOf (sAt zfd 1))
def csFaces_k:zfa.kind=.function:=by rfl
def csFaces_c:∀y∈zfa.names,y.2≠.cell:=by decide +kernel
def csFaces_n:∀y∈zfa.names,y.2=.local→zfa.names.lookup y.1=some .local:=by decide +kernel
def csFaces_f:∀y∈zfa.names,y.2=.free→(zag zfd).names.lookup y.1=some .cell∨(zag zfd).names.lookup y.1=some .free:=by decide +kernel
def csFaces_l:zfa.names.lookup ("rounds" : Str)=some NameKind.free:=by decide +kernel
def ndF:(["place", "rounds"]:List Str).Nodup:=by decide +kernel
def valG_out{gs:Nq}{s:Str×Str}(h:s∉gs):valV (gs.map λs=>(kP s,V.bl true)) (kP s)=none:=by
 induction gs with
 |nil=>rfl
 |cons a t ih =>
  rw[Qg,not_or]at h
  rw[Qm,zbh]
  ·exact ih h.2
  ·intro q;exact h.1 (kP_inj q).symm
def valG_in{gs:Nq}{s:Str×Str}(h:s∈gs):valV (gs.map λs=>(kP s,V.bl true)) (kP s)=some (.bl true):=by
 induction gs with
 |nil=>cases h
 | cons a t ih =>
  rw[Qm]
  by_cases e:a=s
  ·exact zce (by rw[e])
  ·rw [zbh (fun q=>e (kP_inj q))]
   rcases Qg.mp h with z | z
   ·exact absurd z.symm e
   ·exact ih z
def lk_get{β:Type}{f:β→β}{e:β}:∀{t:List β} {s:β},Lk f s t e→∀k,k<(s::t).length→f ((s::t).getD k e)=(s::t).getD (k+1) e:=by
 intro t
 induction t with
 |nil =>
  intro s h k hk
  have:k=0:=by simp at hk;exact hk
  subst this;exact h
 | cons a t ih =>
  intro s h k hk
  cases k with
  |zero=>exact h.1
  |succ n =>
   have:=ih h.2 n (ZR hk)
   simpa using this
def zc6{H H':Hp}{D g:Nb}{fa:Nl}{hd:Nf}{xs:Nl}(k:Keep xs H H')(h:Paired (zde H) fa hd)(hx:∀a (h:Str) (t:Nf),H a=some (QZ ((h::t).map V.str))→a∉xs):Paired (zde H') fa hd :=
 Paired.imp' (λa h ⟨t,e⟩=>⟨t,k _ _ e (hx a h t e)⟩) h
def za5{α β:Type}{R:α→β→Prop}:∀{as cN:List α} {bs kX:List β},Paired R as bs→Paired R cN kX→Paired R (as++cN) (bs++kX):=by
 intro as cN bs kX r r'
 induction r with
 |nil=>exact r'
 |cons h t ih=>exact .cons h ih
section
variable{P:Ni}{w:Nk}{K:Na}{mg:Nd}{base:Nm}
def zdj:zak ["rounds", "behind", "found", "gone", "first", "face", "step"] ["rounds"] (zag zfd):=fsk
def ok_faces{f fs:Nb}{fd fds:Nr}(F:Fun K "faces_of" "faces_of" zfd f fd)(FS:Fun K "steps_behind" "steps_behind" sSteps fs fds)(bS:Binds K fds ["rounds"] [])(mS:mg "steps_behind" = some (ZZ fs))(GS:ZC 1 fs fds ["rounds"] spSteps)(aN:mg "sorted" = none):ZC 2 f fd ["rounds"] spFaces:=by
 refine F.okL zdj Z1
 obtain⟨d,es,cs,aa,rfl,T,aO,bw,C,k⟩:=h
 have hu:=zcd hr
 have gL:(A.deeper (PyProof.Rows.envOfC "faces_of" (zag zfd) s.heap.objs.size f cdv)).units+8<cLine:=Kc (Nat.add_le_add_left (by decide:8≤64) _) hr.units
 have aw  := sizeLine_eq
 refine⟨_,zad (zar 1 zdj.nd (zcq GS hr rfl mS FS.kp bS .nil zc9 (Z0 0)))
  (zad (zh8 (ps_lc (i:=2) (M:=["place", "rounds"]) (ix:=[none,QB 0]) zdj.nd rfl rfl ⟨csFaces_k,csFaces_c,csFaces_n,csFaces_f,rfl,by decide +kernel,λj i x h1 h2=>by
     match j,h1,h2 with
     |0,_,h2=>cases h2
     |1,h1,h2=>cases h1;cases h2;exact⟨rfl,csFaces_l⟩
     |n+2,h1,_=>cases h1⟩ rfl (ze2 QH) (λC a7 ex s H=>zan 0 ndF)
    (λC a7 ex s H=>zco (pt_not (pt_truthK (K:=K) rfl (zb1 (by exact hu) QQ QH) (by intro _;rfl)))) (λC a7 ex s H=>zbk (Z0 0)) rfl))
  (zad (zar 3 zdj.nd pe_dnewT)
  (zad (zba Ze rfl (zao (zal (zgz rfl) Q4 aN Ws (Z0 1))) (zan 4 zdj.nd)
   (zad (zar 5 zdj.nd (zbk zae))
   (zad (zar 6 zdj.nd (pv 4))
   (zad (zem Ze (zcm (zc3 hu (pv 6) (pv 3)))
    (zad (zb5 hu (pv 3) (pv 6) pe_bl rfl)
    (zad (zbj (zfn Zy Yr Yq zb8 (pv 5) (zaa (za2 zbr (pv 6) zai QC) zae)))
    (zah (zar 6 zdj.nd (zb1 hu QQ (pv 6)))))))
   (zah (zb0 (zel (pv 5) (by intro _;rfl)) (zah (zbj (zfn Zy Yr Yq zb8 Q8 (Z0 5)))) zas))))))
  (zah (zau (zal (zfb gL) Q4 aN Ws (Z0 2))))))),?_⟩
 have ax:∀e∈es,ZG e.1=e.2.1:=λe he=>zaw T.nd he
 refine⟨W7,d,es,rfl,T,aO,λe he=>⟨ax e he▸C.rn e.1,bw e he⟩,λb bs H1 gA bp kM hbfr k1=>?_⟩
 have T1:TAt H1 d es:=T.keep k1 ZM WR
 have nfz:∀o' u',H d≠some (.frz o' u'):=λo' u' z=>by rw[T.dc]at z;cases z
 refine⟨_,rfl,d,_,rfl,T1.dc,λo=>⟨λi m ys τ H2=>Aj6 (m=es.length-i) (i≤es.length) (Ex1 λx0=>τ=[x0,ZP d]) (H2 d=some (.frz o Q7)) (Keep [d] H1 H2) (Ex1 λ(as:Nl)=>Aj3 (ys=as.map V.ref) (as.length≤i) (Paired (zde H2) as (ze6 (es.take i)))),
  ⟨es.length,rfl,Zc _,⟨none,rfl⟩,zac,Keep.wr Qb,[],rfl,Zc _,.nil⟩,?_⟩⟩
 rintro i m ys τ H2 ⟨rfl,hi,⟨x0,rfl⟩,hz,k2,fa,rfl,gY,km⟩
 by_cases ae:i<es.length
 ·refine .inr ⟨⟨hz,by rw [Qa];exact ae⟩,by rw [Qa];lia,?_⟩
  rintro y H' ⟨rfl,pr,e1,rfl⟩
  have g1:pr=((Sum.inr es[i].1:Key),V.ref es[i].2.2):=by
   rw[Qo,Qc ae]at e1
   exact(Qn e1).symm
  subst g1
  have bG:es[i]∈es:=Qs ae
  have dW:=T1.ro _ bG
  have nri:es[i].2.2≠d:=za3 dW T1.dc ZX
  have iZ:=k2 _ _ dW (ZR nri)
  have aQ:es.take QY=es.take i++[es[i]]:=Ql ae
  refine⟨W7,W7,d,.ref es[i].2.2,rfl,.inl ⟨_,Sum.inr es[i].1,.inr ⟨o,hz⟩,rfl,(zb3 T.nd bG).symm⟩,_,.inr (.inl ⟨_,WV iZ,rfl⟩),?_⟩
  have pi:(es[i].2.1.map V.str).isEmpty=es[i].2.1.isEmpty:=by cases es[i].2.1<;>rfl
  cases hb:es[i].2.1.isEmpty with
  | false =>
   refine zbl (by rw[pi,hb];rfl) ⟨_,?_,rfl,ae,⟨_,rfl⟩,hz,k2,fa,rfl,by exact zar16 ‹_›,?_⟩
   ·exact zar1 ‹_›
   ·unfold ze6
    rw[aQ,Yw,Zr (by rw[hb];decide),Wn,Zw];exact km
  | true =>
   refine zbs (by rw[pi,hb];rfl) ⟨_,rfl,(ZS 1),λq hq=>⟨_,?_,rfl,ae,⟨_,rfl⟩,?_,k2.trans (QD hq),fa++[q],?_,?_,?_⟩⟩
   ·exact zar1 ‹_›
   ·rw[zaf (zab hz hq)];exact hz
   ·rw[Qr];rfl
   ·rw[Qy];show _+1≤_;exact zar4 ‹_›
   ·unfold ze6
    rw[aQ,Yw,Zq (by rw[hb]),Wn,Qr]
    exact za5 (zc6 (D:=d) (g:=d) (xs:=[]) (QD hq) km (λ_ _ _ _=>by simp)) (.cons ⟨[],zac⟩ .nil)
 ·have cg:i=es.length:=by exact zar3 ‹_› ‹_›
  subst cg
  rw[Qt QK]at km
  refine .inl ⟨⟨hz,W0 Qa⟩,λD hD=>?_⟩
  have ndD:d≠D:=zab hz hD
  refine⟨d,o,_,(QF ndD hz),nfz,?_⟩
  have k3:ZE H1 (upd (ZW H2 D (fa.map V.ref)) d Q7):=λc u ec _=>by
   by_cases aD:c=d
   ·subst aD
    rw[zac,←T1.dc];exact ec
   ·have o8:=k2 c u ec (ZR aD)
    rw[zaf aD,zaf (zab o8 hD)];exact o8
  have bV:(upd (ZW H2 D (fa.map V.ref)) d Q7) D=some (QZ (fa.map V.ref)):=by rw[zaf (Zn ndD)];exact zac
  have cJ:Paired (zde (upd (ZW H2 D (fa.map V.ref)) d Q7)) fa (ze6 es):=Paired.imp' (λa h ⟨t,e⟩=>⟨t,by
   rw[zaf (za3 e hz ZX),zaf (zab e hD)];exact e⟩) km
  generalize upd (ZW H2 D (fa.map V.ref)) d Q7=H3 at k3 bV cJ
  have dI:BAt H3 b bs ZQ:=gA.keep k3 ZM WR
  refine λg hg=>?_
  have k4:ZE H3 (upd H3 g (.dT [])):=Keep.new hg
  have hg4:(upd H3 g (.dT [])) g=some (.dT []):=zac
  generalize upd H3 g (.dT [])=H4 at k4 hg4
  have nH:BAt H4 b bs ZQ:=dI.keep k4 ZM WR
  refine⟨W7,b,_,bs.map (·.1),rfl,nH.dc,(by rw[Zk,Zk];rfl),λl as ws hl aj pa=>?_⟩
  have k5:ZE H4 (ZW H4 l W4):=Keep.new hl
  have cD:(ZW H4 l W4) l=some (QZ W4):=zac
  have jT:zbn (ZW H4 l W4) as ws:=zbn.keep pa λc x y ec=>k5 _ _ ec ZM
  have nDl:D≠l:=zab (k4 _ _ bV ZM) hl
  generalize upd H4 l (QZ W4)=H5 at k5 cD jT
  have jV:ZE H3 H5:=k4.trans k5
  have nQ:=jV _ _ bV ZM
  have mJ:=k5 _ _ hg4 ZM
  have iE:BAt H5 b bs ZQ:=nH.keep k5 ZM WR
  have gQ:Paired (zde H5) fa (ze6 es):=zc6 (D:=d) (g:=d) jV cJ (λ_ _ _ _=>by simp)
  have gf:ZE H H5:=(k1.trans k3).trans jV
  have nlg:l≠g:=za3 cD mJ ZX
  have nDg:D≠g:=za3 nQ mJ ZX
  have nbg:b≠g:=zab dI.dc hg
  have nbD:b≠D:=za3 iE.dc nQ ZX
  have ba:as.length=ws.length:=Ya jT
  have dh:ws.length≤10000:=by rw[aj.length_eq,Qa];exact kM
  have notDg:∀{H':Hp} {pM:Nl} {gs:Nq},H' D=some (QZ (pM.map V.ref))→H' g=some (.dT (gs.map λs=>(kP s,V.bl true)))→∀a (h:Str) (t:Nf),H' a=some (QZ ((h::t).map V.str))→a≠D∧a≠g:=λ{H' pM gs} e1 e2 a h t e =>
   ⟨za3 e e1 (by
    intro z
    have z':(h::t).map V.str=pM.map V.ref:=by injection z
    cases pM with
    |nil=>cases z'
    |cons x u=>rw[Qm,Qm]at z';injection z' with z1 _;cases z1),za3 e e2 ZX⟩
  refine⟨l,rfl,⟨_,Z4 cD⟩,zbf (xs:=as.map V.ref) (λi σ H'=>Aj3 (Ex3 λx4 x5 x6=>σ=[ZP d,ZP b,ZP D,ZP g,x4,x5,x6]) (Keep [D,g] H5 H') (Ex5 λ(gs:Nq) (dn rem:List (List (Str×Str))) (fa:Nl) (hc:Nf)=>Aj9 (H' g=some (.dT (gs.map λs=>(kP s,V.bl true)))) gs.Nodup (∀s,s∈gs↔s∈dn.flatten) (cs.Perm (dn++rem)) (∀s∈ws.take i,s∈gs) (H' D=some (QZ (fa.map V.ref))) (Paired (zde H') fa (ze6 es++hc)) (Paired (λh c=>∃s∈c,s.1=h) hc dn) (fa.length≤100+i)))
   ⟨⟨_,_,_,rfl⟩,Keep.refl,[],[],cs,fa,[],mJ,Zo,λs=>Iff.rfl,List.Perm.refl _,λs hs=>(by cases hs),nQ,Z2 Zw gQ,.nil,ZO⟩
   (λi σ H' _ hh=>SqL.of (hh.2 _ _ cD (by simp[Zn nDl,nlg]))) ?_ ?_⟩
  ·rintro i y σ H6 hx ⟨⟨x4,x5,x6,rfl⟩,k6,gs,dn,rem,o4,nC,su,ss,jq,e7,oJ,pz,gP,aD,mY⟩
   have hi:i<as.length:=by
    have:=(Qz.mp hx).1
    rwa[Qa]at this
   have gG:y=.ref as[i]:=by
    rw[Qo,Qc hi]at hx
    exact(Qn hx).symm
   subst gG
   obtain⟨ao,jF⟩:=zaz jT hi
   have nag:as[i]≠g:=za3 jF mJ ZX
   have naD:as[i]≠D:=za3 jF nQ ZX
   have nN:=k6 _ _ jF (by simp[nag,naD])
   have gl:ws[i]∈ws:=Qs ao
   have oR:ws[i].1∈ZG ws[i].2:=(bp _).mp (aj.mem_iff.mp gl)
   have hwt:∀{pG:Nq},(∀s∈gs,s∈pG)→ws[i]∈pG→∀s∈ws.take QY,s∈pG:=λ{pG} h1 h2 s hs=>by
    rw[Ql ao]at hs
    rcases Qk.mp hs with z | z
    ·exact h1 s (oJ s z)
    ·rw[Qd.mp z];exact h2
   refine⟨(ZS 0),λfl fS=>?_⟩
   have k7:ZE H6 (upd H6 fl WQ):=Keep.new fS
   have bE:(upd H6 fl WQ) fl=some WQ:=zac
   have nfD:fl≠D:=Zn (zab pz fS)
   have nfg:fl≠g:=Zn (zab su fS)
   have nafl:as[i]≠fl:=zab nN fS
   generalize upd H6 fl WQ=H7 at k7 bE
   have mI:=k7 _ _ su ZM
   have tR:=k7 _ _ pz ZM
   have nM:=k7 _ _ nN ZM
   have eO:Keep [D,g] H5 H7:=k6.trans (k7.sub ZM)
   have tI:BAt H7 b bs ZQ:=iE.keep eO (by simp[nbD,nbg]) λe he=>by
    have h1:=iE.tp e he
    simp[za3 h1 nQ ZX,za3 h1 mJ ZX]
   have nbfl:b≠fl:=za3 tI.dc bE ZX
   have lT:Paired (zde H7) o4 (ze6 es++nC):=zc6 (D:=d) (g:=d) k7 gP (λ_ _ _ _=>by simp)
   refine⟨W7,?_⟩
   by_cases fI:ws[i]∈gs
   ·-- it is gone already
    refine⟨λm σ H'=>Aj2 (σ=[ZP d,ZP b,ZP D,ZP g,QB (.ref as[i]),ZP fl,QB (.ref as[i])]) (H'=H7),⟨0,rfl,rfl⟩,?_⟩
    rintro m σ H' ⟨rfl,rfl⟩
    have dg:=DGet.t (k:=kP ws[i]) mI nM
    rw[valG_in fI]at dg
    refine⟨W7,W7,g,W7,dg,W7,zbl rfl ?_⟩
    refine⟨W7,_,.inl ⟨_,Z4 bE,rfl⟩,zbl rfl ?_⟩
    exact⟨⟨_,_,W7⟩,eO,gs,dn,rem,o4,nC,mI,ss,jq,e7,hwt (λ_ h=>h) fI,tR,lT,aD,by exact zar16 ‹_›⟩
   ·-- a new cycle
    obtain⟨c,ck,lK⟩:=Zs.mp ((C.cm ws[i]).mpr oR)
    obtain⟨A1,B1,dN⟩:=Yl lK
    have kC:=zc1 (dN▸C.cy c ck)
    generalize hL:ws[i]::(B1++A1)=L
    have cV:L.Perm c:=by
     rw[←hL,dN]
     refine Jc.mpr λa=>?_
     simp only[Jp,Jy];lia
    have bD:=(List.Perm.flatten e7).nodup_iff.mp C.cf
    rw[Wl,Zd]at bD
    have iC:c∈rem:=by
     rcases Qk.mp (e7.mem_iff.mp ck) with z | z
     ·exact absurd ((jq _).mpr (Zs.mpr ⟨c,z,lK⟩)) fI
     ·exact z
    have hLg:∀s∈L,s∉gs:=λs hs hg=>by
     exact absurd rfl (bD.2.2 s ((jq s).mp hg) s (Zs.mpr ⟨c,iC,cV.mem_iff.mp hs⟩))
    have nP:L.Nodup:=by
     rw[cV.nodup_iff]
     have:=(zby ck).nodup_iff.mp C.cf
     rw[Zd]at this
     exact this.1
    have nO:∀s∈L,s.1∈ZG s.2:=λs hs=>C.inc ck (cV.mem_iff.mp hs)
    have hLpos:0<L.length:=by rw[←hL];simp
    have aI:gs++L |>.Nodup:=Zd.mpr ⟨ss,nP,λa ha b' dJ e=>hLg b' dJ (e▸ha)⟩
    have hsz:(gs++L).length≤10000:=by
     refine Zi (nodup_len aI (m:=bs.map (·.1)) λs hs=>?_) (Z2 Qa kM)
     rcases Qk.mp hs with z | z
     ·obtain ⟨c',cn,bf⟩:=Zs.mp ((jq s).mp z)
      exact(bp s).mpr (C.inc (e7.mem_iff.mpr (Qp _ cn)) bf)
     ·exact(bp s).mpr (nO s z)
    rw[Qy]at hsz
    have gX:∀k (hk:k<L.length),st ZQ L[k]=L.getD (k+1) ws[i]:=λk hk=>by
     have:=lk_get kC k (Z2 hL hk)
     rw[hL,Zb,Qc hk]at this
     exact this
    refine⟨λm σ H'=>Ex2 λ(k:Nat) (t:Nb)=>Aj7 (m=L.length-k) (k≤L.length) (σ=[ZP d,ZP b,ZP D,ZP g,QB (.ref as[i]),ZP fl,ZP t]) (Keep [g,fl] H7 H') (H' g=some (.dT (QW k))) (H' fl=some (QZ (((L.take k).map (·.1)).map V.str))) (H' t=some (.tup [.str (L.getD k ws[i]).1,.str (L.getD k ws[i]).2])),
     ⟨_,0,as[i],rfl,Zc _,rfl,Keep.refl,by rw[List.take_zero,Zw];exact mI,bE,by rw[←hL];exact nM⟩,?_⟩
    rintro m σ H8 ⟨k8,t,rfl,hk8,rfl,gE,mH,fR,gm⟩
    have dg:=DGet.t (k:=kP (L.getD k8 ws[i])) mH gm
    by_cases dA:k8<L.length
    ·have fU:L.getD k8 ws[i]=L[k8]:=by rw [Zb,Qc dA];rfl
     have aQ:L.take (k8+1)=L.take k8++[L[k8]]:=Ql dA
     have c8:L[k8]∉gs++L.take k8:=λz=>by
      rcases Qk.mp z with q | q
      ·exact hLg _ (Qs dA) q
      ·have:=Yx (Uk (k8+1) L) nP
       rw[aQ,Zd]at this
       exact this.2.2 _ q _ (Qd.mpr rfl) rfl
     rw[fU]at gm dg
     rw[valG_out c8]at dg
     refine⟨W7,W7,g,W7,dg,W7,zbs rfl ?_⟩
     refine⟨_,λ σ' H' z=>z,?_⟩
     have mi:(QW k8).length<sizeLine:=by
      rw[Qa,Qy,Zt];lia
     refine⟨W7,W7,g,W7,DPut.t (k:=kP L[k8]) mH gm mi,?_⟩
     have jb:putK (QW k8) (kP L[k8]) (.bl true)=(gs++L.take (k8+1)).map λs=>(kP s,V.bl true):=by
      rw[zdw _ (valG_out c8),aQ,←Qw,Qr (l₂:=[L[k8]])];rfl
     rw[jb]
     have ntg:t≠g:=za3 gm mH ZX
     have ntfl:t≠fl:=za3 gm fR ZX
     have k9:Keep [g,fl] H7 (upd H8 g (.dT (QW (k8+1)))):=gE.trans (Keep.wr ZM)
     have hg9:(upd H8 g (.dT (QW (k8+1)))) g=some (.dT (QW (k8+1))):=zac
     have ju:(upd H8 g (.dT (QW (k8+1)))) fl=some (QZ (((L.take k8).map (·.1)).map V.str)):=by rw[zaf nfg];exact fR
     have ic:(upd H8 g (.dT (QW (k8+1)))) t=some (.tup [.str L[k8].1,.str L[k8].2]):=by rw[zaf ntg];exact gm
     generalize upd H8 g (.dT (QW (k8+1)))=H9 at k9 hg9 ju ic
     refine⟨W7,.inl ⟨rfl,_,Z4 ju⟩,W7,t,_,_,W7,rfl,WV ic,zax (j:=0) rfl,fl,_,W7,rfl,ju,(by rw[Qa,Qa,Zt];lia),?_⟩
     have hfe:((L.take k8).map (·.1)).map V.str++[V.str L[k8].1]=((L.take (k8+1)).map (·.1)).map V.str:=by rw[aQ,Qr,Qr];rfl
     rw[hfe]
     have jW:Keep [g,fl] H7 (ZW H9 fl (((L.take (k8+1)).map (·.1)).map V.str)):=k9.trans (Keep.wr ZM)
     have mK:(ZW H9 fl (((L.take (k8+1)).map (·.1)).map V.str)) g=some (.dT (QW (k8+1))):=by rw[zaf (Zn nfg)];exact hg9
     have iw:(ZW H9 fl (((L.take (k8+1)).map (·.1)).map V.str)) fl=some (QZ (((L.take (k8+1)).map (·.1)).map V.str)):=zac
     have lH:(ZW H9 fl (((L.take (k8+1)).map (·.1)).map V.str)) t=some (.tup [.str L[k8].1,.str L[k8].2]):=by rw[zaf ntfl];exact ic
     generalize upd H9 fl (QZ (((L.take (k8+1)).map (·.1)).map V.str))=eF at jW mK iw lH
     have jE:BAt eF b bs ZQ:=tI.keep jW (by simp[nbg,nbfl]) λe he=>by
      have h1:=tI.tp e he
      simp[za3 h1 mI ZX,za3 h1 bE ZX]
     obtain⟨e,he,hee⟩:=Qj.mp ((bp L[k8]).mpr (nO _ (Qs dA)))
     have dg2:=DGet.t (k:=kP L[k8]) jE.dc lH
     rw[←hee,valT_in jE.nd he]at dg2
     have iT:=jE.tp e he
     rw[hee,gX k8 dA]at iT
     refine⟨W7,W7,b,W7,dg2,L.length-(k8+1),QP,k8+1,e.2,rfl,dA,rfl,jW,mK,iw,iT⟩
    ·have hk:k8=L.length:=by exact zar3 ‹_› ‹_›
     subst hk
     have fU:L.getD L.length ws[i]=ws[i]:=by rw[Zb,Js QK];rfl
     rw[Qt QK]at mH fR dg
     have hwL:ws[i]∈L:=by rw[←hL];exact Qb
     rw[fU,valG_in (Qh _ hwL)]at dg
     refine⟨W7,W7,g,W7,dg,W7,zbl rfl ?_⟩
     have av:((L.map (·.1)).map V.str).isEmpty=false:=by rw[←hL];rfl
     refine⟨W7,_,.inl ⟨_,Z4 fR,rfl⟩,zbs (by rw[av];rfl) ?_⟩
     have hD8:=gE _ _ tR (by simp[nDg,Zn nfD])
     refine⟨W7,.inl ⟨rfl,_,Z4 hD8⟩,W7,D,_,W7,rfl,hD8,(by rw[Qa];lia),?_⟩
     have k9:Keep [D,g] H5 (ZW H8 D (o4.map V.ref++[ZZ fl])):=by
      refine Keep.trans (λc' u' ec cn=>?_) (Keep.wr ZM)
      have h7:=eO c' u' ec cn
      refine gE c' u' h7 ?_
      have ncg:c'≠g:=λz=>cn (by simp[z])
      have ncf:c'≠fl:=λz=>by
       have:=k6 c' u' ec cn
       rw[z,fS]at this;cases this
      simp[ncg,ncf]
     refine⟨⟨_,_,W7⟩,k9,gs++L,dn++[c],rem.erase c,o4++[fl],nC++[ws[i].1],QF (Zn nDg) mH,aI,λs=>?_,?_,hwt (λs hs=>Qp _ hs) (Qh _ hwL),by rw[zac,Qr];rfl,?_,za5 aD (.cons ⟨ws[i],lK,rfl⟩ .nil),by rw[Qy];show _+1≤_;exact zar4 ‹_›⟩
     ·rw[Qk,jq,Wl,Qk,Wc,List.flatten_nil,Zw,cV.mem_iff]
     ·refine e7.trans ?_
      rw[Qw]
      exact Zz _ (Jv iC)
     ·rw [← Qw]
      refine za5 (Paired.imp' (λa h ⟨t,e⟩=>⟨t,?_⟩) lT) (.cons ⟨(B1++A1).map (·.1),?_⟩ .nil)
      ·have n1:=notDg tR mI a h t e
       have naf:a≠fl:=za3 e bE (by intro z;injection z with z;cases z)
       rw[zaf n1.1]
       exact gE _ _ e (by simp[n1.2,naf])
      ·rw[zaf nfD,fR,←hL];rfl
  ·rintro σ H6 ⟨⟨x4,x5,x6,rfl⟩,k6,gs,dn,rem,o4,nC,su,ss,jq,e7,oJ,pz,gP,aD,mY⟩
   rw[Qa,ba,Qt QK]at oJ
   have rD:rem=[]:=by
    cases rem with
    |nil=>rfl
    |cons c rem' =>
     have nz:c∈cs:=e7.mem_iff.mpr (Qh _ Qb)
     obtain⟨s0,t0,gy,_⟩:=C.cy c nz
     have aw:s0∈c:=by rw[gy];exact Qb
     have h1:s0∈ws:=aj.mem_iff.mpr ((bp s0).mpr (C.inc nz aw))
     have h2:=(jq s0).mp (oJ s0 h1)
     have h3:=(List.Perm.flatten e7).nodup_iff.mp C.cf
     rw[Wl,Zd]at h3
     exact absurd rfl (h3.2.2 s0 h2 s0 (Zs.mpr ⟨c,Qb,aw⟩))
   rw[rD,Zw]at e7
   refine⟨W7,D,W7,Z4 pz,λv hv=>?_,λl7 ws7 bo jd=>?_⟩
   ·obtain ⟨a,ha,rfl⟩:=Qj.mp hv
    obtain⟨j,hj,rfl⟩:=Zv ha
    obtain⟨_,t,e⟩:=zaz gP hj
    exact⟨_,W7,e⟩
   ·obtain ⟨as7,rfl,aV⟩:=refs_perm jd
    obtain⟨hd7,cQ,bZ⟩:=zd9 aV gP
    refine k l7 as7 hd7 nC dn _ zac (by rw[aV.length_eq];rw[Qa]at mY;lia) (Paired.imp' (λa h ⟨t,e⟩=>⟨t,QF (zab e bo) e⟩) bZ) cQ e7.symm aD ?_
    refine(λc u ec _=>?_)
    have nD:c≠D:=λz=>by
     by_cases zd:c=d
     ·exact ndD (zd▸z)
     ·have h2:=k2 c u (k1 c u ec ZM) (ZR zd)
      rw[z,hD]at h2;cases h2
    have nG:c≠g:=λz=>by
     have h1:=k3 c u (k1 c u ec ZM) ZM
     rw[z,hg]at h1;cases h1
    have:=k6 c u (gf c u ec ZM) (by simp[nD,nG])
    rw[zaf (zab this bo)];exact this
end
abbrev zg7:Stmt:=top 14
abbrev zh4:Stmt:=top 15
def marks(ks:Nf):List (Key×V):=ks.map λz=>((Sum.inr z:Key),V.bl true)
def zhs(h:x∉ks):valV (marks ks) (Sum.inr x)=none:=by
 unfold marks
 induction ks with
 |nil=>rfl
 |cons a t ih =>
  rw[Qg,not_or]at h
  rw[Qm,zbh]
  ·exact ih h.2
  ·intro q;exact h.1 (Wd q).symm
def valM_in(h:x∈ks):valV (marks ks) (Sum.inr x)=some (.bl true):=by
 unfold marks
 induction ks with
 |nil=>cases h
 | cons a t ih =>
  rw[Qm]
  by_cases e:a=x
  ·exact zce (by rw[e])
  ·rw [zbh (fun q=>e (Wd q))]
   rcases Qg.mp h with z | z
   ·exact absurd z.symm e
   ·exact ih z
def putM_new(h:x∉ks):putK (marks ks) (Sum.inr x) (.bl true)=marks (ks++[x]):=by
 rw[zdw _ (zhs h)];unfold marks;rw[List.map_append];rfl
def putM_old(h:x∈ks):putK (marks ks) (Sum.inr x) (.bl true)=marks ks:=by
 unfold putK marks
 rw[if_pos]
 ·rw [Zk]
  refine Yb λz _=>?_
  show(if(Sum.inr z:Key)=Sum.inr x then((Sum.inr z:Key),V.bl true) else(Sum.inr z,V.bl true))=_
  split<;>rfl
 ·exact Yh.mpr ⟨_,Qj.mpr ⟨x,h,rfl⟩,ZM⟩
def mkeys(ks:Nf):((marks ks).map λp=>kV p.1)=ks.map V.str:=by unfold marks;rw[List.map_map];rfl
inductive IspPiece(vs:List V)(H:Hp)(Q:VK):Prop
 |mk (d:Nb) (es:List Ent) (cs:List (List (Str×Str))) (aa:Nv) (x:Str) (h0:vs=[.ref d,.str x]) (h1:TAt H d es) (h2:es.length≤60) (h3:Cert (es.map (·.1)) (row (rsOf es)) cs aa) (h4:x∈es.map (·.1)) (h5:∀(l:Nb) (zs:Nf) (H':Hp),H' l=some (.lst (zs.map V.str))→zs.Nodup→zs.Pairwise leS→(∀y,y∈zs↔y∈es.map (·.1)∧aa y=aa x)→H l=none→Keep [] H H'→Q (.ref l) H'):IspPiece vs H Q
def spPiece:Sp:=λvs H Q _=>IspPiece vs H Q
def seqO(b:Bool)(xs:List V):HO:=bif b then .tup xs else .lst xs
structure GAt(b:Bool)(H:Hp)(d:Nb)(es:List Ent):Prop where
 dc:H d=some Q7
 ro:∀e∈es,H e.2.2=some (seqO b Z5)
 nd:(es.map (·.1)).Nodup
def GAt.keep(r:GAt b H d es)(k:Keep xs H H')(hd:d∉xs)(h:∀e∈es,e.2.2∉xs):GAt b H' d es:=⟨k _ _ r.dc hd,λe he=>k _ _ (r.ro e he) (h e he),r.nd⟩
def SqB(b:Bool)(K:Na)(H:Hp)(a:Nb)(xs:List V):Prop:=bif b then SqT K H a xs else SqL K H a xs
def ItB(b:Bool)(K:Na)(a:Nb):It:=bif b then Itt K a else Itl K a
def SqB.of{b:Bool}{K:Na}{H:Hp}{a:Nb}{xs:List V}(h:H a=some (seqO b xs)):SqB b K H a xs:=by
 cases b
 ·exact SqL.of h
 ·exact SqT.of h
def GAt.sq{b:Bool}{K:Na}{H:Hp}{d:Nb}{es:List Ent}{e:Ent}(r:GAt b H d es)(he:e∈es):SqB b K H e.2.2 Z5:=SqB.of (r.ro e he)
def iB(b:Bool)(K:Na)(tl:TE):TI:=λ σ H R=>tl σ H λx H1=>RI1 x (λa=>∃xs,SqB b K H1 a xs) λa=>R (ItB b K a) H1
def pi_b(b:Bool){X:Cx}{tg l:Expr}{tl:TE}(hl:PE X l tl):PI X tg l (iB b X.K tl):=by
 cases b
 ·exact zao hl
 ·exact pi_tup hl
def for_b(b:Bool){K:Na}{a:Nb}{xs:List V}{g:TG}{tb:TS}{D:Ends}{σ:St}{H:Hp}(Pv:Nat→St→Hp→Prop)(h0:Pv 0 σ H)(hl:∀i σ H,i≤xs.length→Pv i σ H→SqB b K H a xs)(hs:∀i x σ H,xs[i]?=some x→Pv i σ H→g x σ H λ σ2 H2=>tb {D with nx:=Pv QY,ct:=Pv QY,bk:=D.nx} σ2 H2)(hd:∀σ H,Pv xs.length σ H→D.nx σ H) :
  ∃W:Nat→Nat→St→Hp→Prop,(∃m,W 0 m σ H)∧∀i m σ H,W i m σ H →
   ((ItB b K a).stop i H∧D.nx σ H)∨((ItB b K a).go i H∧∃N:St→Hp→Prop,QO∧∀x H',(ItB b K a).yld i H x H'→g x σ H' λ σ2 H2=>tb {D with nx:=N,ct:=N,bk:=D.nx} σ2 H2):=by
 cases b
 ·exact zbf Pv h0 hl hs hd
 ·exact for_tup Pv h0 hl hs hd
inductive IspPieceG(b:Bool)(vs:List V)(H:Hp)(Q:VK):Prop
 |mk (d:Nb) (es:List Ent) (x:Str) (h0:vs=[.ref d,.str x]) (h1:GAt b H d es) (h2:es.length≤60) (h3:∀z y,y∈row (rsOf es) z→y∈es.map (·.1)) (h4:x∈es.map (·.1)) (h5:∀(l:Nb) (zs:Nf) (H':Hp),H' l=some (.lst (zs.map V.str))→zs.Nodup→zs.Pairwise leS→(∀y,y∈zs↔Conn (row (rsOf es)) x y)→H l=none→Keep [] H H'→Q (.ref l) H'):IspPieceG b vs H Q
def spPieceG(b:Bool):Sp:=λvs H Q _=>IspPieceG b vs H Q
section
variable{P:Ni}{w:Nk}{K:Na}{mg:Nd}{base:Nm}
def zf7:zak ["rounds", "start", "reached", "waiting", "place", "other"] ["rounds", "start"] (zag zg7):=fsk
def ok_pieceG(b:Bool){f:Nb}{fd:Nr}(F:Fun K "piece_from" "piece_from" zg7 f fd)(aN:mg "sorted" = none):ZC 1 f fd ["rounds", "start"] (spPieceG b):=by
 refine F.okL zf7 Z1
 obtain⟨d,es,x,rfl,T,aO,fX,hx,k⟩:=h
 have hu:=zcd hr
 have aw  := sizeLine_eq
 refine⟨_,zad (zar 2 zf7.nd (pe_disp (pps_cons QQ pe_bl pps_nil) rfl rfl ZU ZU))
  (zad (zar 3 zf7.nd (zbk (Z0 1)))
  (zad (zem Ze (zel (pv 3) (by intro _;rfl))
   (zad (zar 4 zf7.nd (pe_bm0 Zy PySem.F.slot_list_pop PySem.F.type_list_pop mt_pop (pv 3)))
   (zah (zba Ze rfl (pi_b b (zb1 hu QH (pv 4))) (zan 5 zf7.nd)
    (zah (zb0 (zcm (zc3 hu (pv 5) Q8))
     (zad (zb5 hu Q8 (pv 5) pe_bl rfl)
     (zah (zbj (zfn Zy Yr Yq zb8 (pv 3) (Z0 5))))) zas))))))
  (zah (zau (zal (zdd rfl) Q4 aN Ws (Z0 2)))))),?_⟩
 have ax:∀e∈es,ZG e.1=e.2.1:=λe he=>zaw T.nd he
 refine λre du=>⟨_,rfl,zac,[(Sum.inr x,.bl true)],rfl,(by show 1≤15;decide),?_⟩
 have gq:(zhd [] [((Sum.inr x:Key),V.bl true)])=marks [x]:=rfl
 rw[gq]
 have kre:ZE H (upd (upd H re (.dK [])) re (.dK (marks [x]))):=by rw[upd_upd];exact Keep.new du
 have dr:(upd (upd H re (.dK [])) re (.dK (marks [x]))) re=some (.dK (marks [x])):=zac
 generalize upd (upd H re (.dK [])) re (.dK (marks [x]))=H1 at kre dr
 refine⟨W7,(ZS 1),λwa qI=>?_⟩
 have k2:ZE H (upd H1 wa (.lst [.str x])):=kre.trans (QD qI)
 have iQ:H wa=none:=zav (xs:=[]) kre qI ZM
 have lB:(upd H1 wa (.lst [.str x])) wa=some (QZ ([x].map V.str)):=zac
 have ow:re≠wa:=zab dr qI
 have fe:(upd H1 wa (.lst [.str x])) re=some (.dK (marks [x])):=by rw[zaf ow];exact dr
 generalize upd H1 wa (.lst [.str x])=H2 at k2 lB fe
 have T2:GAt b H2 d es:=T.keep k2 ZM WR
 have qj:d≠re:=zab T.dc du
 have ndw:d≠wa:=zab T.dc iQ
 have rowne:∀e∈es,e.2.2≠re∧e.2.2≠wa:=λe he=>⟨zab (T.ro e he) du,zab (T.ro e he) iQ⟩
 refine⟨λm σ H'=>Aj3 (Ex2 λx4 x5=>σ=[ZP d,QB (.str x),ZP re,ZP wa,x4,x5]) (Keep [re,wa] H2 H') (Ex2 λ(ks wl:Nf)=>Aj9 (H' re=some (.dK (marks ks))) (H' wa=some (QZ (wl.map V.str))) ks.Nodup wl.Nodup (∀z∈wl,z∈ks) (∀z∈ks,z∈es.map (·.1)∧Conn ZQ x z) (x∈ks) (∀z∈ks,z∉wl→∀y∈ZG z,y∈ks) (m=es.length+wl.length-ks.length)),
  ⟨_,⟨none,none,rfl⟩,Keep.refl,[x],[x],fe,lB,Qq.mpr ⟨ZM,Zo⟩,Qq.mpr ⟨ZM,Zo⟩,λz h=>h,λz h=>(by rw[Qd.mp h];exact⟨hx,.refl⟩),Qb,λz h h'=>absurd h h',rfl⟩,?_⟩
 rintro m σ H3 ⟨⟨x4,x5,rfl⟩,k3,ks,wl,bY,iS,dZ,df,oI,il,hxk,gv,rfl⟩
 have hkle:ks.length≤es.length:=by
  have:=zcs dZ (m:=es.map (·.1)) λz hz=>(il z hz).1
  rwa[Qa]at this
 have ly:wl.length≤ks.length:=zcs df oI
 refine⟨W7,_,.inl ⟨_,Z4 iS,rfl⟩,?_⟩
 rcases List.eq_nil_or_concat wl with dh | ⟨ini,z,dh⟩
 ·-- all are reached
  subst dh
  refine zbl rfl ?_
  refine⟨W7,re,_,ks,rfl,.inl bY,mkeys ks,λl zs hl aj aL=>?_⟩
  have kf:ZE H H3:=λc u ec _=>k3 c u (k2 c u ec ZM) (by simp[zab ec du,zab ec iQ])
  refine k l zs _ zac (aj.nodup_iff.mpr dZ) (aL ZO) (λy=>?_) (zav kf hl ZM) (kf.trans (QD hl))
  rw[aj.mem_iff]
  constructor
  ·exact λh=>(il y h).2
  ·intro hc
   induction hc with
   |refl=>exact hxk
   |step _ hz ih=>exact gv _ ih ZM _ hz
 ·rw [List.concat_eq_append] at dh
  subst dh
  refine zbs (by rw[Qr];cases ini<;>rfl) ?_
  refine⟨_,λ σ' H' zz=>zz,?_⟩
  have dS:z∈ks:=oI z (Qh _ Qb)
  obtain⟨en,bq,cP⟩:=Qj.mp (il z dS).1
  have lq:en.1=z:=cP
  rw[Zd]at df
  obtain⟨aB,_,tu⟩:=df
  have hzi:z∉ini:=λq=>tu z q z Qb rfl
  have fw:((ini++[z]).map V.str)[((ini++[z]).map V.str).length-1]?=some (.str z):=by
   rw[Qr,Qy,Kd ZM]
   simp
  have kJ:((ini++[z]).map V.str).dropLast=ini.map V.str:=by rw[Qr];exact List.dropLast_concat
  refine⟨W7,.inl ⟨rfl,_,Z4 iS⟩,wa,_,W7,rfl,iS,fw,?_⟩
  rw[kJ]
  have k4:Keep [re,wa] H2 (ZW H3 wa (ini.map V.str)):=k3.trans (Keep.wr ZM)
  have lA:(ZW H3 wa (ini.map V.str)) wa=some (QZ (ini.map V.str)):=zac
  have fc:(ZW H3 wa (ini.map V.str)) re=some (.dK (marks ks)):=by rw[zaf ow];exact bY
  generalize upd H3 wa (QZ (ini.map V.str))=H4 at k4 lA fc
  have T4:GAt b H4 d es:=T2.keep k4 (by simp[qj,ndw]) λe he=>by simp[(rowne e he).1,(rowne e he).2]
  have dg:DGet H4 d (.str z) (QB (.ref en.2.2)):=by
   have:=DGet.k (k:=Sum.inr en.1) T4.dc
   rw[zb3 T4.nd bq,lq]at this
   exact this
  have hrz:ZG z=en.2.1:=by rw[←lq];exact ax en bq
  refine⟨_,rfl,_,rfl,d,_,rfl,dg,en.2.2,rfl,⟨_,GAt.sq T4 bq⟩,for_b b (xs:=en.2.1.map V.str) (λj σ H'=>Aj3 (Ex1 λx5=>σ=[ZP d,QB (.str x),ZP re,ZP wa,QB (.str z),x5]) (Keep [re,wa] H2 H') (Ex1 λ(nw:Nf)=>Aj5 (H' re=some (.dK (marks (ks++nw)))) (H' wa=some (QZ ((ini++nw).map V.str))) ((ks++nw).Nodup) (∀y∈nw,y∈es.map (·.1)∧Conn ZQ x y) (∀y∈en.2.1.take j,y∈ks++nw)))
   ⟨⟨_,rfl⟩,k4,[],Z2 Zw fc,Z2 Zw lA,Z2 Zw dZ,λy hy=>(by cases hy),λy hy=>(by cases hy)⟩
   (λj σ H' _ hh=>(SqB.of (hh.2 _ _ (T2.ro en bq) (by simp[(rowne en bq).1,(rowne en bq).2])))) ?_ ?_⟩
  ·rintro j y σ H5 hy ⟨⟨y5,rfl⟩,k5,nw,bJ,gK,cL,dz,eS⟩
   have hj:j<en.2.1.length:=by
    have:=(Qz.mp hy).1
    rwa[Qa]at this
   have lr:y=.str en.2.1[j]:=by
    rw[Qo,Qc hj]at hy
    exact(Qn hy).symm
   subst lr
   have lu:en.2.1[j]∈ZG z:=by rw[hrz];exact Qs hj
   have aQ:en.2.1.take (j+1)=en.2.1.take j++[en.2.1[j]]:=Ql hj
   have hsz:(ks++nw).length≤es.length:=by
    have:=zcs cL (m:=es.map (·.1)) λq hq=>by
     rcases Qk.mp hq with h | h
     ·exact(il q h).1
     ·exact(dz q h).1
    rwa[Qa]at this
   have pQ:=DGet.k (k:=Sum.inr en.2.1[j]) bJ
   by_cases aB:en.2.1[j]∈ks++nw
   ·rw [valM_in aB] at pQ
    refine⟨W7,W7,re,W7,pQ,W7,zbl rfl ?_⟩
    refine⟨⟨W7⟩,k5,nw,bJ,gK,cL,dz,λq hq=>?_⟩
    rw[aQ]at hq
    rcases Qk.mp hq with h | h
    ·exact eS q h
    ·rw[Qd.mp h];exact aB
   ·rw [zhs aB] at pQ
    refine⟨W7,W7,re,W7,pQ,W7,zbs rfl ?_⟩
    refine⟨W7,W7,re,W7,DPut.k (k:=Sum.inr en.2.1[j]) bJ (by unfold marks;rw[List.length_map];lia),?_⟩
    rw[putM_new aB]
    have iR:(upd H5 re (.dK (marks (ks++nw++[en.2.1[j]])))) wa=some (QZ ((ini++nw).map V.str)):=by rw[zaf (Zn ow)];exact gK
    have dq:(upd H5 re (.dK (marks (ks++nw++[en.2.1[j]])))) re=some (.dK (marks (ks++nw++[en.2.1[j]]))):=zac
    have k6:Keep [re,wa] H2 (upd H5 re (.dK (marks (ks++nw++[en.2.1[j]])))):=k5.trans (Keep.wr ZM)
    generalize upd H5 re (.dK (marks (ks++nw++[en.2.1[j]])))=H6 at iR dq k6
    rw[Qy]at hsz
    rw[Qy,Qv,Ui]at ly
    refine⟨W7,.inl ⟨rfl,_,Z4 iR⟩,W7,wa,_,W7,rfl,iR,(by rw[Qa,Qy];lia),?_⟩
    refine⟨⟨W7⟩,k6.trans (Keep.wr ZM),nw++[en.2.1[j]],by rw[zaf ow,←Qw];exact dq,by rw[zac,←Qw,Qr (l₂:=[en.2.1[j]])];rfl,?_,λq hq=>?_,λq hq=>?_⟩
    ·rw [← Qw,Zd]
     refine⟨cL,Qq.mpr ⟨ZM,Zo⟩,λa ha b hb e=>?_⟩
     rw[Qd.mp hb]at e
     exact aB (e▸ha)
    ·rcases Qk.mp hq with h | h
     ·exact dz q h
     ·rw [Qd.mp h]
      exact⟨fX z _ lu,.step (il z dS).2 lu⟩
    ·rw [aQ] at hq
     rw[←Qw]
     rcases Qk.mp hq with h | h
     ·exact Qp _ (eS q h)
     ·exact Qh _ h
  ·rintro σ H5 ⟨⟨y5,rfl⟩,k5,nw,bJ,gK,cL,dz,eS⟩
   rw[Qa,Qt QK]at eS
   have hsz:(ks++nw).length≤es.length:=by
    have:=zcs cL (m:=es.map (·.1)) λq hq=>by
     rcases Qk.mp hq with h | h
     ·exact(il q h).1
     ·exact(dz q h).1
    rwa[Qa]at this
   have fj:=cL
   rw[Zd]at fj
   refine⟨es.length+(ini++nw).length-(ks++nw).length,?_,⟨_,W7⟩,k5,ks++nw,ini++nw,bJ,gK,cL,?_,?_,?_,Qp _ hxk,?_,rfl⟩
   ·rw [Qy] at hsz
    rw[Qy,Qy,Qy,Qv,Ui]
    rw[Qy,Qv,Ui]at ly
    lia
   ·rw [Zd]
    refine⟨aB,fj.2.1,λa ha b hb e=>fj.2.2 a (oI a (Qp _ ha)) b hb e⟩
   ·intro q hq
    rcases Qk.mp hq with h | h
    ·exact Qp _ (oI q (Qp _ h))
    ·exact Qh _ h
   ·intro q hq
    rcases Qk.mp hq with h | h
    ·exact il q h
    ·exact dz q h
   ·intro q hq lQ y hy
    rw[Qk,not_or]at lQ
    rcases Qk.mp hq with h | h
    ·by_cases hqz:q=z
     ·rw[hqz,hrz]at hy;exact eS y hy
     ·exact Qp _ (gv q h (by rw[Qk,not_or,Qd];exact⟨lQ.1,hqz⟩) y hy)
    ·exact absurd h lQ.2
def ok_piece(F:Fun K "piece_from" "piece_from" zg7 f fd)(aN:mg "sorted" = none):ZC 1 f fd ["rounds", "start"] spPiece :=
 (ok_pieceG true F aN).imp fun vs H Q E ⟨d,es,cs,aa,x,e,T,aO,C,hx,k⟩=>⟨d,es,x,e,⟨T.dc,T.ro,T.nd⟩,aO,fun z y h=>C.inn' h,hx,fun l zs H' h1 h2 h3 h4=>k l zs H' h1 h2 h3 fun y=>(h4 y).trans ⟨fun h=>by
  induction h with
  |refl=>exact⟨hx,rfl⟩
  |step _ lu ih=>exact⟨C.inn' lu,(C.la _ _ lu).trans ih.2⟩,λh=>C.co x hx y h.1 h.2.symm⟩⟩
end
def IsPiece(ns:Nf)(aa:Nv)(zs:Nf):Prop:=zs.Nodup∧∃s∈ns,∀y,y∈zs↔y∈ns∧aa y=aa s
structure InRow(ns:Nf)(zss:List (List Str)):Prop where
 so:∀zs∈zss,zs.Pairwise leS
 hd:zss.Pairwise λa b=>∀x∈a.head?,∀y∈b.head?,leS x y
 al:∀y∈ns,∃zs∈zss,y∈zs
def zgt(H:Hp)(a:Nb)(zs:Nf):Prop:=H a=some (.lst QN)
inductive IspPieces(vs:List V)(H:Hp)(Q:VK):Prop
 |mk (d:Nb) (es:List Ent) (cs:List (List (Str×Str))) (aa:Nv) (h0:vs=[.ref d]) (h1:TAt H d es) (h2:es.length≤60) (h3:Cert (es.map (·.1)) (row (rsOf es)) cs aa) (h4:∀(l:Nb) (as:Nl) (zss:List (List Str)) (H':Hp),H' l=some (.lst (as.map V.ref))→Paired (zgt H') as zss→(∀zs∈zss,IsPiece (es.map (·.1)) aa zs)→InRow (es.map (·.1)) zss→Keep [] H H'→Q (.ref l) H'):IspPieces vs H Q
def spPieces:Sp:=λvs H Q _=>IspPieces vs H Q
section
variable{P:Ni}{w:Nk}{K:Na}{mg:Nd}{base:Nm}
def zdu:zak ["rounds", "found", "reached", "start", "piece", "place"] ["rounds"] (zag zh4):=fsk
def ok_pieces(F:Fun K "pieces_of" "pieces_of" zh4 f fd)(FP:Fun K "piece_from" "piece_from" zg7 fp fdp)(bP:Binds K fdp ["rounds", "start"] [])(mP:mg "piece_from" = some (ZZ fp))(GP:ZC 1 fp fdp ["rounds", "start"] spPiece)(aN:mg "sorted" = none):ZC 2 f fd ["rounds"] spPieces:=by
 refine F.okL zdu Z1
 obtain⟨d,es,cs,aa,rfl,T,aO,C,k⟩:=h
 have hu:=zcd hr
 have aw  := sizeLine_eq
 refine⟨_,zad (zar 1 zdu.nd (zbk zae))
  (zad (zar 2 zdu.nd zfx)
  (zad (zba Ze rfl (zao (zal (zdd rfl) Q4 aN Ws (Z0 0))) (zan 3 zdu.nd)
   (zah (zb0 (zcm (zc3 hu (pv 3) Q8))
    (zad (zar 4 zdu.nd (zcq GP hr rfl mP FP.kp bP .nil zc9 (ZV 0 (pv 3))))
    (zad (zbj (zfn Zy Yr Yq zb8 QQ (Z0 4)))
    (zah (zba Ze rfl (zao (pv 4)) (zan 5 zdu.nd)
     (zah (zb5 hu Q8 (pv 5) pe_bl rfl)))))) zas)))
  (zah (zau QQ)))),?_⟩
 refine⟨(ZS 0),λfo mX re du=>?_⟩
 have eZ:H re=none:=zav (xs:=[]) (QD mX) du ZM
 have qi:fo≠re:=zab (o:=_) zac du
 have k1:ZE H (upd (upd H fo WQ) re (.dK [])):=(QD mX).trans (QD du)
 have fQ:(upd (upd H fo WQ) re (.dK [])) fo=some WQ:=by rw[zaf qi];exact zac
 have dr:(upd (upd H fo WQ) re (.dK [])) re=some (.dK []):=zac
 generalize upd (upd H fo WQ) re (.dK [])=H1 at k1 fQ dr
 have T1:TAt H1 d es:=T.keep k1 ZM WR
 refine⟨W7,d,_,es.map (·.1),rfl,.inl T1.dc,zeq es,λl ws hl aj aL=>?_⟩
 replace aL:=aL (QS Qa)
 have k2:ZE H1 (ZW H1 l (ws.map V.str)):=Keep.new hl
 have aA:(ZW H1 l (ws.map V.str)) l=some (QZ (ws.map V.str)):=zac
 have nlf:l≠fo:=Zn (zab fQ hl)
 generalize upd H1 l (QZ (ws.map V.str))=H2 at k2 aA
 have jt:=k2 _ _ fQ ZM
 have fe:=k2 _ _ dr ZM
 have nlr:l≠re:=za3 aA fe ZX
 have T2:TAt H2 d es:=T1.keep k2 ZM WR
 have kk2:ZE H H2:=k1.trans k2
 have ndf:d≠fo:=zab T.dc mX
 have qj:d≠re:=zab T.dc eZ
 have dh:ws.length=es.length:=by rw[aj.length_eq,Qa]
 refine⟨l,rfl,⟨_,Z4 aA⟩,zes (zs:=ws) (λi σ H'=>Aj3 (Ex3 λx3 x4 x5=>σ=[ZP d,ZP fo,ZP re,x3,x4,x5]) (Keep [fo,re] H2 H') (Ex3 λ(as:Nl) (zss:List (List Str)) (ks:Nf)=>Aj8 (H' fo=some (QZ W4)) (H' re=some (.dK (marks ks))) (Paired (zgt H') as zss) (∀zs∈zss,IsPiece (es.map (·.1)) aa zs) (as.length≤i) ks.Nodup (∀z∈ks,z∈es.map (·.1)) (Aj7 (∀a∈as,a≠fo) (∀y∈ws.take i,y∈ks) (∀y∈ks,∃zs∈zss,y∈zs) (∀zs∈zss,∀y∈zs,y∈ks) (∀zs∈zss,∀x∈zs.head?,x∈ws.take i) (zss.Pairwise λa b=>∀x∈a.head?,∀y∈b.head?,leS x y) (∀zs∈zss,zs.Pairwise leS))))
  ⟨⟨_,_,_,rfl⟩,Keep.refl,[],[],[],jt,fe,.nil,λzs h=>(by cases h),Zc _,Zo,λz h=>(by cases h),λz h=>(by cases h),λz h=>(by cases h),λz h=>(by cases h),λz h=>(by cases h),λz h=>(by cases h),List.Pairwise.nil,λz h=>(by cases h)⟩ (λi σ H' _ hh=>SqL.of (hh.2 _ _ aA (by simp[nlf,nlr]))) ?_ ?_⟩
 ·rintro i hi σ H3 ⟨⟨x3,x4,x5,rfl⟩,k3,as,zss,ks,fP,bY,cJ,je,tL,dZ,kE,hJ,c1,c2,c6,c3,c4,c5⟩
  have dg:=DGet.k (k:=Sum.inr ws[i]) bY
  have T3:TAt H3 d es:=T2.keep k3 (by simp[ndf,qj]) λe he=>by
   have h1:=T.ro e he
   simp[zab h1 mX,zab h1 eZ]
  by_cases aB:ws[i]∈ks
  ·rw [valM_in aB] at dg
   refine⟨W7,W7,re,W7,dg,W7,zbl rfl ?_⟩
   refine⟨⟨_,_,W7⟩,k3,as,zss,ks,fP,bY,cJ,je,by exact zar16 ‹_›,dZ,kE,hJ,λy hy=>?_,c2,c6,λzs h x hx=>Uy (i:=i) (by rw[List.take_take,Nat.min_eq_left (Uj i)];exact c3 zs h x hx),c4,c5⟩
   rw[Ql hi]at hy
   rcases Qk.mp hy with h | h
   ·exact c1 y h
   ·rw[Qd.mp h];exact aB
  ·rw [zhs aB] at dg
   refine⟨W7,W7,re,W7,dg,W7,zbs rfl ?_⟩
   have gI:=aj.mem_iff.mp (Qs hi)
   refine⟨W7,W7,d,es,cs,aa,ws[i],rfl,T3,aO,C,gI,λp zs H4 bz cP qA cu rK k4=>?_⟩
   obtain⟨iL,si⟩:∃iL,iL=ks:=⟨_,rfl⟩
   rw[←si]at bY dZ kE aB c1 c2 c6
   have fO:=k4 _ _ fP ZM
   have fc:=k4 _ _ bY ZM
   have npf:p≠fo:=Zn (zab fP rK)
   have npr:p≠re:=za3 bz fc ZX
   refine⟨W7,.inl ⟨rfl,_,Z4 fO⟩,W7,fo,_,W7,rfl,fO,(by rw[Qa];lia),?_⟩
   have k5:Keep [fo,re] H2 (ZW H4 fo (as.map V.ref++[ZZ p])):=(k3.trans (k4.sub ZM)).trans (Keep.wr ZM)
   have mV:(ZW H4 fo (as.map V.ref++[ZZ p])) fo=some (QZ ((as++[p]).map V.ref)):=by rw[zac,Qr];rfl
   have bJ:(ZW H4 fo (as.map V.ref++[ZZ p])) re=some (.dK (marks iL)):=by rw[zaf (Zn qi)];exact fc
   have aP:(ZW H4 fo (as.map V.ref++[ZZ p])) p=some (.lst QN):=by rw[zaf npf];exact bz
   have gQ:Paired (zgt (ZW H4 fo (as.map V.ref++[ZZ p]))) (as++[p]) (zss++[zs]):=by
    refine za5 ?_ (.cons aP .nil)
    have:∀{as:Nl} {zss:List (List Str)},Paired (zgt H3) as zss→(∀a∈as,a≠fo)→Paired (zgt (ZW H4 fo (as.map V.ref++[ZZ p]))) as zss:=λ{as zss} r ha=>by
     have h2:∀(L:List V),Paired (zgt (ZW H4 fo L)) as zss:=λL=>by
      induction r with
      |nil=>exact .nil
      |cons h t ih=>exact .cons (by unfold zgt;rw[zaf (ha _ List.mem_cons_self)];exact k4 _ _ h ZM) (ih λa h=>ha a (List.mem_cons_of_mem _ h))
     exact h2 _
    exact this cJ hJ
   have nI:∀a∈as++[p],a≠fo:=λa ha=>by
    rcases Qk.mp ha with h | h
    ·exact hJ a h
    ·rw[Qd.mp h];exact npf
   generalize upd H4 fo (.lst (as.map V.ref++[ZZ p]))=H5 at k5 mV bJ aP gQ
   refine⟨_,rfl,p,rfl,⟨_,Z4 aP⟩,zbf (xs:=zs.map V.str) (λj σ H'=>Aj3 (Ex1 λx5=>σ=[ZP d,ZP fo,ZP re,QB (.str ws[i]),ZP p,x5]) (Keep [re] H5 H') (Ex1 λ(ks:Nf)=>Aj4 (H' re=some (.dK (marks ks))) ks.Nodup (∀z∈ks,z∈es.map (·.1)) (∀z,z∈ks↔z∈iL∨z∈zs.take j)))
    ⟨⟨_,rfl⟩,Keep.refl,iL,bJ,dZ,kE,λz=>⟨.inl,λh=>h.elim id λh=>(by cases h)⟩⟩ (λj σ H' _ hh=>SqL.of (hh.2 _ _ aP (ZR npr))) ?_ ?_⟩
   ·rintro j y σ H6 hy ⟨⟨y5,rfl⟩,k6,iK,dq,fC,fE,cb⟩
    have hj:j<zs.length:=by
     have:=(Qz.mp hy).1
     rwa[Qa]at this
    obtain⟨z,hz,rfl,ez⟩:∃z,z∈zs∧y=V.str z∧z=zs[j]:=by
     rw[Qo,Qc hj]at hy
     exact⟨zs[j],Qs hj,(Qn hy).symm,rfl⟩
    have step:∀q,(q∈iK∨q=z)↔q∈iL∨q∈zs.take (j+1):=λq=>by
     rw[cb,Ql hj,Qk,Qd,ez,or_assoc]
    have hsz:iK.length≤es.length:=by
     have:=zcs fC fE
     rwa[Qa]at this
    refine⟨W7,W7,re,W7,DPut.k (k:=Sum.inr z) dq (by unfold marks;rw[List.length_map];lia),⟨W7⟩,k6.trans (Keep.wr ZM),?_⟩
    by_cases dS:z∈iK
    ·exact⟨iK,by rw[zac,putM_old dS],fC,fE,λq=>by rw[←step q];exact⟨.inl,λh=>h.elim id λe=>e▸dS⟩⟩
    ·refine ⟨iK++[z],by rw [zac,putM_new dS],?_,fun q hq=>?_,fun q=>by rw [← step q,Qk,Qd]⟩
     ·rw [Zd]
      refine⟨fC,Qq.mpr ⟨ZM,Zo⟩,λa ha b hb e=>?_⟩
      rw[Qd.mp hb]at e
      exact dS (e▸ha)
     ·rcases Qk.mp hq with h | h
      ·exact fE q h
      ·rw[Qd.mp h];exact((cu z).mp hz).1
   ·rintro σ H6 ⟨⟨y5,rfl⟩,k6,iK,dq,fC,fE,cb⟩
    rw[Qa,Qt QK]at cb
    have lw:ws[i]∈zs:=(cu _).mpr ⟨gI,rfl⟩
    have iu:zs.head?=some ws[i]:=by
     cases qz:zs with
     |nil=>rw[qz]at lw;cases lw
     | cons m t =>
      have hmz:m∈zs:=by rw[qz];exact Qb
      obtain⟨mf,pe⟩:=(cu m).mp hmz
      obtain⟨j,hj,ej⟩:=Zv (aj.mem_iff.mpr mf)
      have h1:leS m ws[i]:=by
       rw[qz]at lw qA
       rcases Qg.mp lw with q | q
       ·rw[q];exact λz=>Wu _ z
       ·exact(Jk.mp qA).1 _ q
      have cE:i≤j:=Nat.le_of_not_lt λae=>by
       have gq:m∈iL:=c1 m (by rw[←ej,←Ut (j:=i) (h:=by rw[Zt];omega)];exact Qs _)
       obtain⟨iH,gj,rT⟩:=c2 m gq
       obtain⟨_,s,_,hs⟩:=je iH gj
       exact aB (c6 iH gj _ ((hs _).mpr ⟨gI,pe.symm.trans ((hs m).mp rT).2⟩))
      have h2:leS ws[i] m:=by
       rcases Nat.lt_or_eq_of_le cE with q | q
       ·rw[←ej];exact Kg.mp aL i j hi hj q
       ·subst q;rw[ej];exact λz=>Wu _ z
      rw[leS_anti _ _ h1 h2];rfl
    have tk:ws.take QY=ws.take i++[ws[i]]:=Ql hi
    refine⟨⟨_,_,W7⟩,k5.trans (k6.sub ZM),as++[p],zss++[zs],iK,k6 _ _ mV (ZR qi),dq,Paired.imp' (λa zs h=>k6 _ _ h (by simpa using za3 h bJ ZX)) gQ,λq hq=>?_,by rw[Qy];show _+1≤_;exact zar4 ‹_›,fC,fE,nI,λy hy=>?_,λy hy=>?_,λq hq y hy=>?_,λq hq x hx=>?_,?_,λq hq=>?_⟩
    ·rcases Qk.mp hq with h | h
     ·exact je q h
     ·rw[Qd.mp h];exact⟨cP,ws[i],gI,cu⟩
    ·rw [tk] at hy
     rcases Qk.mp hy with h | h
     ·exact(cb y).mpr (.inl (c1 y h))
     ·rw[Qd.mp h];exact(cb _).mpr (.inr lw)
    ·rcases (cb y).mp hy with h | h
     ·obtain ⟨z,hz,lr⟩:=c2 y h
      exact⟨z,Qp _ hz,lr⟩
     ·exact⟨zs,Qh _ Qb,h⟩
    ·rcases Qk.mp hq with h | h
     ·exact(cb y).mpr (.inl (c6 q h y hy))
     ·rw[Qd.mp h]at hy;exact(cb y).mpr (.inr hy)
    ·rw [tk]
     rcases Qk.mp hq with h | h
     ·exact Qp _ (c3 q h x hx)
     ·rw [Qd.mp h,iu] at hx
      rw[←Qn hx];exact Qh _ Qb
    ·rw [List.pairwise_append]
     refine⟨c4,Kx _ _,λa ha b hb x hx y hy=>?_⟩
     rw[Qd.mp hb,iu]at hy
     rw[←Qn hy]
     obtain⟨j,hj,ej⟩:=Zv (c3 a ha x hx)
     rw[Zt]at hj
     rw[←ej,Ut]
     exact Kg.mp aL j i ZO hi ZO
    ·rcases Qk.mp hq with h | h
     ·exact c5 q h
     ·rw[Qd.mp h];exact qA
 ·rintro σ H3 ⟨⟨x3,x4,x5,rfl⟩,k3,as,zss,ks,fP,bY,cJ,je,tL,dZ,kE,hJ,c1,c2,c6,c3,c4,c5⟩
  rw[Qa,Qt QK]at c1
  refine⟨W7,k fo as zss H3 fP cJ je ⟨c5,c4,λy hy=>c2 y (c1 y (aj.mem_iff.mpr hy))⟩ λc u ec _=>k3 c u (kk2 c u ec ZM) (by simp[zab ec mX,zab ec eZ])⟩
end
end K21
end
section
namespace L2
open PySem
def ze4(T:St→Prop)(q:V→Bool)(ha:SqL K H a xs)(hn:xs.length≤sizeLine)(h0:T τ)(hs:∀x∈xs,∀τ,T τ→∀(k1:V→St→Hp→Prop) (k0:St→Hp→Prop),(q x=true→∀τ2,T τ2→k1 x τ2 H)→(q x=false→∀τ2,T τ2→k0 τ2 H)→g x τ H λ τ2 H2=>tc τ2 H2 λb H3=>if b=true then te τ2 H3 λy H4=>k1 y τ2 H4 else k0 τ2 H3)(hq:∀D,H D=none→Q (ZZ D) (ZW H D (xs.filter q))):rLC g tc te Q (Itl K a) τ H:=by
 refine⟨λi m ys τ H1=>Aj5 (H1=H) (T τ) (m=xs.length-i) (i≤xs.length) (ys=(xs.take i).filter q),⟨_,rfl,h0,rfl,Zc _,rfl⟩,?_⟩
 rintro i m ys τ H1 ⟨rfl,ht,rfl,hi,rfl⟩
 by_cases ae:i<xs.length
 ·have gY:((xs.take i).filter q).length≤i:=Zi (Wg _ _) (by rw [Zt];lia)
  refine .inr ⟨⟨xs,xs[i],ha,Qc ae⟩,QL,?_⟩
  rintro x H' ⟨rfl,hx⟩
  have gk:=hx xs ha
  rw[Qc ae]at gk
  have oH:xs[i]=x:=Qn gk
  have aQ:xs.take QY=xs.take i++[x]:=by rw[Ql ae,oH]
  refine hs x (oH▸Qs ae) τ ht (λy τ2 H4=>∃m',m'<xs.length-i∧Aj5 (H4=H') (T τ2) (m'=xs.length-QY) (i+1≤xs.length) ((xs.take i).filter q++[y]=(xs.take QY).filter q))
   (λ τ2 H4=>∃m',m'<xs.length-i∧Aj5 (H4=H') (T τ2) (m'=xs.length-QY) (i+1≤xs.length) ((xs.take i).filter q=(xs.take QY).filter q)) (λrE τ2 h2=>?_) λrE τ2 h2=>?_
  ·exact⟨_,QP,rfl,h2,rfl,ae,by rw[aQ,Yw,Zq rE,Wn]⟩
  ·exact⟨_,QP,rfl,h2,rfl,ae,by rw[aQ,Yw,Zr (by rw[rE];decide),Wn,Zw]⟩
 ·have e:i=xs.length:=by exact zar3 ‹_› ‹_›
  subst e
  refine .inl ⟨⟨xs,ha,QK⟩,λD hD=>?_⟩
  rw[Qt QK]
  exact hq D hD
end L2
namespace K21
open PySem L2 Wb
def sum_filter{α:Type}{p:α→Bool}{f:α→Int}:∀l:List α,(l.map λx=>if p x=true then f x else 0).sum=((l.filter p).map f).sum:=by
 intro l
 induction l with
 |nil=>rfl
 |cons a t ih =>
  rw[Qm,Zm,ih]
  by_cases h:p a=true
  ·rw[if_pos h,Zq h,Qm,Zm]
  ·rw[if_neg h,Zr h];lia
def sum_parts{α:Type}{f:α→List Str}:∀l:List α,(l.map λx=>(2:Int)+(if f x=[] then 2 else 0)-((f x).length:Int)).sum=2*(l.length:Int)+2*((l.filter λx=>(f x).isEmpty).length:Int)-(((l.map λx=>(f x).length).sum:Nat):Int):=by
 intro l
 induction l with
 |nil=>rfl
 |cons a t ih =>
  rw[Qm,Zm,ih,Qm,Zm,Qv]
  by_cases h:f a=[]
  ·rw[Zq (by rw[h];rfl),Qv,if_pos h];lia
  ·rw[Zr (by rw[List.isEmpty_iff];exact h),if_neg h];lia
def sum_twos{α:Type}{p:α→Bool}:∀l:List α,(l.map λx=>if p x=true then(2:Int) else 0).sum=2*((l.filter p).length:Int):=by
 intro l
 induction l with
 |nil=>rfl
 |cons a t ih =>
  rw[Qm,Zm,ih]
  by_cases h:p a=true
  ·rw[if_pos h,Zq h,Qv];lia
  ·rw[if_neg h,Zr h];lia
def iso_eq{es:List Ent}(nd:(es.map (·.1)).Nodup):ze6 es=(es.map (·.1)).filter λx=>(ZG x).isEmpty:=by
 unfold ze6
 rw[Ji]
 congr 1
 exact Kl λe he=>by
  show e.2.1.isEmpty=(ZG e.1).isEmpty
  rw[zaw nd he]
def piece_count{es:List Ent}{cs cs':List (List (Str×Str))}{aa:Nv}(C:Cert (es.map (·.1)) ZQ cs aa){zs hd hc:Nf}(hz:IsPiece (es.map (·.1)) aa zs)(hh:hd.Perm (ze6 es++hc))(jy:cs'.Perm cs)(hp:Paired (fun h c=>∃ s∈c,s.1=h) hc cs') :
  2*zs.length+2*(hd.filter λh=>decide (h∈zs)).length=(zs.map λx=>(ZG x).length).sum+4:=by
 obtain⟨cP,s,hs,cu⟩:=hz
 have heu:=C.eu s hs
 have p1:((es.map (·.1)).filter λx=>decide (aa x=aa s)).Perm zs:=(Ux (Yx Jd C.nd) cP).mpr λy=>by
  rw[Zj,decide_eq_true_iff,cu]
 have e1:wt (es.map (·.1)) ZQ aa (aa s)=2*(zs.length:Int)+2*((zs.filter λx=>(ZG x).isEmpty).length:Int)-(((zs.map λx=>(ZG x).length).sum:Nat):Int):=by
  unfold wt
  have:=sum_filter (p:=λx=>decide (aa x=aa s)) (f:=λx=>(2:Int)+(if ZG x=[] then 2 else 0)-((ZG x).length:Int)) (es.map (·.1))
  simp only[decide_eq_true_eq]at this
  rw[this,zh9 (p1.map _),sum_parts]
 have e2:ct cs aa (aa s)=2*((cs.filter λc=>c.any λu=>decide (aa u.1=aa s)).length:Int):=sum_twos _
 have e3:(hd.filter λh=>decide (h∈zs)).length=((ze6 es).filter λh=>decide (h∈zs)).length+(hc.filter λh=>decide (h∈zs)).length:=by
  rw[(hh.filter _).length_eq,Yw,Qy]
 have e4:((ze6 es).filter λh=>decide (h∈zs)).length=(zs.filter λx=>(ZG x).isEmpty).length:=by
  refine List.Perm.length_eq ((Ux ?_ (Yx Jd cP)).mpr λy=>?_)
  ·rw [iso_eq C.nd]
   exact Yx Jd (Yx Jd C.nd)
  ·rw [iso_eq C.nd,Zj,Zj,Zj,decide_eq_true_iff]
   exact⟨λ⟨⟨_,a⟩,b⟩=>⟨b,a⟩,λ⟨a,b⟩=>⟨⟨((cu y).mp a).1,b⟩,a⟩⟩
 have e5:(hc.filter λh=>decide (h∈zs)).length=(cs'.filter λc=>c.any λu=>decide (aa u.1=aa s)).length:=by
  have aB:∀c∈cs',c∈cs:=λc h=>jy.mem_iff.mp h
  clear jy e3 e4 hh
  induction hp with
  |nil=>rfl
  | cons h t ih =>
   rename_i h0 c0 _ _
   have iht:=ih λc hc=>aB c (Qe _ hc)
   obtain⟨u,hu,rfl⟩:=h
   have gy:=aB c0 Qb
   have hun:u.1∈es.map (·.1):=C.inn' (C.inc gy hu)
   by_cases hz:u.1∈zs
   ·have hl:=((cu _).mp hz).2
    have hU:(c0.any λu=>decide (aa u.1=aa s))=true:=Yh.mpr ⟨u,hu,WW hl⟩
    rw[Zq (ZR hz),Zq (p:=λc:List (Str×Str)=>c.any λu=>decide (aa u.1=aa s)) hU,Qv,Qv,iht]
   ·rw [Zr (ZR hz),Zr,iht]
    intro q
    obtain⟨v,hv,e⟩:=Yh.mp q
    exact hz ((cu _).mpr ⟨hun,(C.one_lab gy hv hu).trans (of_decide_eq_true e)⟩)
 have e6:=(jy.filter λc=>c.any λu=>decide (aa u.1=aa s)).length_eq
 lia
def ix_listK(hK:X.K=K):IxR X (rIxL K):=hK▸za0
def ze3(hK:X.K=K):OpR X (compareOp .In) (rIn K false):=hK▸op_in_seq
def zew(hK:X.K=K):zck X (.builtin "len") (λxs H Q=>Ex2 λp ys=>Aj3 (xs=[ZZ p]) (SqL K H p ys∨SqT K H p ys) (Q (.int ys.length) H)):=hK▸zat
abbrev zgy:Stmt:=top 38
inductive IspFlat(vs:List V)(H:Hp)(Q:VK):Prop
 |mk (d:Nb) (es:List Ent) (cs:List (List (Str×Str))) (aa:Nv) (h0:vs=[.ref d]) (h1:TAt H d es) (h2:es.length≤60) (h3:(∀e∈es,e.2.1.length≤100)) (h4:Cert (es.map (·.1)) (row (rsOf es)) cs aa) (h5:∀H',Keep [] H H'→Q .non H'):IspFlat vs H Q
def spFlat:Sp:=λvs H Q _=>IspFlat vs H Q
abbrev csFlA:Scope:=scOf (aOf 0 (aOf 0 (eOf (bAt (sAt zgy 1) 1))))
abbrev csFlB:Scope:=scOf (aOf 0 (eOf (bAt (sAt zgy 1) 2)))
def csFlA_k:csFlA.kind=.function:=by rfl
def csFlA_c:∀y∈csFlA.names,y.2≠.cell:=by decide +kernel
def csFlA_n:∀y∈csFlA.names,y.2=.local→csFlA.names.lookup y.1=some .local:=by decide +kernel
def csFlA_f:∀y∈csFlA.names,y.2=.free→(zag zgy).names.lookup y.1=some .cell∨(zag zgy).names.lookup y.1=some .free:=by decide +kernel
def csFlA_l:csFlA.names.lookup ("rounds" : Str)=some NameKind.free:=by decide +kernel
def csFlB_k:csFlB.kind=.function:=by rfl
def csFlB_c:∀y∈csFlB.names,y.2≠.cell:=by decide +kernel
def csFlB_n:∀y∈csFlB.names,y.2=.local→csFlB.names.lookup y.1=some .local:=by decide +kernel
def csFlB_f:∀y∈csFlB.names,y.2=.free→(zag zgy).names.lookup y.1=some .cell∨(zag zgy).names.lookup y.1=some .free:=by decide +kernel
def csFlB_l:csFlB.names.lookup ("piece" : Str)=some NameKind.free:=by decide +kernel
def ndFB:(["face", "piece"]:List Str).Nodup:=by decide +kernel
def inPc(H:Hp)(zs:Nf):V→Bool
 |.ref a=>match H a with
  |some (.lst (.str h::_))=>decide (h∈zs)
  |_=>false
 |_=>false
def inPc_ref(e:zde H a h):inPc H zs (ZZ a)=decide (h∈zs):=by
 obtain⟨t,e⟩:=e
 show(match H a with | some (.lst (.str h::_))=>decide (h∈zs) | _=>false)=_
 rw[e];rfl
def filt_len(r:Paired (zde H) as hd):((as.map V.ref).filter (inPc H zs)).length=(hd.filter λh=>decide (h∈zs)).length:=by
 induction r with
 |nil=>rfl
 |cons h t ih =>
  rename_i a b _ _
  rw[Qm]
  have e:=inPc_ref (zs:=zs) h
  by_cases hz:b∈zs
  ·rw[Zq (by rw[e];simpa using hz),Zq (ZR hz),Qv,Qv,ih]
  ·rw[Zr (by rw[e];simpa using hz),Zr (ZR hz),ih]
def sum_cast(ns:List Nat):(ns.map λn:Nat=>(n:Int)).sum=((ns.sum:Nat):Int):=by
 induction ns with
 |nil=>rfl
 |cons a t ih=>rw[Qm,Zm,Zm,ih];lia
section
variable{P:Ni}{w:Nk}{K:Na}{mg:Nd}{base:Nm}
def zg6:zak ["rounds", "found", "piece", "many_places", "many_ties", "many_faces"] ["rounds"] (zag zgy):=fsk
def ok_flat(F:Fun K "refuse_not_flat" "refuse_not_flat" zgy f fd)(FF:Fun K "faces_of" "faces_of" zfd ff fdf)(bF:Binds K fdf ["rounds"] [])(mF:mg "faces_of" = some (ZZ ff))(GF:ZC 2 ff fdf ["rounds"] spFaces)(FP:Fun K "pieces_of" "pieces_of" zh4 fp fdp)(bP:Binds K fdp ["rounds"] [])(mP:mg "pieces_of" = some (ZZ fp))(GP:ZC 2 fp fdp ["rounds"] spPieces)(af:mg "len" = none)(qY:mg "sum" = none):ZC 3 f fd ["rounds"] spFlat:=by
 refine F.okL zg6 Z1
 obtain⟨d,es,cs,aa,rfl,T,aO,bw,C,k⟩:=h
 have hu:=zcd hr
 have aw  := sizeLine_eq
 refine⟨_,zad (zar 1 zg6.nd (zcq GF hr rfl mF FF.kp bF .nil zc9 (Z0 0)))
  (zah (zba Ze rfl (zao (zcq GP hr rfl mP FP.kp bP .nil zc9 (Z0 0))) (pg_name (i:=2) zg6.nd rfl (Or.inr rfl))
   (zad (zar 3 zg6.nd (zal zat Q4 af Yj (Z0 2)))
   (zad (zar 4 zg6.nd (za1 op_fdiv (zal (call_sum rfl) Q4 qY PyProof.Rows.boot_sum (zaa (zgd (M:=["place", "rounds"]) (ix:=[none,QB 0]) ⟨csFlA_k,csFlA_c,csFlA_n,csFlA_f,rfl,by decide +kernel,λj i x h1 h2=>by
      match j,h1,h2 with
      |0,_,h2=>cases h2
      |1,h1,h2=>cases h1;cases h2;exact⟨rfl,csFlA_l⟩
      |n+2,h1,_=>cases h1⟩ rfl (zao Q8) (λC a7 ex s H=>zan 0 ndF) (λC a7 ex s H=>zc0)
      (λC a7 ex s H=>zal (zew (K:=K) rfl) Q4 (by exact af) Yj (zaa (zb1 (by exact hu) QQ QH) zae))) zae)) zai))
   (zad (zar 5 zg6.nd (zal zat Q4 af Yj (zaa (zgd (M:=["face", "piece"]) (ix:=[none,QB 2]) ⟨csFlB_k,csFlB_c,csFlB_n,csFlB_f,rfl,by decide +kernel,λj i x h1 h2=>by
      match j,h1,h2 with
      |0,_,h2=>cases h2
      |1,h1,h2=>cases h1;cases h2;exact⟨rfl,csFlB_l⟩
      |n+2,h1,_=>cases h1⟩ rfl (zao QQ) (λC a7 ex s H=>zan 0 ndFB)
      (λC a7 ex s H=>zco (zaq (ze3 (K:=K) rfl) (za2 (ix_listK (K:=K) rfl) QH zai QC) QQ rfl)) (λC a7 ex s H=>pv 0)) zae)))
   (zah (zb0 (zaq op_ne (za1 zb7 (pv 3) (pv 5)) (za1 zb7 (pv 4) zai) (zbe _)) (zah ps_no) zas)))))))  ,?_⟩
 refine⟨W7,d,es,cs,aa,rfl,T,aO,bw,C,λfo fas hd hc cs' H1 fQ hfal hhd hhp jy e7 k1=>?_⟩
 have T1:TAt H1 d es:=T.keep k1 ZM WR
 refine⟨W7,d,es,cs,aa,rfl,T1,aO,C,λl as zss H2 aA km je _ k2=>?_⟩
 have T2:TAt H2 d es:=T1.keep k2 ZM WR
 have jt:=k2 _ _ fQ ZM
 have sn:Paired (zde H2) fas hd:=zc6 (D:=d) (g:=d) k2 hhd (λ_ _ _ _=>by simp)
 refine⟨l,rfl,⟨_,Z4 aA⟩,zbf (xs:=as.map V.ref) (λi σ H'=>Aj2 (ZE H2 H') (Ex4 λx2 x3 x4 x5=>σ=[ZP d,ZP fo,x2,x3,x4,x5])) ⟨Keep.refl,_,_,_,_,rfl⟩ (λi σ H' _ hh=>SqL.of (hh.1 _ _ aA ZM)) ?_ ?_⟩
 ·rintro i y σ H3 hx ⟨k3,x2,x3,x4,x5,rfl⟩
  have hi:i<as.length:=by
   have:=(Qz.mp hx).1
   rwa[Qa]at this
  have gG:y=.ref as[i]:=by
   rw[Qo,Qc hi]at hx
   exact(Qn hx).symm
  subst gG
  obtain⟨ao,e9⟩:=zaz km hi
  have oT:=je _ (Qs ao)
  have jz:=piece_count C oT hhp jy e7
  generalize zss[i]=zs at e9 oT jz
  have hV:H3 as[i]=some (.lst QN):=k3 _ _ e9 ZM
  have iO:∀z∈zs,∃e∈es,e.1=z:=λz hz=>by
   obtain⟨_,s,_,hm⟩:=oT
   exact Qj.mp ((hm z).mp hz).1
  have bH:zs.length≤100:=by
   have:=zcs oT.1 (m:=es.map (·.1)) λz hz=>by
    obtain⟨e,he,rfl⟩:=iO z hz
    exact Qj.mpr ⟨e,he,rfl⟩
   rw[Qa]at this
   omega
  refine⟨W7,as[i],W7,.inl (Z4 hV),?_⟩
  have T3:TAt H3 d es:=T2.keep k3 ZM WR
  refine⟨W7,as[i],rfl,⟨_,Z4 hV⟩,lc_at (xs:=zs.map V.str) (λ τ=>∃x0,τ=[x0,ZP d]) ((zs.map λx=>((ZG x).length:Int)).map V.int) (by rw[Qa,Qa,Qa]) (Z4 hV) (by rw[Qa];lia) ⟨none,rfl⟩ ?_ (λD hD=>?_)⟩
  ·rintro j hj mz τ ⟨x0,rfl⟩ kk hk
   rw[Qa]at hj
   rw[Zl]
   obtain⟨en,bq,cS⟩:=iO _ (Qs hj)
   have dg:DGet H3 d (.str zs[j]) (QB (.ref en.2.2)):=by
    have:=DGet.k (k:=Sum.inr en.1) T3.dc
    rw[zb3 T3.nd bq,cS]at this
    exact this
   refine⟨W7,W7,d,W7,dg,en.2.2,W7,.inr (WV (T3.ro en bq)),?_⟩
   have e:((zs.map λx=>((ZG x).length:Int)).map V.int)[j]=V.int ((en.2.1.map V.str).length:Int):=by
    rw[Zl,Zl,←cS,zaw T3.nd bq,Qa]
   rw[e]at hk
   exact hk _ ⟨_,rfl⟩
  ·have k4:ZE H3 (upd H3 D (.lst ((zs.map fun x=>((ZG x).length:Int)).map V.int))):=Keep.new hD
   have kS:(upd H3 D (.lst ((zs.map λx=>((ZG x).length:Int)).map V.int))) D=some (.lst ((zs.map λx=>((ZG x).length:Int)).map V.int)):=zac
   generalize upd H3 D (.lst ((zs.map λx=>((ZG x).length:Int)).map V.int))=H4 at k4 kS
   refine⟨D,W7,Z4 kS,by rw[Qa];lia,λn hn=>?_,?_⟩
   ·obtain ⟨z,hz,rfl⟩:=Qj.mp hn
    obtain⟨en,bq,cS⟩:=iO z hz
    have h1:=bw en bq
    rw[←cS,zaw T3.nd bq]
    lia
   ·have lJ:(zs.map fun x=>((ZG x).length:Int)).sum=(((zs.map fun x=>(ZG x).length).sum:Nat):Int):=by
     rw[←sum_cast,Zk];rfl
    rw[lJ]
    refine⟨_,W7,rfl,⟨ZU,ZU⟩,?_⟩
    have fO:=k4 _ _ (k3 _ _ jt ZM) ZM
    have tM:=k4 _ _ hV ZM
    have mD:Paired (zde H4) fas hd:=zc6 (D:=d) (g:=d) (k3.trans k4) sn (λ_ _ _ _=>by simp)
    refine⟨W7,fo,rfl,⟨_,Z4 fO⟩,ze4 (xs:=fas.map V.ref) (λ τ=>∃x0,τ=[x0,QB (.ref as[i])]) (inPc H4 zs) (Z4 fO) (by rw[Qa];lia) ⟨none,rfl⟩ ?_ (λD2 cY=>?_)⟩
    ·rintro x hx τ ⟨x0,rfl⟩ kk1 kk0 gT mq
     obtain⟨a,ha,rfl⟩:=Qj.mp hx
     obtain⟨j,hj,rfl⟩:=Zv ha
     obtain⟨kF,dL⟩:=zaz mD hj
     have aB:=inPc_ref (zs:=zs) dL
     obtain⟨t,et⟩:=dL
     refine⟨W7,fas[j],_,_,W7,rfl,Z4 et,zax (j:=0) rfl,W7,as[i],W7,.inl (Z4 tM),rfl,zcj zs,W7,?_⟩
     cases hb:decide (hd[j]∈zs) with
     |true=>exact zbs (show inV _ _=true by rw[ze7];exact hb) ⟨_,rfl,gT (aB.trans hb) _ ⟨_,rfl⟩⟩
     |false=>exact zbl (show inV _ _=false by rw[ze7];exact hb) (mq (aB.trans hb) _ ⟨_,rfl⟩)
    ·have k5:ZE H4 (ZW H4 D2 ((fas.map V.ref).filter (inPc H4 zs))):=Keep.new cY
     refine⟨D2,W7,.inl (Z4 zac),?_⟩
     rw[filt_len mD]
     refine⟨W7,W7,_,W7,rfl,W7,_,W7,rfl,rfl,W7,zbl ?_ ?_⟩
     ·rw [Bool.not_eq_false',decide_eq_true_iff]
      refine congrArg V.int ?_
      rw[Qa]
      lia
     ·exact⟨(k3.trans k4).trans k5,_,_,_,W7⟩
 ·rintro σ H3 ⟨k3,x2,x3,x4,x5,rfl⟩
  exact k H3 ((k1.trans k2).trans k3)
end
end K21
end
section
namespace K21
open PySem L2 Wb
abbrev sInit:Stmt:=inClass sWeb 0
abbrev Turned:List Ent→List Ent→Prop:=Paired λt e=>t.1=e.1∧∃k,t.2.1=e.2.1.drop k++e.2.1.take k
inductive IspInit(C:Nb)(vs:List V)(H:Hp)(Q:VK):Prop
 |mk (x dx l:Nb) (as:Nl) (es:List Ent) (cs:List (List (Str×Str))) (aa:Nv) (h0:vs=[.ref x,.ref l]) (h1:H x=some (.ins C dx [])) (h2:RwAt H l as es) (h3:es.length≤40) (h4:(∀e∈es,zfm e.1)) (h5:Cert (es.map (·.1)) (row (rsOf es)) cs aa) (h6:∀(d:Addr) (ts ar:List Ent) (H':Hp),WAt H' C x dx d ts→ar.Perm es→Turned ts ar→Keep [x] H H'→Q .non H'):IspInit C vs H Q
def spInit(C:Nb):Sp:=λvs H Q _=>IspInit C vs H Q
def zch(h:Turned ts es):ts.map (·.1)=es.map (·.1):=by
 induction h with
 |nil=>rfl
 |cons h t ih=>rw[Qm,Qm,h.1,ih]
def zg5(h:Turned ts es)(ht:t∈ts):∃e∈es,t.1=e.1∧∃k,t.2.1=e.2.1.drop k++e.2.1.take k:=by
 induction h with
 |nil=>cases ht
 | cons h _ ih =>
  rcases Qg.mp ht with z | z
  ·subst z;exact⟨_,Qb,h⟩
  ·obtain ⟨e,he,r⟩:=ih z
   exact⟨e,Qe _ he,r⟩
def zg4(h:Turned ts ar)(hp:ar.Perm es)(nd:(es.map (·.1)).Nodup):∀x,∃k,row (rsOf ts) x=(ZG x).drop k++(ZG x).take k:=λx=>by
 have eJ:(ts.map (·.1)).Nodup:=by rw[zch h];exact(hp.map _).nodup_iff.mpr nd
 by_cases hx:x∈ts.map (·.1)
 ·obtain ⟨t,ht,rfl⟩:=Qj.mp hx
  obtain⟨e,he,e1,k,e2⟩:=zg5 h ht
  refine⟨k,?_⟩
  rw[zaw eJ ht,e1,zaw nd (hp.mem_iff.mp he),e2]
 ·refine ⟨0,?_⟩
  have hx2:x∉es.map (·.1):=λz=>hx (by rw[zch h];exact(hp.map _).mem_iff.mpr z)
  have n1:x∉(rsOf ts).map (·.1):=by unfold rsOf;rw[List.map_map];exact hx
  have n2:x∉(rsOf es).map (·.1):=by unfold rsOf;rw[List.map_map];exact hx2
  rw[zf9 n1,zf9 n2];rfl
abbrev csInit:Scope:=scOf (eOf (sAt sInit 3))
def csInit_k:csInit.kind=.function:=by rfl
def csInit_c:∀y∈csInit.names,y.2≠.cell:=by decide +kernel
def csInit_n:∀y∈csInit.names,y.2=.local→csInit.names.lookup y.1=some .local:=by decide +kernel
def csInit_f:∀y∈csInit.names,y.2=.free→(zag sInit).names.lookup y.1=some .cell∨(zag sInit).names.lookup y.1=some .free:=by decide +kernel
section
variable{P:Ni}{w:Nk}{K:Na}{mg:Nd}{base:Nm}
def scInit:zak ["self", "rows", "rounds"] ["self", "rows"] (zag sInit):=fsk
def ok_init(F:Fun K "__init__" "Web.__init__" sInit f fd)(cW:Cls K C)(nW:zd2 K C "rounds")(FN:Fun K "refuse_no_names" "refuse_no_names" zfw fn fdn)(bN:Binds K fdn ["rows"] [])(mN:mg "refuse_no_names" = some (ZZ fn))(GN:ZC 2 fn fdn ["rows"] spNoNames)(FT:Fun K "refuse_twice" "refuse_twice" zd0 ft fdt)(bT:Binds K fdt ["rows"] [])(mT:mg "refuse_twice" = some (ZZ ft))(GT:ZC 1 ft fdt ["rows"] spTwice)(FO:Fun K "refuse_one_way" "refuse_one_way" zh5 fo fdo)(bO:Binds K fdo ["rows"] [])(mO:mg "refuse_one_way" = some (ZZ fo))(GO:ZC 1 fo fdo ["rows"] spOneWay)(FL:Fun K "from_least" "from_least" sLeast fl fdl)(bL:Binds K fdl ["around"] [])(mL:mg "from_least" = some (ZZ fl))(GL:ZC 1 fl fdl ["around"] spLeast)(FF:Fun K "refuse_not_flat" "refuse_not_flat" zgy ff fdf)(bF:Binds K fdf ["rounds"] [])(mF:mg "refuse_not_flat" = some (ZZ ff))(GF:ZC 3 ff fdf ["rounds"] spFlat)(aN:mg "sorted" = none):ZC 4 f fd ["self", "rows"] (spInit C):=by
 refine F.okL scInit Z1
 obtain⟨x,dx,l,as,es,cs,aa,rfl,hx,R,aO,hok,Ct,k⟩:=h
 have hu:=zcd hr
 have am:Room 1 _:=hr.mono ZU
 have bh:Room 2 _:=hr.mono ZU
 have aw  := sizeLine_eq
 refine⟨_,zad (zbj (zcq GN bh rfl mN FN.kp bN .nil zc9 (Z0 1)))
  (zad (zbj (zcq GT am rfl mT FT.kp bT .nil zc9 (Z0 1)))
  (zad (zbj (zcq GO am rfl mO FO.kp bO .nil zc9 (Z0 1)))
  (zad (ps_dc (i:=2) (M:=["place", "around"]) (ix:=[none,none]) scInit.nd rfl rfl (noB (n:=2) csInit_k csInit_c csInit_n csInit_f rfl ndPA) rfl
    (zao (zal zfp Q4 aN Ws (Z0 1)))
    (λC a7 ex s H=>pg_tupK (K:=K) (n:=2) rfl rfl (zaj (zan 0 ndPA) (zaj (zan 1 ndPA) zbq)))
    (λC a7 ex s H=>zc0) (λC a7 ex s H=>pv 0) (λC a7 ex s H=>zcq GL (by exact am) rfl (by exact mL) FL.kp bL .nil zc9 (Z0 1)) rfl)
  (zad (zbj (zcq GF hr rfl mF FF.kp bF .nil zc9 (Z0 2)))
  (zah (ps_fld QH Q8 rfl)))))),?_⟩
 have ay:(es.map (·.1)).Nodup:=Ct.nd
 have ax:∀e∈es,ZG e.1=e.2.1:=λe he=>zaw ay he
 have cz:∀e∈es,e.2.1.Nodup:=λe he=>ax e he▸Ct.rn e.1
 have eT:∀e∈es,∀y∈e.2.1,y∈es.map (·.1):=λe he y hy=>Ct.inn' (x:=e.1) (by rw[ax e he];exact hy)
 have bw:∀e∈es,e.2.1.length≤40:=λe he=>by
  have:=zcs (cz e he) (eT e he)
  rw[Qa]at this
  exact Zi ‹_› ‹_›
 refine⟨W7,l,as,es,rfl,R,λe he=>⟨Zi (bw e he) ZU,hok e he,λy hy=>?_⟩,λH1 k1=>?_⟩
 ·obtain ⟨e',br,rfl⟩:=Qj.mp (eT e he y hy)
  exact hok e' br
 have R1:=R.keep k1
 refine⟨W7,l,as,es,rfl,R1,QL,ay,λe he=>⟨Zi (bw e he) ZU,cz e he⟩,λH2 k2=>?_⟩
 have R2:=R1.keep k2
 refine⟨W7,l,as,es,rfl,R2,ay,λe he=>⟨?_,λy hy=>?_⟩,λH3 k3=>?_⟩
 ·rw[←ax e he];exact Ct.ir e.1
 ·obtain ⟨e',br,bQ⟩:=Qj.mp (eT e he y hy)
  have lv:e'.1=y:=bQ
  refine⟨e',br,lv,?_⟩
  rw[←ax e' br,lv]
  exact Ct.sy e.1 y (by rw[ax e he];exact hy)
 have R3:=R2.keep k3
 have gh:ZE H H3:=(k1.trans k2).trans k3
 have ba:as.length=es.length:=Ya R3.ts
 refine⟨W7,l,W7,SqL.of R3.ls,λv hv=>?_,λv hv u hu e=>?_,λl2 wsV aA aj aL=>?_⟩
 ·obtain ⟨a,ha,rfl⟩:=Qj.mp hv
  obtain⟨i,hi,rfl⟩:=Zv ha
  obtain⟨ao,h⟩:=zaz R3.ts hi
  exact⟨_,_,W7,h⟩
 ·obtain ⟨a,ha,rfl⟩:=Qj.mp hv
  obtain⟨b,hb,rfl⟩:=Qj.mp hu
  obtain⟨i,hi,rfl⟩:=Zv ha
  obtain⟨j,hj,rfl⟩:=Zv hb
  obtain⟨ao,h1⟩:=zaz R3.ts hi
  obtain⟨kF,h2⟩:=zaz R3.ts hj
  rw[zek h1,zek h2]at e
  have e':es[i].1=es[j].1:=by
   have q:es[i].1.cps.toList=es[j].1.cps.toList:=e
   generalize es[i].1=a1 at q ⊢
   generalize es[j].1=a2 at q ⊢
   cases a1;cases a2
   congr 1
   exact Array.toList_inj.mp q
  have e2:(es.map (·.1))[i]'(Z2 Qa ao)=(es.map (·.1))[j]'(Z2 Qa kF):=by rw[Zl,Zl];exact e'
  have:=(Wa ay).mp e2
  subst this
  rfl
 ·obtain ⟨cZ,rfl,cC⟩:=refs_perm aj
  obtain⟨ar,fh,qU⟩:=zd9 cC R3.ts
  have k4:ZE H3 (ZW H3 l2 (cZ.map V.ref)):=Keep.new aA
  have dD:(ZW H3 l2 (cZ.map V.ref)) l2=some (QZ (cZ.map V.ref)):=zac
  generalize upd H3 l2 (QZ (cZ.map V.ref))=H4 at k4 dD
  have lE:Paired (λa (e:Ent)=>H4 a=some (.tup [.str e.1,.ref e.2.2])) cZ ar:=Paired.imp' (λ_ _ h=>k4 _ _ h ZM) qU
  have eV:∀e∈ar,H4 e.2.2=some (.lst Z5):=λe he=>k4 _ _ (R3.ro e (fh.mem_iff.mp he)) ZM
  have me:(ar.map (·.1)).Nodup:=(fh.map _).nodup_iff.mpr ay
  have nK:cZ.length=ar.length:=Ya lE
  have hel2:ar.length=es.length:=fh.length_eq
  refine⟨l2,rfl,⟨_,Z4 dD⟩,λi m ys τ H'=>Aj5 (m=ar.length-i) (i≤ar.length) (Ex2 λx0 x1=>τ=[x0,x1]) (ZE H4 H') (Ex1 λ(ts:List Ent)=>Aj3 (ys=(eWV ts)) (∀e∈ts,H' e.2.2=some (.tup Z5)) (Turned ts (ar.take i))),
   ⟨ar.length,rfl,Zc _,⟨none,none,rfl⟩,Keep.refl,[],rfl,λe he=>(by cases he),.nil⟩,?_⟩
  rintro i m ys τ H5 ⟨rfl,hi,⟨x0,x1,rfl⟩,k5,ts,rfl,iT,iU⟩
  by_cases ae:i<ar.length
  ·have jZ:=zch iU
   have htl:ts.length≤i:=by
    have:=congrArg List.length jZ
    rw[Qa,Qa,Zt]at this
    lia
   refine .inr ⟨⟨_,.ref cZ[i],Z4 (k5 _ _ dD ZM),by rw[Qo,Qc (by exact zar6 ‹_› ‹_›)];rfl⟩,by rw[Qa];lia,?_⟩
   rintro v H6 ⟨rfl,hv⟩
   have aT:=hv _ (Z4 (k5 _ _ dD ZM))
   rw[Qo,Qc (by exact zar6 ‹_› ‹_›)]at aT
   obtain rfl:V.ref cZ[i]=v:=Qn aT
   obtain⟨ao,e9⟩:=zaz lE (by exact zar6 ‹_› ‹_›:i<cZ.length)
   have bG:ar[i]∈ar:=Qs ae
   have eY:=k5 _ _ (eV _ bG) ZM
   have md:ar[i].1∉ts.map (·.1):=by
    rw[jZ]
    have h1:(ar.map (·.1)).take QY=(ar.map (·.1)).take i++[ar[i].1]:=by
     rw[Ql (Z2 Qa ae),Zl]
    have h2:((ar.map (·.1)).take QY).Nodup:=Yx (Uk _ _) me
    rw[h1,Zd,←Je]at h2
    exact λz=>h2.2.2 _ z _ (Qd.mpr rfl) rfl
   refine⟨cZ[i],W7,WV (k5 _ _ e9 ZM),rfl,_,W7,_,W7,rfl,W7,W7,ar[i].2.2,ar[i].2.1,rfl,eY,Zi (bw _ (fh.mem_iff.mp bG)) ZU,λt j H7 hj oM htfr k7=>?_⟩
   refine⟨Sum.inr ar[i].1,rfl,ar.length-QY,QP,rfl,ae,⟨_,W7⟩,k5.trans k7,ts++[(ar[i].1,ar[i].2.1.drop j++ar[i].2.1.take j,t)],put_new (r:=ar[i].2.1.drop j++ar[i].2.1.take j) md,λe he=>?_,?_⟩
   ·rcases Qk.mp he with z | z
    ·exact k7 _ _ (iT e z) ZM
    ·rw[Qd.mp z];exact oM
   ·rw [Ql ae]
    exact za5 iU (.cons ⟨rfl,j,rfl⟩ .nil)
  ·have cg:i=ar.length:=by exact zar3 ‹_› ‹_›
   subst cg
   rw[Qt QK]at iU
   refine .inl ⟨⟨_,Z4 (k5 _ _ dD ZM),by rw[Qa,nK];exact Qf _⟩,λd hd=>?_⟩
   have k6:ZE H5 (upd H5 d (.dK (eWV ts))):=Keep.new hd
   have nn:(upd H5 d (.dK (eWV ts))) d=some (.dK (eWV ts)):=zac
   generalize upd H5 d (.dK (eWV ts))=H6 at k6 nn
   have jZ:=zch iU
   have T6:TAt H6 d ts:=⟨nn,λe he=>k6 _ _ (iT e he) ZM,Z2 jZ me⟩
   have htl:ts.length=es.length:=by
    have:=congrArg List.length jZ
    rw[Qa,Qa,fh.length_eq]at this
    exact this
   have C6:Cert (ts.map (·.1)) (row (rsOf ts)) cs aa:=cert_turn Ct (by rw[jZ];exact fh.map _) (zg4 iU fh ay)
   refine⟨W7,d,ts,cs,aa,rfl,T6,QL,λe he=>?_,C6,λH7 k7=>?_⟩
   ·obtain ⟨e',br,_,kk,e2⟩:=zg5 iU he
    rw[e2,(rot_perm _ kk).length_eq]
    exact Zi (bw e' (fh.mem_iff.mp br)) ZU
   ·have k07:ZE H H7:=(((gh.trans k4).trans k5).trans k6).trans k7
    have qF:=k07 _ _ hx ZM
    have T7:TAt H7 d ts:=T6.keep k7 ZM WR
    have nxd:d≠x:=za3 T7.dc qF ZX
    refine⟨W7,W7,x,C,dx,[],rfl,qF,cW,nW,ZU,?_⟩
    refine k d ts ar _ ⟨zac,T7.keep (xs:=[x]) (Keep.wr ZM) (ZR nxd) λe he=>by simpa using za3 (T7.ro e he) qF ZX⟩ fh iU ((k07.sub ZM).trans (Keep.wr ZM))
end
end K21
end
section
namespace L2
open PySem PySem.Spec PyProof.Rows
inductive Cal(P:Ni)(w:Nk)(K:Na)(mg:Nd)(base:Nm)(x:Str)(ps:Nf)(k:Nat)(sp:Sp):Prop
 |mk {f:Nb} {fd:Nr} {st:Stmt} (F:Fun K x x st f fd) (b:Binds K fd ps []) (m:mg x=some (.ref f)) (G:FnOk P w K mg base CX0 k f fd ps sp):Cal P w K mg base x ps k sp
def pcl{X:Cx}{p pos:Pos}{e:Expr}{es:Np}{t:TA}{k:Nat}{x:Str}{ps:Nf}{sp:Sp}(T:Cal X.prog X.w X.K X.mg X.base x ps k sp)(hr:Room k X.A)(ha:PA X (e::es) t)(hg:Gl X x:=by exact rfl)(fT:WT=false:=by decide)(he:starEach (e::es) X.env=(false,WB e)::starEach es X.env:=by rfl)(bd:(backTo pos (starEach es X.env)).any (·.1)=false:=by rfl) :
  PE X (.Call (.Name x p) (e::es) [] pos) (tCall sp [] E0 t):=by
 obtain⟨F,b,m,G⟩:=T
 exact zcq G hr hg m F.kp b .nil zc9 ha fT he bd
section
variable{X:Cx}
def pair_eq{q r:Str×Str}:((List.range 2).all (λj=>if j=0 then q.1==r.1 else q.2==r.2)&&true)=decide (q=r):=by
 rw[show List.range 2=[0,1] from rfl,Yy]
 simp[Prod.ext_iff]
def pair_at{A:No}{s:Nh}{l b:Nb}{q r:Str×Str}{t1 t2 t3 t4:Tok}(h:A.units<cLine)(p:s.heap.IsTuple l #[.str q.1 t1,.str q.2 t2])(p2:s.heap.IsTuple b #[.str r.1 t3,.str r.2 t4]):SeqAt.RcAt A s (ZZ l) (ZZ b) (decide (q=r)):=by
 rw[←pair_eq]
 refine SeqAt.RcAt.tuples (e:=λj=>if j=0 then q.1==r.1 else q.2==r.2) p p2 h λj j1 j2=>?_
 have qx:j<2:=by simpa using j1
 match j,qx with
 |0,_=>exact Uu q.1 t1 r.1 t3
 |1,_=>exact Uu q.2 t2 r.2 t4
def op_ne_pairsS(hu:X.A.units<cLine):OpR X (compareOp .NotEq) (λx y H Q=>Ex4 λ(a b:Nb) (q r:Str×Str)=>Aj5 (x=.ref a) (y=.ref b) (H a=some (.tup [.str q.1,.str q.2])) (H b=some (.tup [.str r.1,.str r.2])) (Q (.bl (!decide (q=r))) H)):=by
 intro a7 s σ H x y v u Q I rx ry h
 obtain⟨a,b,q,r,rfl,rfl,ha,hb,k⟩:=h
 cases rx;cases ry
 obtain⟨_,a9,r1,p⟩:=I.hok a _ ha
 obtain⟨_,aH,r2,p2⟩:=I.hok b _ hb
 obtain⟨u1,u2,rfl,⟨t1,rfl⟩,⟨t2,rfl⟩⟩:=vals2 r1
 obtain⟨w1,w2,rfl,⟨t3,rfl⟩,⟨t4,rfl⟩⟩:=vals2 r2
 refine SeqAt.RcNeAt.tuples (e:=λj=>if j=0 then q.1==r.1 else q.2==r.2) p p2 hu (λj j1 j2=>?_) _ _ _ _ ⟨.bl (!decide (q=r)),H,I,?_,k⟩
 ·have qx:j < 2:=by simpa using j1
  match j,qx with
  |0,_=>exact Uu q.1 t1 r.1 t3
  |1,_=>exact Uu q.2 t2 r.2 t4
 ·show Value.bool _=Value.bool _
  congr 1
  rw[←pair_eq];rfl
end
end L2
namespace K21
open PySem L2 Wb
abbrev sCell:Stmt:=top 42
abbrev sPot:Stmt:=top 43
abbrev sTake:Stmt:=top 44
abbrev sBehind:Stmt:=top 46
abbrev sFace:Stmt:=top 47
inductive zhq(vs:List V)(H:Hp)(Q:VK):Prop
 |mk (a:Nb) (zs:Nf) (x:Str) (h0:vs=[.ref a,.str x]) (h1:H a=some (.lst (zs.map V.str))) (h2:x∈zs) (h3:zs.length≤900) (h4:Q (.str (nxt zs x)) H):zhq vs H Q
def spBehindS:Sp:=λvs H Q _=>zhq vs H Q
structure RF(H:Hp)(d:Nb)(es:List Ent):Prop where
 dc:Rd H d Q7
 nd:(es.map (·.1)).Nodup
 ro:∀e∈es,H e.2.2=some (.lst Z5)
def RF.get(R:RF H d es)(he:e∈es):DGet H d (.str e.1) (QB (.ref e.2.2)):=.inl ⟨_,Sum.inr e.1,R.dc,rfl,(zb3 R.nd he).symm⟩
def RF.keep(R:RF H d es)(k:ZE H H'):RF H' d es :=
 ⟨R.dc.imp (λe=>k _ _ e ZM) λ⟨o,e⟩=>⟨o,k _ _ e ZM⟩,R.nd,λe he=>k _ _ (R.ro e he) ZM⟩
def RF.inn{d:Nb}(R:RF H d es)(h:a∈es.map (·.1)):∃e∈es,e.1=a∧DGet H d (.str a) (QB (.ref e.2.2)):=by
 obtain⟨e,he,ea⟩:=Qj.mp h
 have ea':e.1=a:=ea
 subst ea'
 exact⟨e,he,rfl,R.get he⟩
structure Rnd(r:Nn)(s:Str×Str)(L:Nq):Prop where
 cy:∃t,L=s::t∧Lk (st r) s t s
 nd:L.Nodup
 al:∀u∈L,u.1∈r u.2
def rnd_of{ns:Nf}{r:Nn}{cs:List (List (Str×Str))}{aa:Nv}(C:Cert ns r cs aa){s:Str×Str}(hs:s.1∈r s.2):∃L,Rnd r s L:=by
 obtain⟨c,ck,lK⟩:=Zs.mp ((C.cm s).mpr hs)
 obtain⟨A1,B1,dN⟩:=Yl lK
 have kC:=zc1 (dN▸C.cy c ck)
 have cV:(s::(B1++A1)).Perm c:=by
  rw[dN]
  refine Jc.mpr λa=>?_
  simp only[Jp,Jy];lia
 refine⟨s::(B1++A1),⟨W7,kC⟩,?_,λu hu=>C.inc ck (cV.mem_iff.mp hu)⟩
 rw[cV.nodup_iff]
 have:=(zby ck).nodup_iff.mp C.cf
 rw[Zd]at this
 exact this.1
inductive IspStepsS(vs:List V)(H:Hp)(Q:VK):Prop
 |mk (d:Nb) (es:List Ent) (cs:List (List (Str×Str))) (aa:Nv) (s:Str×Str) (h0:vs=[.ref d,.str s.1,.str s.2]) (h1:RF H d es) (h2:s.1∈row (rsOf es) s.2) (h3:Cert (es.map (·.1)) (row (rsOf es)) cs aa) (h4:es.length≤40)
  (h6:∀(t:Nb) (ps:Nl) (L:Nq) (H':Hp),H t=none→H' t=some (QZ (ps.map V.ref))→zbn H' ps L→Rnd ZQ s L→L.length≤1600→(∀a∈ps,H a=none)→ZE H H'→Q (ZZ t) H'):IspStepsS vs H Q
def zhx:Sp:=λvs H Q _=>IspStepsS vs H Q
def steps_len{es:List Ent}{r:Nn}{cs:List (List (Str×Str))}{aa:Nv}(C:Cert (es.map (·.1)) r cs aa)(h:es.length≤40){L:Nq}(nd:L.Nodup)(al:∀u∈L,u.1∈r u.2):L.length≤1600:=by
 have iW:∀u∈L,u∈(es.map (·.1)).flatMap λx=>(es.map (·.1)).map λy=>(x,y):=λu hu=>by
  have h1:=al u hu
  refine List.mem_flatMap.mpr ⟨u.1,C.inn' h1,Qj.mpr ⟨u.2,C.inn h1,rfl⟩⟩
 have:=nodup_len nd iW
 rw[List.length_flatMap]at this
 simp only[Qa,List.map_const',List.sum_replicate_nat]at this
 have h2:es.length*es.length≤40*40:=Nat.mul_le_mul h h
 omega
section
variable{P:Ni}{w:Nk}{K:Na}{mg:Nd}{base:Nm}
def scBehind:zak ["_law_around", "_law_place"] ["_law_around", "_law_place"] (zag sBehind):=fsk
def ok_behindS(F:Fun K "_law_behind" "_law_behind" sBehind f fd)(af:mg "len" = none):ZC 1 f fd ["_law_around", "_law_place"] spBehindS:=by
 refine F.okL scBehind Z1
 obtain⟨a,zs,x,rfl,ha,hx,hz,k⟩:=h
 have hu:=zcd hr
 refine⟨_,zah (zau (za2 za0 QH (za1 zfg (za1 zb7 (zfn Zy Kt Ks zic QH (Z0 1)) zai)
  (zal zat Q4 af Yj (Z0 0))) QC)),?_⟩
 obtain⟨i1,i2⟩:=zih hx
 have dy:0<zs.length:=Yd hx
 have hm:(zs.idxOf x+1)%zs.length<zs.length:=Uw _ dy
 have g:(zs.map V.str)[(zs.idxOf x+1)%zs.length]?=some (.str (nxt zs x)):=by
  rw[Qo,Qc hm]
  unfold nxt
  simp[List.getD,hm]
 have e1:((zs.idxOf x:Nat):Int)+1=((zs.idxOf x+1:Nat):Int):=by lia
 have g2:atI QN ((((zs.idxOf x:Nat):Int)+1)%((zs.map V.str).length:Int))=some (.str (nxt zs x)):=by
  rw[e1,Qa,←Int.natCast_emod]
  exact zax g
 refine⟨W7,W7,.inl ⟨rfl,_,Z4 ha⟩,W7,a,_,_,W7,rfl,ha,rfl,zcj zs,i1,i2,_,W7,rfl,W7,a,W7,.inl (Z4 ha),_,W7,rfl,?_,a,_,_,W7,rfl,Z4 ha,g2,k⟩
 rw[Qa];exact zar9 ‹_›
def scFace:zak [qR, "_law_p", "_law_q", "_law_found", "_law_here"] [qR, "_law_p", "_law_q"] (zag sFace):=fsk
def ok_face(F:Fun K "_law_face" "_law_face" sFace f fd)(GB:ZI "_law_behind" ["_law_around", "_law_place"] 1 spBehindS) :
  FnOk P w K mg base CX0 2 f fd [qR, "_law_p", "_law_q"] zhx:=by
 refine F.okL scFace Z1
 obtain⟨d,es,cs,aa,sp,rfl,R,ap,C,aO,k⟩:=h
 have hu:=zcd hr
 refine⟨_,zad (zar 3 scFace.nd (zbk (zaa (zbo (ZV 1 Q8)) zae)))
  (zad (zar 4 scFace.nd (zbo (ZV 2 (pcl GB hr (zaa (zb1 hu QH Q8) (Z0 1))))))
  (zad (zem Ze (zaq (op_ne_pairsS (Wj (Yz _) hu)) (pv 4) (za2 za0 (pv 3) zai (fun _ _=>rfl)) rfl)
   (zad (zbj (zfn Zy Yr Yq zb8 (pv 3) (Z0 4)))
   (zah (zar 4 scFace.nd (zbo (zaa (za2 zbr (pv 4) zai QC) (zaa (pcl GB hr (zaa (zb1 hu QH (za2 zbr (pv 4) zai QC)) (zaa (za2 zbr (pv 4) zai QC) zae))) zae)))))))
  (zah (zau (pv 3))))),?_⟩
 obtain⟨L,⟨lt,eL,kC⟩,nd,al⟩:=rnd_of C ap
 have hLb:=steps_len C aO nd al
 have cV:0<L.length:=by rw[eL];simp
 have gX:∀k (hk:k<L.length),st ZQ L[k]=L.getD (k+1) sp:=λk hk=>by
  have:=lk_get kC k (by rw[←eL];exact hk)
  rw[←eL,Zb,Qc hk]at this
  exact this
 have rn:∀e∈es,e.2.1.length≤900:=λe he=>by
  have h1:e.2.1.Nodup:=by have:=C.rn e.1;rw[zaw C.nd he]at this;exact this
  have:∀y∈e.2.1,y∈es.map (·.1):=λy hy=>C.inn' (x:=e.1) (by rw[zaw C.nd he];exact hy)
  have:=zcs h1 this
  rw[Qa]at this
  omega
 have at':∀{H':Hp},RF H' d es→∀q:Str×Str,q.1∈ZG q.2→∃e∈es,DGet H' d (.str q.2) (QB (.ref e.2.2))∧H' e.2.2=some (.lst Z5)∧q.1∈e.2.1∧st ZQ q=(q.2,nxt e.2.1 q.1):=λ{H'} R' q hq=>by
  obtain⟨e,he,ee,g⟩:=R'.inn (C.inn hq)
  have hr:=zaw C.nd he
  rw[ee]at hr
  exact⟨e,he,g,R'.ro e he,by rw[←hr];exact hq,by show(q.2,nxt (ZG q.2) q.1)=_;rw[hr]⟩
 have i0:∀x y:V,atI [x,y] ((0:Nat):Int)=some x:=λx y=>zax rfl
 have i1:∀x y:V,atI [x,y] ((1:Nat):Int)=some y:=λx y=>zax rfl
 have aw  := sizeLine_eq
 refine⟨W7,W7,(ZS 2),λt0 qW=>⟨(ZS 1),λl hl=>?_⟩⟩
 have k1:ZE H (upd (upd H t0 (.tup [.str sp.1,.str sp.2])) l (.lst [ZZ t0])):=(QD qW).trans (QD hl)
 have ntl:t0≠l:=zab (o:=_) zac hl
 have dk:(upd (upd H t0 (.tup [.str sp.1,.str sp.2])) l (.lst [ZZ t0])) t0=some (.tup [.str sp.1,.str sp.2]):=by rw[zaf ntl];exact zac
 have aJ:(upd (upd H t0 (.tup [.str sp.1,.str sp.2])) l (.lst [ZZ t0])) l=some (.lst [ZZ t0]):=zac
 have fl:H l=none:=zav (xs:=[]) (QD qW) hl ZM
 generalize upd (upd H t0 (.tup [.str sp.1,.str sp.2])) l (.lst [ZZ t0])=H1 at k1 dk aJ
 have R1:=R.keep k1
 obtain⟨e,he,g1,g2,g3,g5⟩:=at' R1 sp ap
 refine⟨W7,W7,W7,d,W7,g1,W7,_,e.2.1,sp.1,rfl,g2,g3,rn e he,(ZS 2),λt ht=>?_⟩
 have h0:L[0]'(cV)=sp:=by
  have:L[0]?=some sp:=by rw[eL];rfl
  exact(Qz.mp this).2
 have e5:[V.str sp.2,V.str (nxt e.2.1 sp.1)]=[V.str (L.getD 1 sp).1,V.str (L.getD 1 sp).2]:=by rw[←gX 0 cV,h0,g5]
 rw[e5]
 have nlt:l≠t:=zab aJ ht
 have mU:∀{a:Nb},H1 a=none→H a=none:=λ{a} h=>zav k1 h ZM
 refine⟨λm σ H2=>Ex3 λ(n:Nat) (t:Nb) (as:Nl)=>Aj9 (m=L.length-n) (n<L.length) (σ=[ZP d,QB (.str sp.1),QB (.str sp.2),ZP l,ZP t]) (Keep [l] H1 H2) (H2 l=some (QZ ((t0::as).map V.ref))) (zbn H2 (t0::as) (L.take (n+1))) (H2 t=some (.tup [.str (L.getD (n+1) sp).1,.str (L.getD (n+1) sp).2])) (as.length=n) (Aj2 (∀a∈t0::as,H a=none) (H t=none)),
  ⟨_,0,t,[],rfl,cV,rfl,QD ht,QF nlt aJ,?_,zac,rfl,λa ha=>by rw[Qd.mp ha];exact qW,mU ht⟩,?_⟩
 ·rw [show L.take (0+1)=[sp] by rw [eL];rfl]
  exact .cons (QF (zab dk ht) dk) .nil
 rintro m σ H2 ⟨n,t,as,rfl,hn,rfl,k2,aA,pa,bU,ba,kG,hft⟩
 have qV:=k2 _ _ dk (ZR ntl)
 refine⟨W7,W7,l,_,_,W7,rfl,Z4 aA,(show atI ((t0::as).map V.ref) ((0:Nat):Int)=some (ZZ t0) from zax rfl),t,t0,L.getD (n+1) sp,sp,rfl,rfl,bU,qV,W7,?_⟩
 by_cases aY:n+1=L.length
 ·have hL:L.getD (n+1) sp=sp:=by rw [Zb,Js ZO];rfl
  refine zbl (by rw[decide_eq_true hL];rfl) ?_
  rw[Qt ZO]at pa
  exact⟨W7,k l (t0::as) L H2 fl aA pa ⟨⟨lt,eL,kC⟩,nd,al⟩ hLb kG λc o ec _=>k2 c o (k1 _ _ ec ZM) (by simpa using zab ec fl)⟩
 ·have c9:n+1 < L.length:=by omega
  have fU:L.getD (n+1) sp=L[n+1]:=by rw[Zb,Qc c9];rfl
  rw[fU]at bU ⊢
  have av:L[n+1]≠sp:=λz=>by
   rw[←h0]at z
   have:=(Wa (h₀:=c9) (h₁:=cV) nd).mp z
   omega
  refine zbs (by rw[decide_eq_false av];rfl) ?_
  have qh:t≠l:=za3 bU aA ZX
  refine⟨_,λ σ' H' z=>z,?_⟩
  refine⟨W7,.inl ⟨rfl,_,Z4 aA⟩,W7,l,_,W7,rfl,aA,by rw[Qa,Qv];omega,?_⟩
  have k3:Keep [l] H1 (ZW H2 l ((t0::as).map V.ref++[V.ref t])):=k2.trans (Keep.wr Qb)
  have lG:(ZW H2 l ((t0::as).map V.ref++[V.ref t])) t=some (.tup [.str L[n+1].1,.str L[n+1].2]):=by rw[zaf qh];exact bU
  have dE:(ZW H2 l ((t0::as).map V.ref++[V.ref t])) l=some (QZ ((t0::(as++[t])).map V.ref)):=by rw[zac,←Wr,Qr];rfl
  have pa3:zbn (ZW H2 l ((t0::as).map V.ref++[V.ref t])) (t0::(as++[t])) (L.take (n+1+1)):=by
   rw[Ql c9,←Wr]
   refine za5 (zbn.keep pa λb x y eb=>?_) (.cons lG .nil)
   rw[zaf (za3 eb aA ZX)];exact eb
  generalize upd H2 l (QZ ((t0::as).map V.ref++[V.ref t]))=H3 at k3 lG dE pa3
  have R3:RF H3 d es:=⟨R1.dc.imp (λz=>k3 _ _ z (by simpa using za3 z aJ (by intro q;cases q))) λ⟨o,z⟩=>⟨o,k3 _ _ z (by simpa using za3 z aJ (by intro q;cases q))⟩,R1.nd,λe he=>k3 _ _ (R1.ro e he) (by simpa using zab (R.ro e he) fl)⟩
  obtain⟨e,he,g1,g2,g3,g5⟩:=at' R3 L[n+1] (al _ (Qs c9))
  refine⟨W7,t,_,_,W7,rfl,WV lG,i1 _ _,W7,W7,t,_,_,W7,rfl,WV lG,i1 _ _,d,W7,g1,W7,t,_,_,W7,rfl,WV lG,i0 _ _,_,e.2.1,L[n+1].1,rfl,g2,g3,rn e he,(ZS 2),λt' oN=>?_⟩
  have e6:[V.str L[n+1].2,V.str (nxt e.2.1 L[n+1].1)]=[V.str (L.getD (n+1+1) sp).1,V.str (L.getD (n+1+1) sp).2]:=by rw[←gX (n+1) c9,g5]
  rw[e6]
  have nl':l≠t':=zab dE oN
  have ft':H t'=none:=mU (zav k3 oN (by simpa using Zn nl'))
  refine⟨L.length-(n+1),ZO,n+1,t',as++[t],rfl,c9,rfl,k3.trans (QD oN),QF nl' dE,zbn.keep pa3 λb x y eb=>by rw[zaf (zab eb oN)];exact eb,zac,by rw[Qy,ba];rfl,λa ha=>?_,ft'⟩
  rw[←Wr]at ha
  rcases Qk.mp ha with z | z
  ·exact kG a z
  ·rw[Qd.mp z];exact hft
inductive IspCell(K:Na)(vs:List V)(H:Hp)(Q:VK):Prop
 |mk (a:Nb) (ns:List Int) (j:Nat) (h0:vs=[.ref a,.int j]) (h1:SqL K H a (ns.map V.int)) (h3:∀c:Int,Q (.int c) H):IspCell K vs H Q
def spCell(K:Na):Sp:=λvs H Q _=>IspCell K vs H Q
inductive IspPot(vs:List V)(H:Hp)(Q:VK):Prop
 |mk (c:Int) (h0:vs=[.int c]) (h3:∀(l:Nb) (b m:Int) (H':Hp),H l=none→Pot H' l b m→Keep [] H H'→Q (.ref l) H'):IspPot vs H Q
def spPot:Sp:=λvs H Q _=>IspPot vs H Q
def scCell:zak [qS, "_law_k"] [qS, "_law_k"] (zag sCell):=fsk
def ok_cell(F:Fun K "_law_cell" "_law_cell" sCell f fd)(af:mg "len" = none):ZC 1 f fd [qS, "_law_k"] (spCell K):=by
 refine F.okL scCell Z1
 obtain⟨a,ns,j,rfl,hS,k⟩:=h
 refine⟨_,zad (zb0 (zaq op_lt QQ (zal zat Q4 af Yj (Z0 0)) (zbe _)) (zah (zau (za2 za0 QH QQ QC))) zas) (zah (zau zai)),?_⟩
 refine⟨W7,W7,a,W7,.inl hS,_,W7,rfl,W7,?_⟩
 refine ite2 (λae=>?_) (λ_=>k _)
 have sd:(j:Int)<((ns.map V.int).length:Int):=of_decide_eq_true ae
 have kF:j<ns.length:=by rw[Qa]at sd;omega
 have g:(ns.map V.int)[j]?=some (.int ns[j]):=by rw[Qo,Qc kF];rfl
 exact⟨W7,W7,a,_,_,W7,rfl,hS,zax g,k _⟩
def scPot:zak ["_law_cell_here"] ["_law_cell_here"] (zag sPot):=fsk
def ok_pot(F:Fun K "_law_pot" "_law_pot" sPot f fd)(jm:mg "max" = none)(tN:mg "abs" = none):ZC 1 f fd ["_law_cell_here"] spPot:=by
 refine F.okL scPot Z1
 obtain⟨c,rfl,k⟩:=h
 refine⟨_,zah (zau (zbk (zaa (zal (call_max2 rfl) Q4 jm PyProof.Rows.boot_max (zaa zai (zaa (za1 zdl QH (za1 op_pow zai zai)) zae)))
    (zaa (za1 zb7 (za1 zfg (zal call_abs Q4 tN PyProof.Rows.boot_abs (Z0 0)) zai) zai) zae)))),?_⟩
 refine⟨W7,_,W7,rfl,⟨ZU,ZU,ZU⟩,_,W7,rfl,_,W7,W7,W7,_,W7,rfl,(by show(0:Int)<2147483563;decide),_,W7,rfl,(ZS 2),λl hl=>?_⟩
 have h1:0≤(if c<0 then -c else c)%2147483563:=Xh _ ZU
 have h2:(if c<0 then -c else c)%2147483563<2147483563:=Ke _ ZU
 refine k l _ _ _ hl ⟨zac,?_,ZO,ZO⟩ (QD hl)
 split<;>omega
def scTake:zak [qP,qM, "_law_digit"] [qP,qM] (zag sTake):=fsk
def ok_take(F:Fun K "_law_take" "_law_take" sTake f fd)(dm:mg "divmod" = none):ZC 1 f fd [qP,qM] zf5:=by
 refine F.okL scTake Z1
 obtain⟨p,b,m,n,rfl,⟨hp,hb,hm,bC⟩,hn,bm,k⟩:=h
 have i0:atI [V.int b,V.int m] ((0:Nat):Int)=some (W6 b):=zax rfl
 have i1:atI [V.int b,V.int m] ((1:Nat):Int)=some (W6 m):=zax rfl
 refine⟨_,zad (zb0 (zaq op_gt (za2 za0 QH zai QC) zai (zbe _))
   (zad (zd1 (zal zgr Q4 dm PyProof.Rows.boot_divmod (zaa (za2 za0 QH zai (fun _ _=>rfl)) (Z0 1))) (zcp rfl (zaj (pg_sub QH zai set_list) (zaj (zan 2 scTake.nd) zbq))))
    (zah (zau Q8))) zas)
   (zad (zd1 (za1 zfg (za1 zb7 (za1 zgg (za2 za0 QH zai QC) zai) zai) zai) (pg_sub QH zai set_list))
   (zah (zau (za1 zfg (za1 op_fdiv (za1 zfg (za1 zgg (za2 za0 QH zai QC) (za2 za0 QH zai QC)) zai) zai) QQ)))),?_⟩
 refine⟨W7,p,_,_,W7,rfl,Z4 hp,i0,_,W7,rfl,W7,?_⟩
 refine ite2 (λdy=>?_) (λhneg=>?_)
 ·have kN:0 < b:=of_decide_eq_true dy
  refine⟨W7,p,_,_,W7,rfl,Z4 hp,i0,W7,b,n,rfl,⟨hn,bm⟩,λt ht=>?_⟩
  have npt:p≠t:=zab hp ht
  refine⟨t,W7,WV zac,rfl,_,W7,W7,p,_,0,0,rfl,rfl,(QF npt hp),rfl,_,W7,rfl,W7,?_⟩
  refine k (b%n) (b/n) m _ (Xh _ ZO) (Ke _ hn) ⟨zac,Int.ediv_nonneg hb ZO,hm,bC⟩ λc o e hc=>?_
  rw[zaf hc,zaf (zab e ht)]
  exact e
 ·have i1':∀ x:Int,atI [V.int b,V.int x] ((1:Nat):Int)=some (W6 x):=fun x=>zax rfl
  have r0:0≤(m*39373+7919)%2147483629:=Xh _ ZU
  have r1:(m*39373+7919)%2147483629<2147483629:=Ke _ ZU
  refine⟨W7,p,_,_,W7,rfl,Z4 hp,i1,_,W7,rfl,.inl ⟨QL,QL⟩,_,W7,rfl,_,W7,rfl,(by show(0:Int)<2147483629;decide),W7,p,_,1,1,rfl,rfl,hp,rfl,?_⟩
  refine⟨W7,p,_,_,W7,rfl,Z4 zac,i1' _,W7,p,_,_,W7,rfl,Z4 zac,i1' _,_,W7,rfl,.inl ⟨QL,QL⟩,_,W7,rfl,(by show(0:Int)<2147483563;decide),_,W7,rfl,⟨ZU,ZU⟩,W7,_,W7,rfl,hn,?_⟩
  refine k _ b ((m*39373+7919)%2147483629) _ (Xh _ ZO) (Ke _ hn) ⟨zac,hb,r0,ZO⟩ λc o e hc=>?_
  rw[zaf hc]
  exact e
end
end K21
end
section
namespace L2
open PySem PySem.Spec PyProof.Rows
def zie{t u:TS}{D:Ends}{σ:St}{H:Hp}(P:St→Hp→Prop)(h:∀D':Ends,(∀σ H,P σ H→D'.nx σ H)→t D' σ H)(hD:∀σ H,P σ H→u D σ H):tSeq t u D σ H:=h {D with nx:=u D} hD
end L2
namespace K21
open PySem L2 Wb
abbrev sPut:Stmt:=top 48
inductive IspPut(vs:List V)(H:Hp)(Q:VK):Prop
 |mk (d:Nb) (es:List Ent) (e1 e2:Ent) (c1 c2:Option Str) (h0:vs=[.ref d,.str e1.1,zbm c1,.str e2.1,zbm c2]) (h1:RAt H d es) (h2:e1∈es) (h2':e2∈es) (av:e1.1≠e2.1) (h3:(∀x,c1=some x→x∈e1.2.1)) (h3':(∀x,c2=some x→x∈e2.2.1)) (h4:∀e∈es,e.2.1.length≤900) (h5:es.length≤900)
  (h6:∀(a1 a2:Nb) (H':Hp),RAt H' d (setE (setE es e1.1 (ins e1.2.1 c1 e2.1) a1) e2.1 (ins e2.2.1 c2 e1.1) a2)→Keep [d] H H'→Q .non H'):IspPut vs H Q
def spPut:Sp:=λvs H Q _=>IspPut vs H Q
def PutI(d:Nb)(es:List Ent)(e1 e2:Ent)(c1 c2:Option Str)(H:Hp)(a1 a2:Nb):Nat→Prop
 |0=>RAt H d es
 |1=>RAt H d (setE es e1.1 (ins e1.2.1 c1 e2.1) a1)
 |_=>RAt H d (setE (setE es e1.1 (ins e1.2.1 c1 e2.1) a1) e2.1 (ins e2.2.1 c2 e1.1) a2)
def mem_setE{es:List Ent}{e:Ent}{x:Str}{r:Nf}{a:Nb}(h:e∈es)(hx:e.1≠x):e∈setE es x r a:=by
 unfold setE
 exact Qj.mpr ⟨e,h,by rw[if_neg hx]⟩
section
variable{P:Ni}{w:Nk}{K:Na}{mg:Nd}{base:Nm}
def scPut:zak [qR, "_law_one", "_law_corner_of",qO, "_law_after", "_law_place", "_law_corner", "_law_new", "_law_row", "_law_at"] [qR, "_law_one", "_law_corner_of",qO, "_law_after"] (zag sPut):=fsk
def ok_put(F:Fun K "_law_put" "_law_put" sPut f fd):ZC 1 f fd [qR, "_law_one", "_law_corner_of",qO, "_law_after"] spPut:=by
 refine F.okL scPut Z1
 obtain⟨d,es,e1,e2,c1,c2,rfl,R,aY,dH,av,bu,jB,hl,aO,k⟩:=h
 have hu:=zcd hr
 have aw:=sizeLine_eq
 refine⟨_,zah (zba Ze rfl (pi_tup (zbo (zaa (zbo (zaa QQ (ZV 2 (pv 3)))) (zaa (zbo (zaa (pv 3) (ZV 4 QQ))) zae)))) (zcp rfl (zaj (zan 5 scPut.nd) (zaj (zan 6 scPut.nd) (zaj (zan 7 scPut.nd) zbq))))
  (zad (zar 8 scPut.nd (zb1 hu QH (pv 5)))
  (zad (zar 9 scPut.nd zai)
  (zad (zb0 (zcm (zgf (pv 6))) (zah (zar 9 scPut.nd (za1 zb7 (zfn Zy Kt Ks zic (pv 8) (Z0 6)) zai))) zas)
  (zah (zb5 hu QH (pv 5) (za1 zhb (za1 zhb (zcg zcy (pv 8) zc8 (zb6 (pv 9))) (zbk (Z0 7))) (zcg zcy (pv 8) (zb6 (pv 9)) zc8)) rfl)))))),?_⟩
 refine⟨W7,W7,W7,(ZS 3),λt1 dk=>?_⟩
 have k1:ZE H (upd H t1 (.tup [.str e1.1,zbm c1,.str e2.1])):=Keep.new dk
 have g1:(upd H t1 (.tup [.str e1.1,zbm c1,.str e2.1])) t1=some (.tup [.str e1.1,zbm c1,.str e2.1]):=zac
 generalize upd H t1 (.tup [.str e1.1,zbm c1,.str e2.1])=H1 at k1 g1
 refine⟨W7,W7,W7,(ZS 3),λt2 bU=>⟨(ZS 2),λq hq=>?_⟩⟩
 have k2:ZE H1 (upd H1 t2 (.tup [.str e2.1,zbm c2,.str e1.1])):=Keep.new bU
 have g2:(upd H1 t2 (.tup [.str e2.1,zbm c2,.str e1.1])) t2=some (.tup [.str e2.1,zbm c2,.str e1.1]):=zac
 generalize upd H1 t2 (.tup [.str e2.1,zbm c2,.str e1.1])=H2 at k2 g2 hq
 have k3:ZE H2 (upd H2 q (.tup [ZZ t1,ZZ t2])):=Keep.new hq
 have kh:(upd H2 q (.tup [ZZ t1,ZZ t2])) q=some (.tup [ZZ t1,ZZ t2]):=zac
 generalize upd H2 q (.tup [ZZ t1,ZZ t2])=H3 at k3 kh
 have dR:ZE H H3:=(k1.trans k2).trans k3
 have kT:=(k2.trans k3) _ _ g1 ZM
 have g23:=k3 _ _ g2 ZM
 have R3:RAt H3 d es:=R.keep dR ZM λ_ _=>by simp
 have ndq:q≠d:=za3 kh R3.dc ZX
 have nd1:t1≠d:=za3 kT R3.dc ZX
 have eJ:t2≠d:=za3 g23 R3.dc ZX
 refine⟨q,rfl,⟨_,WV kh⟩,for_tup (xs:=[ZZ t1,ZZ t2]) (λi σ H'=>Aj2 (Ex5 λx5 x6 x7 x8 x9=>σ=[ZP d,QB (.str e1.1),QB (zbm c1),QB (.str e2.1),QB (zbm c2),x5,x6,x7,x8,x9]) (Aj2 (Keep [d] H3 H') (Ex2 λa1 a2=>PutI d es e1 e2 c1 c2 H' a1 a2 i)))
  ⟨⟨_,_,_,_,_,rfl⟩,Keep.refl,0,0,R3⟩ (λi σ H' _ hh=>SqT.of (hh.2.1 _ _ kh (ZR ndq))) ?_ ?_⟩
 ·rintro i v σ H4 hv ⟨⟨x5,x6,x7,x8,x9,rfl⟩,k4,a1,a2,hR⟩
  obtain⟨t,cq,e,c,n,rfl,ht,R4,he,hc,gr,hesl,fin⟩:∃(t:Nb) (cq:List Ent) (e:Ent) (c:Option Str) (n:Str),v=.ref t∧H4 t=some (.tup [.str e.1,zbm c,.str n])∧RAt H4 d cq∧e∈cq∧(∀x,c=some x→x∈e.2.1)∧e.2.1.length≤900∧cq.length≤900 ∧
    ∀(a:Nb) (H':Hp),RAt H' d (setE cq e.1 (ins e.2.1 c n) a)→Ex2 λa1 a2=>PutI d es e1 e2 c1 c2 H' a1 a2 QY:=by
   match i,hv,hR with
   |0,hv,hR=>exact⟨t1,es,e1,c1,e2.1,(Qn hv).symm,k4 _ _ kT (ZR nd1),hR,aY,bu,hl e1 aY,aO,λa H' r=>⟨a,0,r⟩⟩
   |1,hv,hR=>exact⟨t2,_,e2,c2,e1.1,(Qn hv).symm,k4 _ _ g23 (ZR eJ),hR,mem_setE dH (Zn av),jB,hl e2 dH,by unfold setE;rw[List.length_map];exact aO,λa H' r=>⟨a1,a,r⟩⟩
   |n+2,hv,hR=>cases hv
  clear hv hR
  have ax:=R4.ro e he
  refine⟨t,W7,WV ht,rfl,_,W7,_,W7,_,W7,rfl,W7,W7,d,W7,(zb3 R4.nd he▸DGet.k (k:=Sum.inr e.1) R4.dc),?_⟩
  show tSeq (tAsg (tC (V.int 0)) (ze9 9)) _ _ _ _
  refine zie (λ σ' H'=>Aj2 (σ'=[ZP d,QB (.str e1.1),QB (zbm c1),QB (.str e2.1),QB (zbm c2),QB (.str e.1),QB (zbm c),QB (.str n),QB (.ref e.2.2),QB (W6 0)]) (H4=H')) (λD' bK=>bK _ _ ⟨rfl,rfl⟩) ?_
  rintro σ' H' ⟨rfl,rfl⟩
  dsimp only
  refine zie (λ σ' H'=>Aj2 (Ex1 λj:Nat=>Aj3 (σ'=[ZP d,QB (.str e1.1),QB (zbm c1),QB (.str e2.1),QB (zbm c2),QB (.str e.1),QB (zbm c),QB (.str n),QB (.ref e.2.2),QB (W6 j)]) (j≤e.2.1.length) (ins e.2.1 c n=e.2.1.take j++n::e.2.1.drop j)) (H4=H')) (λD' bK=>?_) ?_
  ·cases c with
   |none=>exact⟨W7,W7,iteF (bK _ _ ⟨⟨0,rfl,Zc _,rfl⟩,rfl⟩)⟩
   |some x =>
    have hx:=hc x rfl
    obtain⟨i1,i2⟩:=zih hx
    refine⟨W7,W7,iteT ⟨W7,.inl ⟨rfl,_,Z4 ax⟩,W7,e.2.2,_,_,W7,rfl,ax,rfl,zcj _,i1,i2,_,W7,rfl,bK _ _ ⟨⟨e.2.1.idxOf x+1,?_,idx_lt hx,rfl⟩,rfl⟩⟩⟩
    have e1:((e.2.1.idxOf x+1:Nat):Int)=(e.2.1.idxOf x:Int)+1:=by omega
    rw[e1];rfl
  rintro σ' H' ⟨⟨j,rfl,hj,ei⟩,rfl⟩
  have aG:(e.2.1.map V.str).length=e.2.1.length:=Qa ..
  refine⟨W7,W7,W7,e.2.2,W7,Z4 ax,λp1 h1=>?_⟩
  refine⟨W7,(ZS 1),λp2 h2=>?_⟩
  have eM:p1≠p2:=zab (o:=_) zac h2
  refine⟨p1,p2,_,W7,rfl,(QF eM zac),zac,?_,λp3 h3=>?_⟩
  ·have:=zbu Z5 none (some (j:Int))
   rw[aG]at this
   show _+1≤sizeLine
   omega
  generalize cX:upd (ZW H4 p1 (cutV Z5 none (some (j:Int)))) p2 (.lst [.str n])=H5 at h3 ⊢
  have k5:ZE H4 H5:=by rw[←cX];exact(QD h1).trans (QD h2)
  have ig:=k5 _ _ ax ZM
  have n3:e.2.2≠p3:=zab ig h3
  refine⟨W7,W7,W7,e.2.2,W7,Z4 (by rw[zaf n3];exact ig),λp4 h4=>?_⟩
  have n34:p3≠p4:=zab (o:=_) zac h4
  refine⟨p3,p4,_,W7,rfl,(QF n34 zac),zac,?_,λp5 h5=>?_⟩
  ·have q1:=zbu Z5 none (some (j:Int))
   have q2:=zbu Z5 (some (j:Int)) none
   rw[aG]at q1 q2
   rw[Qy]
   show _+1+_≤sizeLine
   omega
  generalize hH4:upd (ZW H5 p3 (cutV Z5 none (some (j:Int))++[.str n])) p4 (.lst (cutV Z5 (some (j:Int)) none))=H6 at h5 ⊢
  have k6:ZE H4 H6:=by rw[←hH4];exact(k5.trans (QD h3)).trans (QD h4)
  have nn:=k6 _ _ R4.dc ZM
  have nd5:d≠p5:=zab nn h5
  refine⟨W7,W7,d,W7,DPut.k (k:=Sum.inr e.1) (QF nd5 nn) (QS Qa),?_⟩
  have fF:e.1∈cq.map (·.1):=Qj.mpr ⟨e,he,rfl⟩
  have el:cutV Z5 none (some (j:Int))++[V.str n]++cutV Z5 (some (j:Int)) none=(ins e.2.1 c n).map V.str:=by
   rw[cut_to (Z2 aG hj),ziq (Z2 aG hj),ei,Qr,Qm,Je,Ko,Qw]
   rfl
  refine⟨⟨_,_,_,_,W7⟩,λx o ex nx=>?_,fin p5 _ ⟨?_,λe' br=>?_,by rw[zb2];exact R4.nd⟩⟩
  ·have nxd:x≠d:=fun z=>nx (by rw [z];exact Qd.mpr rfl)
   have e4:=k4 x o ex nx
   rw[zaf nxd,zaf (zab (k6 _ _ e4 ZM) h5)]
   exact k6 _ _ e4 ZM
  ·rw[zac,put_setE (r:=ins e.2.1 c n) fF]
  ·unfold setE at br
   obtain⟨e0,h0,rfl⟩:=Qj.mp br
   by_cases z:e0.1=e.1
   ·rw [if_pos z]
    rw[zaf (Zn nd5),zac,el]
   ·rw [if_neg z]
    have r0:=R4.ro e0 h0
    have nd0:e0.2.2≠d:=za3 r0 R4.dc ZX
    rw[zaf nd0,zaf (zab (k6 _ _ r0 ZM) h5)]
    exact k6 _ _ r0 ZM
 ·rintro σ H4 ⟨⟨x5,x6,x7,x8,x9,rfl⟩,k4,a1,a2,hR⟩
  exact k a1 a2 H4 hR λc o ec nc=>k4 c o (dR c o ec ZM) nc
end
end K21
end
section
namespace Wb
section
variable{α:Type}[DecidableEq α]
theorem itr_front(rs:Rs α)(s:α×α):∀n,itr rs s (n+1)=itr rs (stp rs s) n
 |0=>rfl
 |n+1=>congrArg (stp rs) (itr_front rs s n)
theorem lk_itr:∀{t:List (α×α)} {s:α×α},Lk (st (row rs)) s t e→run rs s (t.length+1)=s::t
 |[],s,k=>rfl
 |y::t,s,k=>by
  have h1:=lk_itr k.2
  have hs:stp rs s=y:=k.1
  unfold run at h1 ⊢
  rw[Qv,List.range_succ_eq_map,Qm,Zk,←h1]
  refine congrArg (s::·) (Yb λn _=>?_)
  show itr rs s (n+1)=_
  rw[itr_front,hs]
end
end Wb
namespace K21
open PySem L2 Wb
abbrev zg8:Stmt:=top 50
structure DrE(H:Hp)(d:Nb)(es:List Ent):Prop where
 ra:RAt H d es
 gd:Good (rsOf es)
 few:es.length≤16
def zbi(es:List Ent):(rsOf es).map (·.1)=es.map (·.1):=by
 unfold rsOf;rw[List.map_map];rfl
def DrE.k0(r:DrE H d es)(k:ZE H H'):DrE H' d es:=⟨r.ra.keep k ZM λ_ _=>by simp,r.gd,r.few⟩
def DrE.pot(r:DrE H d es)(h:Pot H p b m)(k:Keep [p] H H'):DrE H' d es :=
 ⟨r.ra.keep k (by simpa using pot_nd h r.ra.dc) λe he=>by simpa using zga h (r.ra.ro e he),r.gd,r.few⟩
def DrE.cert(r:DrE H d es):∃cs aa,Cert (es.map (·.1)) ZQ cs aa:=by
 obtain⟨cs,aa,C⟩:=r.gd
 rw[zbi]at C
 exact⟨cs,aa,C⟩
def DrE.row(r:DrE H d es):∀e∈es,e.2.1.length≤16:=λe he=>by
 have:=zer.rows r.gd (e.1,e.2.1) (Qj.mpr ⟨e,he,rfl⟩)
 rw[show(rsOf es).length=es.length from Qa ..]at this
 exact Zi this r.few
def DrE.rf(r:DrE H d es):RF H d es:=⟨.inl r.ra.dc,r.ra.nd,r.ra.ro⟩
inductive IspCross(vs:List V)(H:Hp)(Q:VK):Prop
 |mk (p d:Nb) (b m:Int) (es:List Ent) (h0:vs=[.ref d,.ref p]) (h1:Pot H p b m) (h2:DrE H d es) (h3:∀(b' m':Int) (ai:List Ent) (H':Hp),Pot H' p b' m'→DrE H' d ai→ai.map (·.1)=es.map (·.1)→Keep [d,p] H H'→Q .non H'):IspCross vs H Q
def zf6:Sp:=λvs H Q _=>IspCross vs H Q
def rnd_itr{rs:Rs Str}{s u v:Str×Str}{L:Nq}(R:Rnd (row rs) s L)(hu:u∈L)(hv:v∈L):∃n,itr rs u n=v:=by
 obtain⟨t,rfl,k⟩:=R.cy
 obtain⟨A,B,e⟩:=Yl hu
 have c:Cyc (st (row rs)) (A++u::B):=⟨s,t,e.symm,k⟩
 have kl:=zc1 c
 have aT:v∈u::(B++A):=by
  rw[e]at hv
  rcases Qk.mp hv with z | z
  ·exact Qe _ (Qh _ z)
  ·rcases Qg.mp z with y | y
   ·rw[y];exact Qb
   ·exact Qe _ (Qp _ y)
 rw[←lk_itr kl]at aT
 obtain⟨n,_,e2⟩:=Qj.mp aT
 exact⟨n,e2⟩
def good_tie{es:List Ent}{e1 e2:Ent}{u v:Str×Str}{a1 a2:Nb}{L:Nq}{s:Str×Str}(G:Good (rsOf es))(R:Rnd ZQ s L)(hu:u∈L)(hv:v∈L)(nd:(es.map (·.1)).Nodup)(h1:e1∈es)(h2:e2∈es)(q1:e1.1=u.2)(q2:e2.1=v.2)(av:v.2≠u.2)(lV:v.2∉e1.2.1) :
  Good (rsOf (setE (setE es e1.1 (ins e1.2.1 (some u.1) e2.1) a1) e2.1 (ins e2.2.1 (some v.1) e1.1) a2)):=by
 obtain⟨n,hn⟩:=rnd_itr R hu hv
 rw[zcz,zcz]
 have gM:u.1∈e1.2.1:=by
  have:=R.al u hu
  rw[←q1,zaw nd h1]at this;exact this
 have hs:u=(u.1,e1.1):=Ue rfl q1.symm
 have key:=zer.tie (rsOf es) u.1 (e1.1,e1.2.1) n G (Qj.mpr ⟨e1,h1,rfl⟩) gM (by rw[←hs,hn,q1];exact av) (by rw[←hs,hn];exact lV)
 rw[←hs,hn,←q2,zaw nd h2]at key
 exact key
abbrev csCr:Scope:=scOf (eOf (sAt zg8 0))
def csCr_f:∀y∈csCr.names,y.2=.free→(zag zg8).names.lookup y.1=some .cell∨(zag zg8).names.lookup y.1=some .free:=by decide +kernel
def csCr_l:csCr.names.lookup (qR:Str)=some NameKind.free:=by decide +kernel
def ndCr:(["_law_place",qR]:List Str).Nodup:=by decide +kernel
def some_ok{X:Cx}{K:Na}{H0:Hp}{d:Nb}{es:List Ent}{σ:St}{D':Ends}(R:RAt H0 d es)(aO:es.length≤16)(nfz:∀ o' u',X.H₀ d≠some (.frz o' u'))(fin:∀(D:Nb) (G:Nf) (H':Hp),H' D=some (QZ (G.map V.str))→(∀y,y∈G→∃e∈es,e.1=y∧e.2.1≠[])→G.length≤16→ZE H0 H'→D'.nx ((some (ZZ d)::σ).set 2 (ZP D)) H') :
  sThaw X (tAsg (tLC [none,QB 0] (iDict (tVar 0)) (ze9 0) (tTest (tOp (rNil true K) (tDGet (tVar 1) (tVar 0)) (tLst tNil))) (tVar 0)) (ze9 2)) D' (some (ZZ d)::σ) H0:=by
 have aw:=sizeLine_eq
 refine⟨_,rfl,d,_,rfl,R.dc,λo=>⟨λi m ys τ H1=>Aj6 (m=es.length-i) (i≤es.length) (ys=((es.take i).filter λe=>!e.2.1.isEmpty).map (λe=>V.str e.1)) (Ex1 λx=>τ=[x,ZP d]) (H1 d=some (.frz o Q7)) (Keep [d] H0 H1),
  ⟨es.length,ZM,Zc _,rfl,⟨none,rfl⟩,zac,Keep.wr Qb⟩,?_⟩⟩
 rintro i m1 ys τ H1 ⟨rfl,hi,rfl,⟨x0,rfl⟩,hz,k1⟩
 by_cases ae:i<es.length
 ·refine .inr ⟨⟨hz,by rw [Qa];exact ae⟩,?_,?_⟩
  ·have h1:(((es.take i).filter fun e=>!e.2.1.isEmpty).map (fun e=>V.str e.1)).length≤es.length:=by
    rw[Qa]
    exact Zi (Wg _ _) (by rw[Zt];lia)
   lia
  ·rintro x H' ⟨rfl,pr,e1,rfl⟩
   have g1:pr=((Sum.inr es[i].1:Key),V.ref es[i].2.2):=by
    rw[Qo,Qc ae]at e1
    exact(Qn e1).symm
   subst g1
   have bG:es[i]∈es:=Qs ae
   have dW:=R.ro _ bG
   have nri:es[i].2.2≠d:=za3 dW R.dc ZX
   have bx:=k1 _ _ dW (ZR nri)
   refine⟨W7,W7,d,.ref es[i].2.2,rfl,.inl ⟨_,Sum.inr es[i].1,.inr ⟨o,hz⟩,rfl,(zb3 R.nd bG).symm⟩,(ZS 0),λq hq=>?_⟩
   have nq:es[i].2.2≠q:=zab bx hq
   have nqd:d≠q:=zab hz hq
   refine⟨es[i].2.2,q,W7,rfl,Z4 (by rw[zaf nq];exact bx),Z4 zac,W7,?_⟩
   have gS:Keep [d] H0 (upd H' q WQ):=k1.trans (QD hq)
   have bW:(upd H' q WQ) d=some (.frz o Q7):=by rw[zaf nqd];exact hz
   have aQ:es.take QY=es.take i++[es[i]]:=Ql ae
   have pi:(es[i].2.1.map V.str).isEmpty=es[i].2.1.isEmpty:=by cases es[i].2.1<;>rfl
   rw[if_pos rfl,pi]
   by_cases hb:es[i].2.1.isEmpty=true
   ·rw [hb]
    refine iteF ⟨_,?_,rfl,ae,?_,⟨_,rfl⟩,bW,gS⟩
    ·exact zar1 ‹_›
    ·rw[aQ,Yw,Zr (by rw[hb];decide),Wn,Zw]
   ·have dJ:es[i].2.1.isEmpty=false:=by simpa using hb
    rw[dJ]
    refine iteT ⟨_,rfl,_,?_,rfl,ae,?_,⟨_,rfl⟩,bW,gS⟩
    ·exact zar1 ‹_›
    ·rw [aQ,Yw,Zq (by rw [dJ];decide),Wn,Qr]
     rfl
 ·have cg:i=es.length:=by exact zar3 ‹_› ‹_›
  subst cg
  refine .inl ⟨⟨hz,W0 Qa⟩,λD hD=>?_⟩
  have ndD:d≠D:=zab hz hD
  rw[Qt QK]
  refine⟨d,o,_,(QF ndD hz),nfz,?_⟩
  have hDm:((es.filter λe=>!e.2.1.isEmpty).map λe=>V.str e.1)=((es.filter λe=>!e.2.1.isEmpty).map (·.1)).map V.str:=by rw[Zk];rfl
  rw[hDm]
  have hG:∀y,y∈(es.filter λe=>!e.2.1.isEmpty).map (·.1)→∃e∈es,e.1=y∧e.2.1≠[]:=λy hy=>by
   obtain⟨e,he,ee⟩:=Qj.mp hy
   rw[Zj]at he
   exact⟨e,he.1,ee,by simpa using he.2⟩
  have kR:((es.filter λe=>!e.2.1.isEmpty).map (·.1)).length≤16:=by
   rw[Qa];exact Zi (Wg _ _) aO
  generalize(es.filter λe=>!e.2.1.isEmpty).map (·.1)=G at hG kR
  have k2:ZE H0 (upd (ZW H1 D (G.map V.str)) d Q7):=λc u ec _=>by
   by_cases aD:c=d
   ·subst aD
    rw[zac,←R.dc];exact ec
   ·have o8:=k1 c u ec (ZR aD)
    rw[zaf aD,zaf (zab o8 hD)];exact o8
  have cY:(upd (ZW H1 D (G.map V.str)) d Q7) D=some (QZ (G.map V.str)):=by rw[zaf (Zn ndD)];exact zac
  generalize upd (ZW H1 D (G.map V.str)) d Q7=H2 at k2 cY
  exact fin D G H2 cY hG kR k2
section
variable{P:Ni}{w:Nk}{K:Na}{mg:Nd}{base:Nm}
def ze1:zak [qR,qP, "_law_some", "_law_p", "_law_face_here", "_law_first", "_law_second"] [qR,qP] (zag zg8):=fsk
def ok_cross(F:Fun K "_law_crossed" "_law_crossed" zg8 f fd)(GT:ZI "_law_take" [qP,qM] 1 zf5)(GF:ZI "_law_face" [qR, "_law_p", "_law_q"] 2 zhx)(GI:ZI "_law_put" [qR, "_law_one", "_law_corner_of",qO, "_law_after"] 1 spPut)(af:mg "len" = none):ZC 3 f fd [qR,qP] zf6:=by
 refine F.okL ze1 (λcdv A outer s0 H0 vs Q E hr h=>?_)
 obtain⟨p,d,b,m,es,rfl,hp,D0,kq⟩:=h
 have R:=D0.ra
 have aO:=D0.few
 have hu:=zcd hr
 have dj:=Kk hu
 have am:Room 1 _:=hr.mono ZU
 have aw:=sizeLine_eq
 have i0:∀x y:V,atI [x,y] ((0:Nat):Int)=some x:=λx y=>zax rfl
 have i1:∀x y:V,atI [x,y] ((1:Nat):Int)=some y:=λx y=>zax rfl
 refine⟨_,zad (zh8 (ps_lc (i:=2) (M:=["_law_place",qR]) (ix:=[none,QB 0]) ze1.nd rfl rfl ⟨by rfl,by decide +kernel,by decide +kernel,csCr_f,rfl,ndCr,λj i x h1 h2=>by
     match j,h1,h2 with
     |0,_,h2=>cases h2
     |1,h1,h2=>cases h1;cases h2;exact⟨rfl,csCr_l⟩
     |n+2,h1,_=>cases h1⟩ rfl (ze2 QH) (λC a7 ex s H=>zan 0 ndCr)
    (λC a7 ex s H=>zco (zaq (zg9 (K:=K) rfl dj) (zb1 (by exact hu) QQ QH) (zbk zae) (zbe _))) (λC a7 ex s H=>pv 0) rfl))
  (zah (zb0 (zaq (zdm dj) Q8 (zbk zae) (zbe _))
   (zad (zar 3 ze1.nd (za2 za0 Q8 (W5 1 (zal zat Q4 af Yj (Z0 2))) QC))
   (zad (zar 4 ze1.nd (pcl GF hr (zaa QH (zaa (pv 3) (zaa (za2 za0 (zb1 hu QH (pv 3)) (W5 1 (zal zat Q4 af Yj (zaa (zb1 hu QH (pv 3)) zae))) QC) zae)))))
   (zad (zar 5 ze1.nd (za2 za0 (pv 4) (W5 1 (zal zat Q4 af Yj (Z0 4))) QC))
   (zad (zar 6 ze1.nd (za2 za0 (pv 4) (W5 1 (zal zat Q4 af Yj (Z0 4))) QC))
   (zah (zb0 (PW.pt (pw_and (zaq op_ne (za2 zbr (pv 5) zai (fun _ _=>rfl)) (za2 zbr (pv 6) zai (fun _ _=>rfl)) (zbe _)) (zh7 (zaq zcw (za2 zbr (pv 6) zai (fun _ _=>rfl)) (zb1 hu QH (za2 zbr (pv 5) zai (fun _ _=>rfl))) rfl))))
    (zah (zbj (pcl GI am (zaa QH (zaa (za2 zbr (pv 5) zai QC) (zaa (za2 zbr (pv 5) zai QC) (zaa (za2 zbr (pv 6) zai QC) (zaa (za2 zbr (pv 6) zai QC) zae)))))))) zas))))))
   zas)),?_⟩
 have nfz:∀o' u',H0 d≠some (.frz o' u'):=λo' u' z=>by rw[R.dc]at z;cases z
 refine zie (λ σ' H2=>Ex2 λ(D:Nb) (G:Nf)=>Aj5 (σ'=[ZP d,ZP p,ZP D,none,none,none,none]) (H2 D=some (QZ (G.map V.str))) (∀y,y∈G→∃e∈es,e.1=y∧e.2.1≠[]) (G.length≤16) (ZE H0 H2)) (λD' bK=>some_ok R aO nfz λD G H' a b c k=>bK _ _ ⟨D,G,rfl,a,b,c,k⟩) ?_
 rintro σ' H2 ⟨D,G,rfl,cY,hG,kR,k2⟩
 dsimp only
 have D2:=D0.k0 k2
 have cC:=hp.keep k2 ZM
 have none':∀(b1 m1:Int) (H1:Hp),Pot H1 p b1 m1→DrE H1 d es→Keep [p] H0 H1→Q .non H1:=λb1 m1 H1 gn D1 k1=>kq b1 m1 es H1 gn D1 rfl (k1.sub ZM)
 refine⟨W7,(ZS 0),λq hq=>?_⟩
 have nDq:D≠q:=zab cY hq
 refine⟨D,q,W7,rfl,Z4 (by rw[zaf nDq];exact cY),Z4 zac,W7,?_⟩
 have k3:ZE H2 (upd H2 q WQ):=Keep.new hq
 have bV:=(zaf (o:=.lst []) nDq).trans cY
 generalize upd H2 q WQ=H3 at k3 bV
 have D3:=D2.k0 k3
 have c7:=cC.keep k3 ZM
 have dR:=k2.trans k3
 rw[if_pos rfl]
 cases G with
 |nil=>exact zbl rfl (none' b m H3 c7 D3 (dR.sub ZM))
 | cons g0 gt =>
  refine zbs rfl ?_
  generalize tQ:g0::gt=G at bV hG kR
  have hGp:0<G.length:=by rw[←tQ];simp
  have aG:(G.map V.str).length=G.length:=Qa ..
  refine⟨W7,W7,W7,D,W7,.inl (Z4 bV),p,b,m,W7,c7,QS aG,QS aG,λj4 b4 m4 H4 jJ nZ bz iM=>?_⟩
  obtain⟨j4,rfl⟩:=Zp jJ
  rw[aG]at nZ
  have my:j4<G.length:=by omega
  have k4:=zbb iM
  have kS:=k4 _ _ bV (by simpa using zga c7 bV)
  have D4:=D3.pot c7 k4
  have de:Keep [p] H0 H4:=(dR.sub ZM).trans k4
  refine⟨D,_,_,W7,rfl,Z4 kS,zax (by rw[Qo,Qc my];rfl),?_⟩
  obtain⟨e0,ci,tZ,jk⟩:=hG G[j4] (Qs my)
  rw[←tZ]
  have g4:DGet H4 d (.str e0.1) (QB (.ref e0.2.2)):=zb3 D4.ra.nd ci▸DGet.k (k:=Sum.inr e0.1) D4.ra.dc
  have eV:=D4.ra.ro e0 ci
  have rq:=D4.row e0 ci
  have iY:0<e0.2.1.length:=Uo.mpr jk
  have ce:(e0.2.1.map V.str).length=e0.2.1.length:=Qa ..
  refine⟨W7,W7,W7,W7,d,W7,g4,W7,W7,W7,d,W7,g4,e0.2.2,W7,.inl (Z4 eV),p,b4,m4,W7,bz,QS ce,QS ce,λj5 b5 m5 H5 nY nX aP i7=>?_⟩
  obtain⟨j5,rfl⟩:=Zp nY
  rw[ce]at nX
  have mx:j5<e0.2.1.length:=by omega
  have k5:=zbb i7
  have D5:=D4.pot bz k5
  have eU:=D5.ra.ro e0 ci
  have gf:=de.trans k5
  refine⟨e0.2.2,_,_,W7,rfl,Z4 eU,zax (by rw[Qo,Qc mx];rfl),?_⟩
  obtain⟨cs,aa,C⟩:=D5.cert
  have lR:e0.2.1[j5]∈ZG e0.1:=by rw[zaw C.nd ci];exact Qs mx
  refine⟨d,es,cs,aa,(e0.1,e0.2.1[j5]),rfl,D5.rf,C.sy _ _ lR,C,ZO,λl6 ps L H6 fl6 dC lg RL kQ _ k6=>?_⟩
  have bd:=Ya lg
  have cV:0<L.length:=by obtain⟨t,e,_⟩:=RL.cy;rw[e];simp
  have bj:=aP.keep k6 ZM
  have D6:=D5.k0 k6
  have gc:=gf.trans (k6.sub ZM)
  have dB:(ps.map V.ref).length=ps.length:=Qa ..
  have nlp:l6≠p:=za3 dC bj.1 (by
   intro z
   injection z with z
   rcases ps with _ | ⟨_,_⟩<;>cases z)
  refine⟨W7,W7,W7,l6,W7,.inl (Z4 dC),p,b5,m5,W7,bj,QS dB,QS dB,λj7 b7 m7 H7 pB pA aV lh=>?_⟩
  obtain⟨j7,rfl⟩:=Zp pB
  rw[dB]at pA
  have hj7:j7<ps.length:=by omega
  have k7:=zbb lh
  have D7:=D6.pot bj k7
  have eO:=gc.trans k7
  have bo:=k7 _ _ dC (ZR nlp)
  have oq:zbn H7 ps L:=zbn.keep lg λc x y ec=>k7 _ _ ec (by simpa using za3 ec bj.1 ZX)
  refine⟨l6,_,_,W7,rfl,Z4 bo,zax (by rw[Qo,Qc hj7];rfl),?_⟩
  refine⟨W7,W7,W7,l6,W7,.inl (Z4 bo),p,b7,m7,W7,aV,QS dB,QS dB,λj8 b8 m8 H8 tU h81 bi gE=>?_⟩
  obtain⟨j8,rfl⟩:=Zp tU
  rw[dB]at h81
  have pf:j8<ps.length:=by omega
  have k8:=zbb gE
  have D8:=D7.pot aV k8
  have gF:=eO.trans k8
  have kD:=k8 _ _ bo (ZR nlp)
  have pa8:zbn H8 ps L:=zbn.keep oq λc x y ec=>k8 _ _ ec (by simpa using za3 ec aV.1 ZX)
  refine⟨l6,_,_,W7,rfl,Z4 kD,zax (by rw[Qo,Qc pf];rfl),?_⟩
  obtain⟨h7,i9⟩:=zaz pa8 hj7
  obtain⟨h8,eR⟩:=zaz pa8 pf
  have mu:L[j7]∈L:=Qs h7
  have mv:L[j8]∈L:=Qs h8
  generalize L[j7]=u at i9 mu
  generalize L[j8]=v at eR mv
  obtain⟨e1,aY,q1⟩:=Qj.mp (C.inn (RL.al u mu))
  obtain⟨e2,dH,q2⟩:=Qj.mp (C.inn (RL.al v mv))
  have cH:e1.1=u.2:=q1
  have eI:e2.1=v.2:=q2
  refine⟨W7,ps[j7],_,_,W7,rfl,WV i9,i1 _ _,W7,ps[j8],_,_,W7,rfl,WV eR,i1 _ _,rfl,W7,?_⟩
  by_cases c1:u.2=v.2
  ·exact zbl (by show(!decide (V.str u.2=V.str v.2))=false;rw[c1,decide_eq_true rfl];rfl) (none' b8 m8 H8 bi D8 gF)
  refine zbs (by show(!decide (V.str u.2=V.str v.2))=true;rw[decide_eq_false (λz=>c1 (by injection z))];rfl) ?_
  have g8:DGet H8 d (.str u.2) (QB (.ref e1.2.2)):=cH▸(zb3 D8.ra.nd aY▸DGet.k (k:=Sum.inr e1.1) D8.ra.dc)
  refine⟨W7,ps[j8],_,_,W7,rfl,WV eR,i1 _ _,W7,W7,ps[j7],_,_,W7,rfl,WV i9,i1 _ _,d,W7,g8,e1.2.2,W7,.inl (Z4 (D8.ra.ro e1 aY)),rfl,zcj _,W7,?_⟩
  rw[ze7]
  by_cases c2:v.2∈e1.2.1
  ·exact zbl (by rw[decide_eq_true c2];rfl) (none' b8 m8 H8 bi D8 gF)
  refine zbs (by rw[decide_eq_false c2];rfl) ?_
  have oB:u.1∈e1.2.1:=by have:=RL.al u mu;rw[←cH,zaw C.nd aY]at this;exact this
  have oy:v.1∈e2.2.1:=by have:=RL.al v mv;rw[←eI,zaw C.nd dH]at this;exact this
  refine⟨W7,W7,ps[j7],_,_,W7,rfl,WV i9,i1 _ _,W7,ps[j7],_,_,W7,rfl,WV i9,i0 _ _,W7,ps[j8],_,_,W7,rfl,WV eR,i1 _ _,W7,ps[j8],_,_,W7,rfl,WV eR,i0 _ _,d,es,e1,e2,some u.1,some v.1,by rw[cH,eI];rfl,D8.ra,aY,dH,λz=>c1 (by rw[←cH,z,eI]),λy z=>by rw[←Qn z];exact oB,λy z=>by rw[←Qn z];exact oy,λe he=>Zi (D8.row e he) ZU,ZO,λa1 a2 H9 R9 k9=>?_⟩
  refine kq b8 m8 _ H9 (bi.keep k9 (by simpa using Zn (pot_nd bi D8.ra.dc))) ⟨R9,good_tie D8.gd RL mu mv C.nd aY dH cH eI (Zn c1) c2,by unfold setE;rw[List.length_map,List.length_map];exact aO⟩ (by rw[zb2,zb2]) ((gF.sub ZM).trans (k9.sub ZM))
end
end K21
end
section
namespace K21
open PySem L2 Wb
abbrev sFilled:Stmt:=top 51
def rnd_tie{es:List Ent}{e1 e2:Ent}{u v:Str×Str}{a1 a2:Nb}{X rest:Nq}(nd:(es.map (·.1)).Nodup)(cz:∀ e∈es,e.2.1.Nodup)(R:Rnd ZQ u (u::(X++v::rest)))(h1:e1∈es)(h2:e2∈es)(q1:e1.1=u.2)(q2:e2.1=v.2)(av:v.2≠u.2)(lV:v.2∉e1.2.1)(oO:u.2∉e2.2.1) :
  Rnd (row (rsOf (setE (setE es e1.1 (ins e1.2.1 (some u.1) e2.1) a1) e2.1 (ins e2.2.1 (some v.1) e1.1) a2))) u (u::([(u.2,v.2)]++rest)):=by
 have r1:ZG e1.1=e1.2.1:=zaw nd h1
 have r2:ZG e2.1=e2.2.1:=zaw nd h2
 have hu:u.1∈e1.2.1:=by have:=R.al u Qb;rw[←q1,r1]at this;exact this
 have hvL:v∈u::(X++v::rest):=Qe _ (Qh _ Qb)
 have hv:v.1∈e2.2.1:=by have:=R.al v hvL;rw[←q2,r2]at this;exact this
 have eM:e1.1≠e2.1:=λz=>av (by rw[←q1,z,q2])
 have gT:e1.1∈(rsOf es).map (·.1):=by rw[zbi];exact Qj.mpr ⟨e1,h1,rfl⟩
 have gS:e2.1∈(rsOf es).map (·.1):=by rw[zbi];exact Qj.mpr ⟨e2,h2,rfl⟩
 rw[zcz,zcz]
 have g1:row WE u.2=ins e1.2.1 (some u.1) e2.1:=by rw[←q1,za6 eM,za9 gT]
 have g2:row WE v.2=ins e2.2.1 (some v.1) e1.1:=by rw[←q2,za9 (Z2 zbt gS)]
 have g0:∀y,y≠u.2→y≠v.2→row WE y=ZG y:=λy a b=>by rw[za6 (q2▸b),za6 (q1▸a)]
 generalize row WE=r' at g1 g2 g0
 have nd1:=cz e1 h1
 have eJ:=cz e2 h2
 have nu:u∉X++v::rest:=(Qq.mp R.nd).1
 have ox:=(Zd.mp (Qq.mp R.nd).2).2.1
 have nv:v∉rest:=(Qq.mp ox).1
 have nur:u∉rest:=λz=>nu (Qh _ (Qe _ z))
 have ba:∀y∈rest,y.1∈ZG y.2:=λy hy=>R.al y (Qe _ (Qh _ (Qe _ hy)))
 have jR:ZG u.2=e1.2.1:=q1▸r1
 have jP:ZG v.2=e2.2.1:=q2▸r2
 have rP:e2.1∉e1.2.1:=q2▸lV
 have lI:e1.1∉e2.2.1:=q1▸oO
 have cR:∀y:Str×Str,y.1∈ZG y.2→y≠(u.2,v.2):=λy hy z=>by
  rw[z]at hy
  exact oO (jP▸hy)
 obtain⟨t,et,kt⟩:=R.cy
 have et':X++v::rest=t:=(List.cons.inj et).2
 rw[←et']at kt
 refine⟨⟨W7,?_,zfy (f:=st ZQ) (s:=v) ?_ (λy hy=>?_) (zhf.mp kt).2⟩,?_,λy hy=>?_⟩
 ·show (u.2,nxt (r' u.2) u.1)=(u.2,v.2)
  rw[g1,zeo hu nd1,q2]
 ·show (v.2,nxt (r' v.2) u.2)=(v.2,nxt (ZG v.2) v.1)
  rw[g2,jP,←q1,zen hv eJ lI]
 ·show (y.2,nxt (r' y.2) y.1)=(y.2,nxt (ZG y.2) y.1)
  have bQ:=ba y hy
  congr 1
  by_cases a:y.2=u.2
  ·rw [a] at bQ ⊢
   rw[jR]at bQ ⊢
   rw[g1]
   exact zdn hu nd1 rP bQ λb=>nur ((Ue b a:y=u)▸hy)
  ·by_cases c:y.2=v.2
   ·rw [c] at bQ ⊢
    rw[jP]at bQ ⊢
    rw[g2]
    exact zdn hv eJ lI bQ λb=>nv ((Ue b c:y=v)▸hy)
   ·rw[g0 _ a c]
 ·refine Qq.mpr ⟨fun z=>?_,Qq.mpr ⟨fun z=>cR _ (ba _ z) rfl,(Qq.mp ox).2⟩⟩
  rcases Qg.mp z with y | y
  ·exact cR u (R.al u Qb) y
  ·exact nur y
 ·have grow:∀ z:Str×Str,z.1∈ZG z.2→z.1∈r' z.2:=fun z hz=>by
   by_cases a:z.2=u.2
   ·rw [a] at hz ⊢
    rw[g1,zdp hu nd1];exact .inr (jR▸hz)
   ·by_cases c:z.2=v.2
    ·rw [c] at hz ⊢
     rw[g2,zdp hv eJ];exact .inr (jP▸hz)
    ·rw[g0 _ a c];exact hz
  rcases Qg.mp hy with z | z
  ·rw[z];exact grow u (R.al u Qb)
  ·rcases Qg.mp z with y' | y'
   ·rw [y']
    show u.2∈r' v.2
    rw[g2,zdp hv eJ];exact .inl q1.symm
   ·exact grow y (ba y y')
inductive IspFilled(vs:List V)(H:Hp)(Q:VK):Prop
 |mk (d:Nb) (es:List Ent) (h0:vs=[.ref d]) (h2:DrE H d es) (h3:∀(ai:List Ent) (H':Hp),DrE H' d ai→ai.map (·.1)=es.map (·.1)→Keep [d] H H'→Q .non H'):IspFilled vs H Q
def spFilled:Sp:=λvs H Q _=>IspFilled vs H Q
def Grow(es ai:List Ent):Prop:=ai.map (·.1)=es.map (·.1)∧∀x y,y∈ZG x→y∈row (rsOf ai) x
def Grow.refl{es:List Ent}:Grow es es:=⟨rfl,λ_ _ h=>h⟩
def Grow.trans{a b c:List Ent}(h:Grow a b)(k:Grow b c):Grow a c:=⟨k.1.trans h.1,λx y z=>k.2 x y (h.2 x y z)⟩
def grow_tie{es:List Ent}{e1 e2:Ent}{c1 c2:Str}{a1 a2:Nb}(nd:(es.map (·.1)).Nodup)(cz:∀e∈es,e.2.1.Nodup)(h1:e1∈es)(h2:e2∈es)(eM:e1.1≠e2.1)(m1:c1∈e1.2.1)(m2:c2∈e2.2.1) :
  Grow es (setE (setE es e1.1 (ins e1.2.1 (QB c1) e2.1) a1) e2.1 (ins e2.2.1 (QB c2) e1.1) a2):=by
 refine⟨by rw[zb2,zb2],λx y h=>?_⟩
 rw[zcz,zcz]
 have gT:e1.1∈(rsOf es).map (·.1):=by rw[zbi];exact Qj.mpr ⟨e1,h1,rfl⟩
 have gS:e2.1∈(rsOf es).map (·.1):=by rw[zbi];exact Qj.mpr ⟨e2,h2,rfl⟩
 by_cases a:x=e2.1
 ·rw [a] at h ⊢
  rw[zaw nd h2]at h
  rw[za9 (Z2 zbt gS),zdp m2 (cz e2 h2)]
  exact .inr h
 ·rw [za6 a]
  by_cases b:x=e1.1
  ·rw [b] at h ⊢
   rw[zaw nd h1]at h
   rw[za9 gT,zdp m1 (cz e1 h1)]
   exact .inr h
  ·rw[za6 b];exact h
def cut_from2{α:Type}(g:α→V)(xs:List α)(k:Nat):cutV (xs.map g) (some (k:Int)) none=(xs.drop k).map g:=by
 rw[Ko]
 unfold cutV
 have e1:HT.sIx (xs.map g).length 0 (some (k:Int))=min k (xs.map g).length:=by rw[HT.sIx_nat]
 have e2:HT.sIx (xs.map g).length (xs.map g).length none=(xs.map g).length:=rfl
 rw[e1,e2]
 by_cases h:k≤(xs.map g).length
 ·rw[Nat.min_eq_left h,Qt (W0 Ky)]
 ·rw[Nat.min_eq_right ZO,Kb,List.take_zero,Ua ZO]
section
variable{P:Ni}{w:Nk}{K:Na}{mg:Nd}{base:Nm}
def zdv:zak [qR, "_law_place",qO, "_law_face_here", "_law_first", "_law_second"] [qR] (zag sFilled):=fsk
def ok_filled(F:Fun K "_law_filled" "_law_filled" sFilled f fd)(GF:ZI "_law_face" [qR, "_law_p", "_law_q"] 2 zhx)(GI:ZI "_law_put" [qR, "_law_one", "_law_corner_of",qO, "_law_after"] 1 spPut)(aq:mg "list" = none):ZC 3 f fd [qR] spFilled:=by
 refine F.okL zdv (λcdv A outer s0 H0 vs Q E hr h=>?_)
 obtain⟨d,es,rfl,D0,kq⟩:=h
 have hu:=zcd hr
 have am:Room 1 _:=hr.mono ZU
 have aw:=sizeLine_eq
 have i0:∀x y:V,atI [x,y] ((0:Nat):Int)=some x:=λx y=>zax rfl
 have i1:∀x y:V,atI [x,y] ((1:Nat):Int)=some y:=λx y=>zax rfl
 refine⟨_,zah (zba Ze rfl (zao (zbp (zc2 rfl) Q4 aq Wi (Z0 0))) (zan 1 zdv.nd)
  (zah (zba Ze rfl (zao (zbp zcx Q4 aq Wi (zaa (zb1 hu QH QQ) zae))) (zan 2 zdv.nd)
   (zad (zar 3 zdv.nd (pcl GF hr (zaa QH (ZV 1 Q8))))
   (zad (zar 4 zdv.nd (za2 za0 (pv 3) zai QC))
   (zah (zba Ze rfl (zao (zcg zcy (pv 3) (zb6 zai) zc8)) (zan 5 zdv.nd)
    (zah (zb0 (PW.pt (pw_and (zaq op_ne (za2 zbr (pv 4) zai (fun _ _=>rfl)) (za2 zbr (pv 5) zai (fun _ _=>rfl)) (zbe _)) (zh7 (zaq zcw (za2 zbr (pv 5) zai (fun _ _=>rfl)) (zb1 hu QH (za2 zbr (pv 4) zai (fun _ _=>rfl))) rfl))))
     (zah (zbj (pcl GI am (zaa QH (zaa (za2 zbr (pv 4) zai QC) (zaa (za2 zbr (pv 4) zai QC) (zaa (za2 zbr (pv 5) zai QC) (zaa (za2 zbr (pv 5) zai QC) zae)))))))) zas))))))))),?_⟩
 refine⟨W7,d,W7,.inl D0.ra.dc,λl1 aJ=>?_⟩
 rw[zeq]
 have nd1:l1≠d:=Zn (zab D0.ra.dc aJ)
 have k1:ZE H0 (ZW H0 l1 QE):=Keep.new aJ
 have g1:(ZW H0 l1 QE) l1=some (.lst QE):=zac
 generalize upd H0 l1 (.lst QE)=H1 at k1 g1
 refine⟨l1,rfl,⟨_,Z4 g1⟩,zes (zs:=es.map (·.1)) (λi σ H'=>Aj3 (Ex5 λx1 x2 x3 x4 x5=>σ=[ZP d,x1,x2,x3,x4,x5]) (Keep [d] H1 H') (Ex1 λai:List Ent=>Aj2 (DrE H' d ai) (ai.map (·.1)=es.map (·.1))))
  ⟨⟨_,_,_,_,_,rfl⟩,Keep.refl,es,D0.k0 k1,rfl⟩ (λi σ H' _ hh=>SqL.of (hh.2 _ _ g1 (ZR nd1))) ?_ ?_⟩
 ·rintro i hi σ H2 ⟨⟨x1,x2,x3,x4,x5,rfl⟩,k2,ar,D2,n2⟩
  have bd:(es.map (·.1))[i]'(hi)∈ar.map (·.1):=by rw[n2];exact Qs hi
  generalize(es.map (·.1))[i]'(hi)=pl at bd
  obtain⟨e,he,rfl,g2⟩:=D2.rf.inn bd
  refine⟨W7,W7,d,W7,g2,e.2.2,W7,.inl (Z4 (D2.ra.ro e he)),λl3 dE=>?_⟩
  have ox:l3≠d:=Zn (zab D2.ra.dc dE)
  have k3:ZE H2 (ZW H2 l3 Z5):=Keep.new dE
  have g3:(ZW H2 l3 Z5) l3=some (.lst Z5):=zac
  generalize upd H2 l3 (.lst Z5)=H3 at k3 g3
  refine⟨l3,rfl,⟨_,Z4 g3⟩,zes (zs:=e.2.1) (λj σ H'=>Aj3 (Ex4 λx2 x3 x4 x5=>σ=[ZP d,QB (.str e.1),x2,x3,x4,x5]) (Keep [d] H3 H') (Ex1 λai:List Ent=>Aj2 (DrE H' d ai) (Grow ar ai)))
   ⟨⟨_,_,_,_,rfl⟩,Keep.refl,ar,D2.k0 k3,Grow.refl⟩ (λi σ H' _ hh=>SqL.of (hh.2 _ _ g3 (ZR ox))) ?_ ?_⟩
  ·rintro j hj σ H4 ⟨⟨x2,x3,x4,x5,rfl⟩,k4,dO,D4,pI⟩
   have hot:e.2.1[j]∈row (rsOf ar) e.1:=by rw[zaw D2.ra.nd he];exact Qs hj
   generalize e.2.1[j]=ot at hot
   obtain⟨cs,aa,C⟩:=D4.cert
   have h4:=D4.few
   refine⟨W7,W7,W7,d,dO,cs,aa,(e.1,ot),rfl,D4.rf,C.sy _ _ (pI.2 _ _ hot),C,ZO,λl6 ps L H6 fl6 dC lg RL kQ _ k6=>?_⟩
   have D6:=D4.k0 k6
   have bd:=Ya lg
   have cV:0<L.length:=by obtain⟨t,z,_⟩:=RL.cy;rw[z];simp
   have dY:0<ps.length:=by omega
   have nl6:l6≠d:=za3 dC D6.ra.dc ZX
   refine⟨W7,l6,_,_,W7,rfl,Z4 dC,zax (by rw[Qo,Qc dY];rfl),?_⟩
   refine⟨W7,W7,l6,W7,Z4 dC,λl7 bo=>?_⟩
   have nl7:l7≠d:=Zn (zab D6.ra.dc bo)
   have k7:ZE H6 (ZW H6 l7 (cutV (ps.map V.ref) (QB (2:Int)) none)):=Keep.new bo
   have g7:(ZW H6 l7 (cutV (ps.map V.ref) (QB (2:Int)) none)) l7=some (.lst (cutV (ps.map V.ref) (QB (2:Int)) none)):=zac
   generalize upd H6 l7 (.lst (cutV (ps.map V.ref) (QB (2:Int)) none))=H7 at k7 g7
   have ec:cutV (ps.map V.ref) (QB (2:Int)) none=(ps.drop 2).map V.ref:=cut_from2 V.ref ps 2
   rw[ec]at g7
   have D7:=D6.k0 k7
   have oq:zbn H7 ps L:=zbn.keep lg λc x y ec=>k7 _ _ ec ZM
   obtain⟨t,eL,kt⟩:=RL.cy
   have i9:H7 ps[0]=some (.tup [.str e.1,.str ot]):=by
    obtain⟨h7,z⟩:=zaz oq dY
    rw[show L[0]=(e.1,ot) by simp[eL]]at z
    exact z
   have nps:∀{c:Nb} {x y:V},H7 c=some (.tup [x,y])→c∉[d]:=λhc=>by simpa using za3 hc D7.ra.dc ZX
   refine⟨l7,rfl,⟨_,Z4 g7⟩,zbf (xs:=(ps.drop 2).map V.ref) (λn σ H'=>Aj3 (Ex1 λx5=>σ=[ZP d,QB (.str e.1),QB (.str ot),ZP l6,QB (.ref ps[0]),x5]) (Keep [d] H7 H') (Ex2 λ(ai:List Ent) (X:Nq)=>Aj3 (DrE H' d ai) (Grow dO ai) (Rnd (row (rsOf ai)) (e.1,ot) ((e.1,ot)::(X++L.drop (n+2))))))
    ⟨⟨_,rfl⟩,Keep.refl,dO,t.take 1,D7,Grow.refl,?_⟩ (λi σ H' _ hh=>SqL.of (hh.2 _ _ g7 (ZR nl7))) ?_ ?_⟩
   ·rw[eL,List.drop_succ_cons,We,←eL];exact RL
   ·rintro n x σ H8 hx ⟨⟨x5,rfl⟩,k8,eB,X,D8,pH,R8⟩
    have bm:n<(ps.drop 2).length:=by have:=(Qz.mp hx).1;rwa[Qa]at this
    have hn:n+2<ps.length:=by rw[Ky]at bm;omega
    rw[Qo,List.getElem?_drop,Nat.add_comm 2 n,Qc hn]at hx
    cases hx
    obtain⟨hL,oK⟩:=zaz oq hn
    have eR:=k8 _ _ oK (nps oK)
    have gL:=k8 _ _ i9 (nps i9)
    have eD:L.drop (n+2)=L[n+2]::L.drop (n+1+2):=Yo hL
    rw[eD]at R8
    generalize L[n+2]=v at eR R8
    obtain⟨cs8,lab8,C8⟩:=D8.cert
    have mv:v∈(e.1,ot)::(X++v::L.drop (n+1+2)):=Qe _ (Qh _ Qb)
    obtain⟨e1,aY,q1⟩:=Qj.mp (C8.inn (R8.al _ Qb))
    obtain⟨e2,dH,q2⟩:=Qj.mp (C8.inn (R8.al v mv))
    have cH:e1.1=ot:=q1
    have eI:e2.1=v.2:=q2
    have skip:Ex2 λ(ai:List Ent) (X:Nq)=>Aj3 (DrE H8 d ai) (Grow dO ai) (Rnd (row (rsOf ai)) (e.1,ot) ((e.1,ot)::(X++L.drop (n+1+2)))):=⟨eB,X++[v],D8,pH,Z2 Qw R8⟩
    refine⟨W7,ps[0],_,_,W7,rfl,WV gL,i1 _ _,W7,ps[n+2],_,_,W7,rfl,WV eR,i1 _ _,rfl,W7,?_⟩
    by_cases c1:ot=v.2
    ·exact zbl (by show(!decide (V.str ot=V.str v.2))=false;rw[c1,decide_eq_true rfl];rfl) ⟨⟨_,rfl⟩,k8,skip⟩
    refine zbs (by show(!decide (V.str ot=V.str v.2))=true;rw[decide_eq_false (λz=>c1 (by injection z))];rfl) ?_
    have g8:DGet H8 d (.str ot) (QB (.ref e1.2.2)):=cH▸(zb3 D8.ra.nd aY▸DGet.k (k:=Sum.inr e1.1) D8.ra.dc)
    refine⟨W7,ps[n+2],_,_,W7,rfl,WV eR,i1 _ _,W7,W7,ps[0],_,_,W7,rfl,WV gL,i1 _ _,d,W7,g8,e1.2.2,W7,.inl (Z4 (D8.ra.ro e1 aY)),rfl,zcj _,W7,?_⟩
    rw[ze7]
    by_cases c2:v.2∈e1.2.1
    ·exact zbl (by rw[decide_eq_true c2];rfl) ⟨⟨_,rfl⟩,k8,skip⟩
    refine zbs (by rw[decide_eq_false c2];rfl) ?_
    have oB:e.1∈e1.2.1:=by have:=R8.al _ Qb;rw[show(e.1,ot).2=e1.1 from cH.symm,zaw C8.nd aY]at this;exact this
    have oy:v.1∈e2.2.1:=by have:=R8.al v mv;rw[←eI,zaw C8.nd dH]at this;exact this
    have eM:e1.1≠e2.1:=λz=>c1 (by rw[←cH,z,eI])
    have cz:∀e∈eB,e.2.1.Nodup:=λe he=>by have:=C8.rn e.1;rw[zaw C8.nd he]at this;exact this
    have oO:ot∉e2.2.1:=λz=>c2 (by
     have:=C8.sy e2.1 ot (by rw[zaw C8.nd dH];exact z)
     rw[←cH,zaw C8.nd aY,eI]at this;exact this)
    have h8:=D8.few
    refine⟨W7,W7,ps[0],_,_,W7,rfl,WV gL,i1 _ _,W7,ps[0],_,_,W7,rfl,WV gL,i0 _ _,W7,ps[n+2],_,_,W7,rfl,WV eR,i1 _ _,W7,ps[n+2],_,_,W7,rfl,WV eR,i0 _ _,d,eB,e1,e2,some e.1,some v.1,by rw[cH,eI];rfl,D8.ra,aY,dH,eM,λy z=>by rw[←Qn z];exact oB,λy z=>by rw[←Qn z];exact oy,λe he=>Zi (D8.row e he) ZU,ZO,λa1 a2 H9 R9 k9=>?_⟩
    refine⟨⟨W7⟩,k8.trans k9,_,[(ot,v.2)],⟨R9,good_tie (u:=(e.1,ot)) D8.gd R8 Qb mv C8.nd aY dH cH eI (Zn c1) c2,by unfold setE;rw[List.length_map,List.length_map];exact h8⟩,pH.trans (grow_tie C8.nd cz aY dH eM oB oy),?_⟩
    exact rnd_tie (u:=(e.1,ot)) C8.nd cz R8 aY dH cH eI (Zn c1) c2 oO
   ·rintro σ H8 ⟨⟨x5,rfl⟩,k8,eB,X,D8,pH,R8⟩
    refine⟨⟨_,_,_,W7⟩,?_,eB,D8,pI.trans pH⟩
    exact((k4.trans (k6.sub ZM)).trans (k7.sub ZM)).trans k8
  ·rintro σ H4 ⟨⟨x2,x3,x4,x5,rfl⟩,k4,dO,D4,pI⟩
   exact⟨⟨_,_,_,_,W7⟩,(k2.trans (k3.sub ZM)).trans k4,dO,D4,pI.1.trans n2⟩
 ·rintro σ H2 ⟨⟨x1,x2,x3,x4,x5,rfl⟩,k2,ar,D2,n2⟩
  exact kq ar H2 D2 n2 ((k1.sub ZM).trans k2)
end
abbrev sGrown:Stmt:=top 49
def set_comm{rs:Rs Str}{x y:Str}{a b:Nf}(h:x≠y):za4 (za4 rs x a) y b=za4 (za4 rs y b) x a:=by
 unfold za4
 rw[Zk,Zk]
 refine Yb λp _=>?_
 show(if(if p.1=x then(p.1,a) else p).1=y then((if p.1=x then(p.1,a) else p).1,b) else(if p.1=x then(p.1,a) else p))=(if(if p.1=y then(p.1,b) else p).1=x then((if p.1=y then(p.1,b) else p).1,a) else(if p.1=y then(p.1,b) else p))
 by_cases p1:p.1=x
 ·by_cases p2:p.1=y
  ·exact absurd (p1.symm.trans p2) h
  ·simp[p1,p2,h,Zn h]
 ·by_cases p2:p.1=y
  ·simp[p1,p2,h,Zn h]
  ·simp[p1,p2]
inductive IspGrown(vs:List V)(H:Hp)(Q:VK):Prop
 |mk (p nl:Nb) (b m:Int) (ns:Nf) (h0:vs=[.ref p,.ref nl]) (h1:Pot H p b m) (h2:H nl=some (.lst (ns.map V.str))) (hn:ns.Nodup) (hl:ns.length≤16)
  (h3:∀(d:Nb) (b' m':Int) (ai:List Ent) (H':Hp),H d=none→Pot H' p b' m'→DrE H' d ai→ai.map (·.1)=ns→Keep [p] H H'→Q (ZZ d) H'):IspGrown vs H Q
def spGrown:Sp:=λvs H Q _=>IspGrown vs H Q
section
variable{P:Ni}{w:Nk}{K:Na}{mg:Nd}{base:Nm}
def zd5:zak [qP, "_law_names_here",qR, "_law_name", "_law_some",qO, "_law_corner"] [qP, "_law_names_here"] (zag sGrown):=fsk
def ok_grown(F:Fun K "_law_grown" "_law_grown" sGrown f fd)(GT:ZI "_law_take" [qP,qM] 1 zf5)(GI:ZI "_law_put" [qR, "_law_one", "_law_corner_of",qO, "_law_after"] 1 spPut)(af:mg "len" = none)(aq:mg "list" = none):ZC 2 f fd [qP, "_law_names_here"] spGrown:=by
 refine F.okL zd5 (λcdv A outer s0 H0 vs Q E hr h=>?_)
 obtain⟨p,nl,b,m,ns,rfl,hp,kr,hnn,hnn2,kq⟩:=h
 have hu:=zcd hr
 have dj:=Kk hu
 have am:Room 1 _:=hr.mono ZU
 have aw:=sizeLine_eq
 refine⟨_,zad (zar 2 zd5.nd zfx)
  (zad (zba Ze rfl (zao QQ) (zan 3 zd5.nd)
   (zad (zar 4 zd5.nd (zbp (zc2 rfl) Q4 aq Wi (Z0 2)))
   (zad (zb5 hu Q8 (pv 3) (zbk zae) rfl)
   (zah (zb0 (PW.pt (pw_and (zaq (zdm dj) (pv 4) (zbk zae) (zbe _)) (zh7 (zaq op_gt (W5 0 zai) zai (zbe _)))))
    (zad (zar 5 zd5.nd (za2 za0 (pv 4) (W5 0 (zal zat Q4 af Yj (Z0 4))) QC))
    (zad (zar 6 zd5.nd zgb)
    (zad (zb0 (zaq (zdm dj) (zb1 hu Q8 (pv 5)) (zbk zae) (zbe _))
     (zah (zar 6 zd5.nd (za2 za0 (zb1 hu Q8 (pv 5)) (W5 0 (zal zat Q4 af Yj (zaa (zb1 hu Q8 (pv 5)) zae))) QC))) zas)
    (zah (zbj (pcl GI am (zaa Q8 (zaa (pv 3) (zaa zgb (ZV 5 (pv 6)))))))))))
    zas)))))
  (zah (zau Q8))),?_⟩
 intro d hd
 have k1:ZE H0 (upd H0 d (.dK [])):=Keep.new hd
 have g1:(upd H0 d (.dK [])) d=some (.dK []):=zac
 generalize upd H0 d (.dK [])=H1 at k1 g1
 have gn:=hp.keep k1 ZM
 have jj:=k1 _ _ kr ZM
 have npl:nl≠p:=zga gn jj
 have ndl:nl≠d:=zab kr hd
 have npd:p≠d:=zab hp.1 hd
 have D1:DrE H1 d []:=⟨⟨g1,λe he=>(by cases he),Zo⟩,zer.nil,Zc _⟩
 have rQ:(ns.map V.str).length=ns.length:=Qa ..
 refine⟨_,rfl,nl,rfl,⟨_,Z4 jj⟩,zes (zs:=ns) (λi σ H'=>Aj3 (Ex4 λx3 x4 x5 x6=>σ=[ZP p,ZP nl,ZP d,x3,x4,x5,x6]) (Keep [p,d] H1 H') (Ex3 λ(ai:List Ent) (b' m':Int)=>Aj3 (DrE H' d ai) (Pot H' p b' m') (ai.map (·.1)=ns.take i)))
  ⟨⟨_,_,_,_,rfl⟩,Keep.refl,[],b,m,D1,gn,rfl⟩ (λi σ H' _ hh=>SqL.of (hh.2 _ _ jj (by simp;exact⟨npl,ndl⟩))) ?_ ?_⟩
 ·rintro i hi σ H2 ⟨⟨x3,x4,x5,x6,rfl⟩,k2,es,b2,m2,D2,cC,n2⟩
  have hx:ns[i]∉es.map (·.1):=by
   rw[n2]
   intro z
   obtain⟨j,hj,ej⟩:=List.mem_take_iff_getElem.mp z
   have:=(Wa (h₀:=by omega) (h₁:=hi) hnn).mp ej
   omega
  have aQ:ns.take QY=ns.take i++[ns[i]]:=Ql hi
  have gr:es.length<16:=by
   have:=congrArg List.length n2
   rw[Qa,Zt]at this
   omega
  generalize ns[i]=x at hx aQ
  refine⟨W7,d,W7,.inl D2.ra.dc,λl hl=>?_⟩
  rw[zeq]
  refine⟨(ZS 0),λa ha=>?_⟩
  have nla:l≠a:=zab (o:=_) zac ha
  have dE:(upd (ZW H2 l QE) a WQ) l=some (.lst QE):=by rw[zaf nla];exact zac
  have ha3:(upd (ZW H2 l QE) a WQ) a=some (QZ (([]:List Str).map V.str)):=zac
  have k3:ZE H2 (upd (ZW H2 l QE) a WQ):=(QD hl).trans (QD ha)
  generalize upd (ZW H2 l QE) a WQ=H3 at dE ha3 k3
  have D3:=D2.k0 k3
  have c7:=cC.keep k3 ZM
  refine⟨W7,W7,d,W7,DPut.k (k:=Sum.inr x) D3.ra.dc (QS Qa),?_⟩
  have R4:=rat_new D3.ra hx ha3
  have k4:Keep [d] H3 (upd H3 d (.dK (putK (eWV es) (Sum.inr x) (ZZ a)))):=Keep.wr Qb
  have nld:l≠d:=za3 dE D3.ra.dc ZX
  generalize upd H3 d (.dK (putK (eWV es) (Sum.inr x) (ZZ a)))=H4 at R4 k4
  have dD:=k4 _ _ dE (ZR nld)
  have bz:=c7.keep k4 (ZR npd)
  have cx:rsOf (es++[(x,[],a)])=rsOf es++[(x,[])]:=by unfold rsOf;rw[List.map_append];rfl
  have hxr:x∉(rsOf es).map (·.1):=by rw[zbi];exact hx
  have D4:DrE H4 d (es++[(x,[],a)]):=⟨R4,by rw[cx];exact zer.new _ _ D3.gd hxr,by rw[Qy];show _+1≤16;omega⟩
  have de:Keep [p,d] H1 H4:=(k2.trans (k3.sub ZM)).trans (k4.sub ZM)
  have nm:(es++[(x,([]:List Str),a)]).map (·.1)=ns.take QY:=by rw[aQ,←n2,Qr];rfl
  refine⟨W7,(ZS 0),λq hq=>?_⟩
  have nlq:l≠q:=zab dD hq
  refine⟨l,q,W7,rfl,Z4 (by rw[zaf nlq];exact dD),Z4 zac,W7,?_⟩
  have k5:ZE H4 (upd H4 q WQ):=Keep.new hq
  have cD:=(zaf (o:=.lst []) nlq).trans dD
  generalize upd H4 q WQ=H5 at k5 cD
  have D5:=D4.k0 k5
  have aP:=bz.keep k5 ZM
  have gf:=de.trans (k5.sub ZM)
  rw[if_pos rfl]
  by_cases p9:es=[]
  ·refine zbl (by rw[p9];rfl) ⟨⟨_,_,_,_,rfl⟩,gf,_,b2,m2,D5,aP,nm⟩
  refine zbs (by cases es with | nil=>exact absurd rfl p9 | cons _ _=>rfl) ?_
  refine⟨W7,p,b2,m2,8,rfl,aP,ZU,ZU,λd6 b6 m6 H6 h60 h61 bj qo=>?_⟩
  have k6:=zbb qo
  have D6:=D5.pot aP k6
  have dC:=k6 _ _ cD (by simpa using zga aP cD)
  have gc:=gf.trans (k6.sub ZM)
  refine⟨_,W7,rfl,W7,?_⟩
  refine ite2 (λ_=>?_) (λ_=>⟨⟨_,_,_,_,rfl⟩,gc,_,b6,m6,D6,bj,nm⟩)
  have dy:0<es.length:=Uo.mpr p9
  have aG:((es.map (·.1)).map V.str).length=es.length:=by rw[Qa,Qa]
  refine⟨W7,W7,W7,l,W7,.inl (Z4 dC),p,b6,m6,W7,bj,QS aG,QS aG,λj7 b7 m7 H7 pB pA aV lh=>?_⟩
  obtain⟨j,rfl⟩:=Zp pB
  have hj:j<es.length:=by rw[aG]at pA;omega
  have k7:=zbb lh
  have bo:=k7 _ _ dC (by simpa using zga bj dC)
  have D7:=D6.pot bj k7
  have eO:=gc.trans (k7.sub ZM)
  refine⟨l,_,_,W7,rfl,Z4 bo,zax (by rw[Qo,Qo,Qc hj];rfl),?_⟩
  have iz:es[j]∈es:=Qs hj
  generalize es[j]=e at iz
  have jw:e∈es++[(x,([]:List Str),a)]:=Qp _ iz
  have hx4:(x,([]:List Str),a)∈es++[(x,([]:List Str),a)]:=Qh _ Qb
  have nex:e.1≠x:=λq=>hx (q▸Qj.mpr ⟨e,iz,rfl⟩)
  have g7:=DGet.k (k:=Sum.inr e.1) D7.ra.dc
  rw[zb3 D7.ra.nd jw]at g7
  have oS:=D7.ra.ro e jw
  have bw:=D7.row e jw
  have rp:(e.2.1.map V.str).length=e.2.1.length:=Qa ..
  show tSeq (tAsg (tC V.non) (ze9 6)) _ _ _ _
  refine zie (λ σ' H'=>Aj2 (σ'=[ZP p,ZP nl,ZP d,QB (.str x),ZP l,QB (.str e.1),some .non]) (H7=H')) (λD' bK=>bK _ _ ⟨rfl,rfl⟩) ?_
  rintro σ' H' ⟨rfl,rfl⟩
  dsimp only
  refine zie (λ σ' H'=>Ex3 λ(c:Option Str) (b8 m8:Int)=>Aj6 (σ'=[ZP p,ZP nl,ZP d,QB (.str x),ZP l,QB (.str e.1),QB (zbm c)]) (∀y,c=some y→y∈e.2.1) (c=none→e.2.1=[]) (DrE H' d (es++[(x,[],a)])) (Pot H' p b8 m8) (Keep [p,d] H1 H')) (λD' bK=>?_) ?_
  ·refine ⟨_,rfl,_,rfl,d,_,rfl,g7,(ZS 0),fun q hq=>?_⟩
   have nq:e.2.2≠q:=zab oS hq
   refine⟨e.2.2,q,W7,rfl,Z4 (by rw[zaf nq];exact oS),Z4 zac,W7,?_⟩
   have k8:ZE H7 (upd H7 q WQ):=Keep.new hq
   have D8:=D7.k0 k8
   have bi:=aV.keep k8 ZM
   have gF:=eO.trans (k8.sub ZM)
   generalize upd H7 q WQ=H8 at D8 bi gF
   rw[if_pos rfl]
   by_cases h0:e.2.1=[]
   ·exact zbl (by rw[h0];rfl) (bK _ _ ⟨none,b7,m7,rfl,λy z=>(by cases z),λ_=>h0,D8,bi,gF⟩)
   ·refine zbs (by revert h0;cases e.2.1 with | nil=>exact fun h0=>absurd rfl h0 | cons _ _=>exact fun _=>rfl) ?_
    have g8:=DGet.k (k:=Sum.inr e.1) D8.ra.dc
    rw[zb3 D8.ra.nd jw]at g8
    have hr8:=D8.ra.ro e jw
    have iY:0<e.2.1.length:=Uo.mpr h0
    refine⟨W7,W7,d,W7,g8,W7,W7,W7,d,W7,g8,e.2.2,W7,.inl (Z4 hr8),p,b7,m7,W7,bi,QS rp,QS rp,λj9 b9 m9 H9 nV tT jf jU=>?_⟩
    obtain⟨j9,rfl⟩:=Zp nV
    have sk:j9<e.2.1.length:=by rw[rp]at tT;omega
    have k9:=zbb jU
    have D9:=D8.pot bi k9
    refine⟨e.2.2,_,_,W7,rfl,Z4 (D9.ra.ro e jw),zax (by rw[Qo,Qc sk];rfl),bK _ _ ⟨some e.2.1[j9],b9,m9,rfl,λy z=>by rw[←Qn z];exact Qs sk,λz=>(by cases z),D9,jf,gF.trans (k9.sub ZM)⟩⟩
  rintro σ' H8 ⟨c,b8,m8,rfl,hc,gy,D8,bi,gF⟩
  refine⟨W7,W7,W7,W7,d,_,(x,[],a),e,none,c,rfl,D8.ra,hx4,jw,Zn nex,λy z=>(by cases z),hc,λe he=>Zi (D8.row e he) ZU,by have:=D8.few;omega,λa1 a2 H9 R9 k9=>?_⟩
  refine⟨⟨_,_,_,W7⟩,gF.trans (k9.sub ZM),_,b8,m8,⟨R9,?_,by unfold setE;rw[List.length_map,List.length_map];exact D8.few⟩,bi.keep k9 (ZR npd),by rw[zb2,zb2];exact nm⟩
  rw[zcz,zcz,cx,set_comm (Zn nex)]
  exact zer.leaf (rsOf es) x (e.1,e.2.1) c D3.gd hxr (Qj.mpr ⟨e,iz,rfl⟩) hc gy
 ·rintro σ H2 ⟨⟨x3,x4,x5,x6,rfl⟩,k2,es,b2,m2,D2,cC,n2⟩
  rw[Qt (W0 rQ)]at n2
  exact⟨W7,kq d b2 m2 es H2 hd cC D2 n2 λc o ec nc=>k2 c o (k1 c o ec ZM) (by simp;exact⟨ZR nc,zab ec hd⟩)⟩
end
end K21
end
section
namespace Wb
section
variable{α:Type}[DecidableEq α]
def zgo{A B:List α}{n:α}(h:n∉A):(A++n::B).erase n=A++B:=by
 rw[List.erase_append_right _ h,List.erase_cons_head]
def nxt_erase{zs:List α}(nd:zs.Nodup){n w:α}(hn:n∈zs)(hw:w∈zs)(df:w≠n):nxt (zs.erase n) w=if nxt zs w=n then nxt zs n else nxt zs w:=by
 obtain⟨A,B,rfl,hA,hB⟩:=zbx hw nd
 have k1:=za8 (B:=B) hA
 rw[Zd,Qq]at nd
 obtain⟨nA,⟨_,nB⟩,nAB⟩:=nd
 rcases Qk.mp hn with h | h
 ·obtain ⟨A1,A2,rfl,h1,h2⟩:=zbx h nA
  have e0:(A1++n::A2)++w::B=A1++n::(A2++w::B):=by rw[Qw];rfl
  have hw':w∉A1++A2:=λz=>hA (by
   rcases Qk.mp z with q | q
   ·exact Qp _ q
   ·exact Qh _ (Qe _ q))
  have k2:=za8 (B:=B) hw'
  have e1:((A1++n::A2)++w::B).erase n=(A1++A2)++w::B:=by rw[e0,zgo h1,Qw]
  have k3:=za8 (B:=A2++w::B) h1
  rw[←e0]at k3
  rw[e1]
  cases B with
  |cons b t =>
   have q1:=Qn k1;have q2:=Qn k2
   rw[if_neg (λz=>nAB n h n (Qe _ (by rw[q1.trans z];exact Qb)) rfl)]
   exact q2.symm.trans q1
  | nil =>
   cases A1 with
   |cons a t =>
    have q1:=Qn k1;have q2:=Qn k2
    rw[if_neg (λz=>h1 (by rw[q1.trans z];exact Qb))]
    exact q2.symm.trans q1
   |nil =>
    have q1:=Qn k1
    rw[if_pos q1.symm]
    refine Qn (k2.symm.trans (Eq.trans ?_ k3))
    cases A2<;>rfl
 ·have h':n∈B:=by
   rcases Qg.mp h with z | z
   ·exact absurd z.symm df
   ·exact z
  obtain⟨B1,B2,rfl,h1,h2⟩:=zbx h' nB
  have rS:n∉A:=λz=>nAB n z n h rfl
  have hm:n∉A++w::B1:=by
   simp only[Qk,Qg,not_or];exact⟨rS,λz=>df z.symm,h1⟩
  have e0:A++w::(B1++n::B2)=(A++w::B1)++n::B2:=by rw[Qw];rfl
  have e1:(A++w::(B1++n::B2)).erase n=A++w::(B1++B2):=by rw[e0,zgo hm,Qw];rfl
  have k2:=za8 (B:=B1++B2) hA
  have k3:=za8 (B:=B2) hm
  rw[←e0]at k3
  rw[e1]
  cases B1 with
  |cons b t =>
   have q1:=Qn k1;have q2:=Qn k2
   rw[if_neg (λz=>h1 (by rw[q1.trans z];exact Qb))]
   exact q2.symm.trans q1
  |nil =>
   have q1:=Qn k1
   rw[if_pos q1.symm]
   refine Qn (k2.symm.trans (Eq.trans ?_ k3))
   cases B2 with
   |cons b t=>rfl
   |nil=>cases A<;>rfl
def nxt_self{zs:List α}(nd:zs.Nodup)(hw:w∈zs)(h:nxt zs w=w):zs=[w]:=by
 obtain⟨A,B,rfl,hA,hB⟩:=zbx hw nd
 have k:=za8 (B:=B) hA
 rw[h]at k
 cases B with
 |cons b t=>exact absurd (by rw[←Qn k];exact Qb) hB
 |nil =>
  cases A with
  |nil=>rfl
  |cons a t=>exact absurd (by rw[←Qn k];exact Qb) hA
structure Web(ns:List α)(r:α→List α)(cs:List (List (α×α))):Prop where
 nd:ns.Nodup
 ro:∀x,x∉ns→r x=[]
 rn:∀x,(r x).Nodup
 ir:∀x,x∉r x
 sy:∀x y,y∈r x→x∈r y
 cf:cs.flatten.Nodup
 cm:∀s,s∈cs.flatten↔s.1∈r s.2
 cy:∀c∈cs,Cyc (st r) c
def vl(r:α→List α)(x:α):Int:=2+(if r x=[] then 2 else 0)-((r x).length:Int)
def tot(ns:List α)(r:α→List α)(cs:List (List (α×α))):Int:=(ns.map (vl r)).sum+2*(cs.length:Int)
structure Flat(ns:List α)(r:α→List α)(cs:List (List (α×α))):Prop extends Web ns r cs where
 fl:∀T:List α,(∀t∈T,t∈ns)→T.Pairwise (λx y=>¬Conn r x y)→4*(T.length:Int)≤tot ns r cs
def Conn.symm{r:α→List α}(sy:∀x y,y∈r x→x∈r y)(h:Conn r x y):Conn r y x:=by
 induction h with
 |refl=>exact .refl
 |step a hz ih=>exact Conn.trans (.step .refl (sy _ _ hz)) ih
variable{ns:List α}{r r':α→List α}{cs:List (List (α×α))}
def Web.inn(C:Web ns r cs)(h:y∈r x):x∈ns:=Jb λz=>by rw[C.ro x z]at h;cases h
structure Less(r r':α→List α)(v u:α):Prop where
 tie:u∈r v
 one:r' v=(r v).erase u
 two:r' u=(r u).erase v
 els:∀x,x≠v→x≠u→r' x=r x
section del
variable{v u:α}(C:Web ns r cs)(L:Less r r' v u)
include C L
theorem del_ne:v≠u:=λe=>C.ir u (by have:=L.tie;rwa[e]at this)
theorem zb9(s:α×α):s.1∈r' s.2↔s.1∈r s.2∧s≠(v,u)∧s≠(u,v):=by
 obtain⟨a,b⟩:=s
 have dU:=del_ne C L
 by_cases hb:b=v
 ·subst hb
  show a∈r' b↔a∈r b∧_
  rw[L.one,(C.rn b).mem_erase_iff]
  constructor
  ·rintro ⟨h1,h2⟩
   exact⟨h2,λe=>dU (congrArg Prod.snd e),λe=>h1 (congrArg Prod.fst e)⟩
  ·rintro ⟨h1,h2,h3⟩
   exact⟨λe=>h3 (by rw[e]),h1⟩
 ·by_cases aZ:b=u
  ·subst aZ
   show a∈r' b↔a∈r b∧_
   rw[L.two,(C.rn b).mem_erase_iff]
   constructor
   ·rintro ⟨h1,h2⟩
    exact⟨h2,λe=>h1 (congrArg Prod.fst e),λe=>hb (congrArg Prod.snd e)⟩
   ·rintro ⟨h1,h2,h3⟩
    exact⟨λe=>h2 (by rw[e]),h1⟩
  ·show a∈r' b↔a∈r b∧_
   rw[L.els b hb aZ]
   exact⟨λh=>⟨h,λe=>aZ (congrArg Prod.snd e),λe=>hb (congrArg Prod.snd e)⟩,λh=>h.1⟩
theorem del_st{s:α×α}(hs:s.1∈r' s.2):st r' s=if st r s=(v,u) then st r (u,v) else if st r s=(u,v) then st r (v,u) else st r s:=by
 have hm:=(zb9 C L s).mp hs
 obtain⟨a,b⟩:=s
 have dU:=del_ne C L
 obtain⟨ha,c9,bm⟩:=hm
 by_cases hb:b=v
 ·subst hb
  have tJ:a≠u:=λe=>bm (by rw[e])
  have k:=nxt_erase (C.rn b) L.tie ha tJ
  show(b,nxt (r' b) a)=if(b,nxt (r b) a)=(b,u) then(b,nxt (r b) u) else if(b,nxt (r b) a)=(u,b) then _ else(b,nxt (r b) a)
  rw[L.one,k]
  by_cases h:nxt (r b) a=u
  ·rw[if_pos h,if_pos (by rw[h])]
  ·rw[if_neg h,if_neg (λe=>h (congrArg Prod.snd e)),if_neg (λe=>dU (congrArg Prod.fst e))]
 ·by_cases aZ:b=u
  ·subst aZ
   have tJ:a≠v:=λe=>c9 (by rw[e])
   have k:=nxt_erase (C.rn b) (C.sy _ _ L.tie) ha tJ
   show(b,nxt (r' b) a)=if(b,nxt (r b) a)=(v,b) then _ else if(b,nxt (r b) a)=(b,v) then(b,nxt (r b) v) else(b,nxt (r b) a)
   rw[L.two,k,if_neg (λe=>hb (congrArg Prod.fst e))]
   by_cases h:nxt (r b) a=v
   ·rw[if_pos h,if_pos (by rw[h])]
   ·rw[if_neg h,if_neg (λe=>h (congrArg Prod.snd e))]
  ·show (b,nxt (r' b) a)=if (b,nxt (r b) a)=(v,u) then _ else if (b,nxt (r b) a)=(u,v) then _ else (b,nxt (r b) a)
   rw[if_neg (λe=>hb (congrArg Prod.fst e)),if_neg (λe=>aZ (congrArg Prod.fst e)),L.els b hb aZ]
theorem del_web(hp:cs.flatten.Perm ((v,u)::(u,v)::cs'.flatten))(hc:∀c∈cs',Cyc (st r') c):Web ns r' cs':=by
 have dU:=del_ne C L
 have nd:=hp.nodup_iff.mp C.cf
 rw[Qq,Qq,Qg,not_or]at nd
 refine⟨C.nd,λx hx=>?_,λx=>?_,λx h=>?_,λx y h=>?_,nd.2.2,λs=>?_,hc⟩
 ·have hv:x≠v:=fun e=>hx (by rw [e];exact C.inn L.tie)
  have hu:x≠u:=λe=>hx (by rw[e];exact C.inn (C.sy _ _ L.tie))
  rw[L.els x hv hu,C.ro x hx]
 ·by_cases h1:x=v
  ·rw[h1,L.one];exact(C.rn v).erase _
  ·by_cases h2:x=u
   ·rw[h2,L.two];exact(C.rn u).erase _
   ·rw[L.els x h1 h2];exact C.rn x
 ·exact C.ir x ((zb9 C L (x,x)).mp h).1
 ·obtain ⟨h1,h2,h3⟩:=(zb9 C L (y,x)).mp h
  exact(zb9 C L (x,y)).mpr ⟨C.sy x y h1,λe=>h3 (by cases e;rfl),λe=>h2 (by cases e;rfl)⟩
 ·rw [zb9 C L,← C.cm,hp.mem_iff,Qg,Qg]
  constructor
  ·intro h
   exact⟨.inr (.inr h),λe=>nd.1.2 (e▸h),λe=>nd.2.1 (e▸h)⟩
  ·rintro ⟨h | h | h,h2,h3⟩
   ·exact absurd h h2
   ·exact absurd h h3
   ·exact h
theorem del_tot:tot ns r' cs'=tot ns r cs+2+(if r' v=[] then 2 else 0)+(if r' u=[] then 2 else 0)+2*((cs'.length:Int)-(cs.length:Int)):=by
 have dU:=del_ne C L
 have hv:=C.inn L.tie
 have hu:=C.inn (C.sy _ _ L.tie)
 have e1:=zey (g:=vl r) (g':=λx=>if x=v then vl r' v else vl r x) C.nd hv λx _ h=>if_neg h
 have e2:=zey (g:=λx=>if x=v then vl r' v else vl r x) (g':=vl r') C.nd hu λx _ h=>by
  show vl r' x=if x=v then vl r' v else vl r x
  by_cases hx:x=v
  ·rw[if_pos hx,hx]
  ·rw[if_neg hx];unfold vl;rw[L.els x hx h]
 have a1:(if v=v then vl r' v else vl r v)=vl r' v:=if_pos rfl
 have a2:(if u=v then vl r' v else vl r u)=vl r u:=if_neg λe=>dU e.symm
 have l1:=Yf L.tie
 have l2:=Yf (C.sy _ _ L.tie)
 have p1:=Yd L.tie
 have p2:=Yd (C.sy _ _ L.tie)
 have n1:r v≠[]:=λe=>by have:=L.tie;rw[e]at this;cases this
 have n2:r u≠[]:=λe=>by have:=C.sy _ _ L.tie;rw[e]at this;cases this
 have b1:vl r' v=vl r v+1+(if r' v=[] then 2 else 0):=by
  unfold vl;rw[if_neg n1];rw[←L.one]at l1;rw[l1];omega
 have b2:vl r' u=vl r u+1+(if r' u=[] then 2 else 0):=by
  unfold vl;rw[if_neg n2];rw[←L.two]at l2;rw[l2];omega
 unfold tot
 rw[e2,e1]
 show(_+((if v=v then vl r' v else vl r v)-vl r v))+(vl r' u-(if u=v then vl r' v else vl r u))+_=_
 rw[a1,a2,b1,b2];omega
theorem del_conn(h:Conn r x y):Conn r' x y∨(Conn r' x v∧Conn r' u y)∨(Conn r' x u∧Conn r' v y):=by
 induction h with
 |refl=>exact .inl .refl
 | @step y z a hz ih =>
  by_cases h1:(z,y)=(v,u)
  ·cases h1
   rcases ih with h | ⟨h,_⟩ | ⟨h,_⟩
   ·exact .inr (.inr ⟨h,.refl⟩)
   ·exact .inl h
   ·exact .inr (.inr ⟨h,.refl⟩)
  ·by_cases h2:(z,y)=(u,v)
   ·cases h2
    rcases ih with h | ⟨h,_⟩ | ⟨h,_⟩
    ·exact .inr (.inl ⟨h,.refl⟩)
    ·exact .inr (.inl ⟨h,.refl⟩)
    ·exact .inl h
   ·have gj:z∈r' y:=(zb9 C L (z,y)).mpr ⟨hz,h1,h2⟩
    rcases ih with h | ⟨h,k⟩ | ⟨h,k⟩
    ·exact .inl (.step h gj)
    ·exact .inr (.inl ⟨h,.step k gj⟩)
    ·exact .inr (.inr ⟨h,.step k gj⟩)
end del
end
section
variable{α:Type}[DecidableEq α]{ns:List α}{r r':α→List α}{cs:List (List (α×α))}
def Web.iso(C:Web ns r cs)(h:p∈r q):(r q).erase p=[]↔st r (p,q)=(q,p):=by
 constructor
 ·intro e
  have l:=Yf h
  rw[e]at l
  have p1:=Yd h
  obtain⟨a,ha⟩:=List.length_eq_one_iff.mp (show(r q).length=1 by simp at l;omega)
  rw[ha]at h
  have:p=a:=Qd.mp h
  show(q,nxt (r q) p)=_
  rw[ha,this,zia]
 ·intro e
  have:=nxt_self (C.rn q) h (congrArg Prod.snd e)
  rw[this,List.erase_cons_head]
section del
variable{v u:α}(C:Web ns r cs)(L:Less r r' v u)
include C L
theorem lk_del:∀{t:List (α×α)} {s:α×α},Lk (st r) s t x→(∀y,y=s∨y∈t→y.1∈r' y.2)→Lk (st r') s t (if x=(v,u) then st r (u,v) else if x=(u,v) then st r (v,u) else x):=by
 intro t
 induction t with
 |nil=>intro s k h;rw[←show st r s=x from k];exact del_st C L (h s QX)
 |cons a t ih =>
  intro s k h
  refine⟨?_,ih k.2 λy hy=>h y (.inr (Qg.mpr hy))⟩
  have ha:=((zb9 C L a).mp (h a (.inr Qb))).2
  rw[del_st C L (h s QX),k.1,if_neg ha.1,if_neg ha.2]
theorem rest_cyc(hc:c∈cs)(h1:(v,u)∉c)(h2:(u,v)∉c):Cyc (st r') c:=by
 refine zet (λy hy=>?_) (C.cy c hc)
 have hn:=zio (C.cy c hc) hy
 have bQ:y.1∈r' y.2:=(zb9 C L y).mpr ⟨(C.cm y).mp (Zs.mpr ⟨c,hc,hy⟩),λe=>h1 (e▸hy),λe=>h2 (e▸hy)⟩
 rw[del_st C L bQ,if_neg (show st r y≠(v,u) from λe=>h1 (by rw[←e];exact hn)),if_neg (show st r y≠(u,v) from λe=>h2 (by rw[←e];exact hn))]
theorem lk_conn(sy:∀x y,y∈r' x→x∈r' y):∀{t:List (α×α)} {s:α×α},Lk (st r) s t x→(∀y,y=s∨y∈t→y.1∈r' y.2)→Conn r' s.1 x.1:=by
 intro t
 induction t with
 |nil=>intro s k h;rw[←show st r s=x from k];exact .step .refl (sy _ _ (h s QX))
 |cons a t ih =>
  intro s k h
  refine Conn.trans (.step .refl (sy _ _ (h s QX))) ?_
  have:=ih k.2 λy hy=>h y (.inr (Qg.mpr hy))
  rwa[show a.1=s.2 by rw[←k.1];rfl]at this
end del
def filter_one{T:List α}{R:α→α→Prop}{P:α→Bool}(h:T.Pairwise fun x y=>¬ R x y)(hR:∀ x y,P x=false→P y=false→R x y):T.length≤(T.filter P).length+1:=by
 induction T with
 |nil=>exact Zc _
 | cons a t ih =>
  rw[Jk]at h
  by_cases ha:P a=true
  ·rw [Zq ha]
   have:=ih h.2
   rw[Qv,Qv];omega
  ·rw [Zr ha]
   have:t.filter P=t:=List.filter_eq_self.mpr λy hy=>by
    cases e:P y with
    |true=>rfl
    |false=>exact absurd (hR a y (ZR ha) e) (h.1 y hy)
   rw[this];exact Qf _
def web_less(C:Web ns r cs)(L:Less r r' v u):∃ cs',Web ns r' cs'∧(tot ns r' cs'=tot ns r cs∧Conn r' u v∨tot ns r' cs'=tot ns r cs+4):=by
 have dU:=del_ne C L
 have rW:v∈r u:=C.sy _ _ L.tie
 have av:((u,v):α×α)≠(v,u):=λe=>dU (congrArg Prod.snd e)
 obtain⟨c,hc,hec⟩:=Zs.mp ((C.cm (v,u)).mpr rW)
 obtain⟨P,Q,ecq⟩:=Yl hec
 have k0:Lk (st r) (v,u) (Q++P) (v,u):=zc1 (ecq▸C.cy c hc)
 have pc:c.Perm ((v,u)::(Q++P)):=by
  rw[ecq];exact Kw.trans ((Wf).cons _)
 by_cases hb:(u,v)∈c
 ·have dJ:(u,v)∈Q++P:=by
   rcases Qg.mp (pc.mem_iff.mp hb) with z | z
   ·exact absurd z av
   ·exact z
  obtain⟨A,B,eAB⟩:=Yl dJ
  rw[eAB]at k0 pc
  obtain⟨kA,kB⟩:=zhf.mp k0
  have oo:c.Perm ((v,u)::(u,v)::(A++B)):=pc.trans (Kw.cons _)
  let N:List (List (α×α)):=(if A=[] then[] else[A])++(if B=[] then[] else[B])
  have hN:N.flatten=A++B:=by
   show((if A=[] then[] else[A])++(if B=[] then[] else[B])).flatten=_
   rw[Wl]
   congr 1
   ·by_cases h:A=[]
    ·rw[if_pos h,h];rfl
    ·rw[if_neg h];simp
   ·by_cases h:B=[]
    ·rw[if_pos h,h];rfl
    ·rw[if_neg h];simp
  have hp:cs.flatten.Perm ((v,u)::(u,v)::(N++cs.erase c).flatten):=by
   rw[Wl,hN]
   refine(zby hc).trans ((oo.append_right _).trans ?_)
   exact List.Perm.refl _
  have nd:=hp.nodup_iff.mp C.cf
  have aB:∀y,y∈(N++cs.erase c).flatten→y.1∈r' y.2:=λy hy=>by
   rw[Qq,Qq,Qg,not_or]at nd
   exact(zb9 C L y).mpr ⟨(C.cm y).mp (hp.mem_iff.mpr (Qe _ (Qe _ hy))),λe=>nd.1.2 (e▸hy),λe=>nd.2.1 (e▸hy)⟩
  have dF:∀y∈A,y.1∈r' y.2:=λy hy=>aB y (by rw[Wl,hN];exact Qp _ (Qp _ hy))
  have fH:∀y∈B,y.1∈r' y.2:=λy hy=>aB y (by rw[Wl,hN];exact Qp _ (Qh _ hy))
  have cA:∀a t,A=a::t→Cyc (st r') A:=λa t e=>by
   subst e
   have k:=lk_del C L kA.2 λy hy=>dF y (Qg.mpr hy)
   rw[if_neg av,if_pos rfl,kA.1]at k
   exact⟨a,t,rfl,k⟩
  have cB:∀a t,B=a::t→Cyc (st r') B:=λa t e=>by
   subst e
   have k:=lk_del C L kB.2 λy hy=>fH y (Qg.mpr hy)
   rw[if_pos rfl,kB.1]at k
   exact⟨a,t,rfl,k⟩
  have ny:∀d∈N++cs.erase c,Cyc (st r') d:=λd hd=>by
   rcases Qk.mp hd with z | z
   ·rcases Qk.mp z with y | y
    ·cases A with
     |nil=>rw[if_pos rfl]at y;cases y
     |cons a t =>
      rw[if_neg (Xa _ _)]at y
      rw[Qd.mp y];exact cA a t rfl
    ·cases B with
     |nil=>rw[if_pos rfl]at y;cases y
     |cons a t =>
      rw[if_neg (Xa _ _)]at y
      rw[Qd.mp y];exact cB a t rfl
   ·rw [Qq,Qq,Qg,not_or] at nd
    have hf:∀y∈d,y∈(N++cs.erase c).flatten:=λy hy=>Zs.mpr ⟨d,hd,hy⟩
    exact rest_cyc C L (Ug z) (λy=>nd.1.2 (hf _ y)) (λy=>nd.2.1 (hf _ y))
  have W:=del_web C L hp ny
  have iA:r' u=[]↔A=[]:=by
   rw[L.two,C.iso rW]
   constructor
   ·intro e
    cases A with
    |nil=>rfl
    |cons a t =>
     have ha:a=(u,v):=kA.1.symm.trans e
     have:=((zb9 C L a).mp (dF a Qb)).2.2
     exact absurd ha this
   ·intro e;subst e;exact kA
  have iB:r' v=[]↔B=[]:=by
   rw[L.one,C.iso L.tie]
   constructor
   ·intro e
    cases B with
    |nil=>rfl
    |cons a t =>
     have ha:a=(v,u):=kB.1.symm.trans e
     have:=((zb9 C L a).mp (fH a Qb)).2.1
     exact absurd ha this
   ·intro e;subst e;exact kB
  have ht:tot ns r' (N++cs.erase c)=tot ns r cs+4:=by
   rw[del_tot C L (cs':=N++cs.erase c)]
   have lc:=Yf hc
   have lp:=Yd hc
   have ln:N.length=(if A=[] then 0 else 1)+(if B=[] then 0 else 1):=by
    show((if A=[] then[] else[A])++(if B=[] then[] else[B])).length=_
    rw[Qy]
    congr 1
    ·by_cases h:A=[]
     ·rw[if_pos h,if_pos h];rfl
     ·rw[if_neg h,if_neg h];rfl
    ·by_cases h:B=[]
     ·rw[if_pos h,if_pos h];rfl
     ·rw[if_neg h,if_neg h];rfl
   rw[Qy,ln,lc]
   by_cases hA:A=[]
   ·by_cases hB:B=[]
    ·rw[if_pos (iA.mpr hA),if_pos (iB.mpr hB),if_pos hA,if_pos hB];omega
    ·rw[if_pos (iA.mpr hA),if_neg (λz=>hB (iB.mp z)),if_pos hA,if_neg hB];omega
   ·by_cases hB:B=[]
    ·rw[if_neg (λz=>hA (iA.mp z)),if_pos (iB.mpr hB),if_neg hA,if_pos hB];omega
    ·rw[if_neg (λz=>hA (iA.mp z)),if_neg (λz=>hB (iB.mp z)),if_neg hA,if_neg hB];omega
  exact⟨N++cs.erase c,W,.inr ht⟩
 ·obtain ⟨c2,jB,ni⟩:=Zs.mp ((C.cm (u,v)).mpr L.tie)
  have ck:c2≠c:=λe=>hb (e▸ni)
  have jA:c2∈cs.erase c:=(List.mem_erase_of_ne ck).mpr jB
  obtain⟨P2,Q2,o7⟩:=Yl ni
  have k2:Lk (st r) (u,v) (Q2++P2) (u,v):=zc1 (o7▸C.cy c2 jB)
  have oo:c2.Perm ((u,v)::(Q2++P2)):=by
   rw[o7];exact Kw.trans ((Wf).cons _)
  generalize hA:Q++P=A at k0 pc
  generalize hB:Q2++P2=B at k2 oo
  have hp:cs.flatten.Perm ((v,u)::(u,v)::((A++B)::(cs.erase c).erase c2).flatten):=by
   rw[Wc]
   refine(zby hc).trans ((pc.append_right _).trans ?_)
   rw[Wr]
   refine List.Perm.cons _ ?_
   refine((zby jA).append_left A).trans ?_
   refine((oo.append_right _).append_left A).trans ?_
   rw[Wr]
   refine Kw.trans ?_
   rw[Qw]
  have nd:=hp.nodup_iff.mp C.cf
  have aB:∀y,y∈((A++B)::(cs.erase c).erase c2).flatten→y.1∈r' y.2:=λy hy=>by
   rw[Qq,Qq,Qg,not_or]at nd
   exact(zb9 C L y).mpr ⟨(C.cm y).mp (hp.mem_iff.mpr (Qe _ (Qe _ hy))),λe=>nd.1.2 (e▸hy),λe=>nd.2.1 (e▸hy)⟩
  have dF:∀y∈A,y.1∈r' y.2:=λy hy=>aB y (by rw[Wc];exact Qp _ (Qp _ hy))
  have fH:∀y∈B,y.1∈r' y.2:=λy hy=>aB y (by rw[Wc];exact Qp _ (Qh _ hy))
  have nA:∃a t,A=a::t:=by
   cases A with
   |nil =>
    have:=congrArg Prod.fst (show st r (v,u)=(v,u) from k0)
    exact absurd this.symm dU
   |cons a t=>exact⟨a,t,rfl⟩
  have nB:∃a t,B=a::t:=by
   cases B with
   |nil =>
    have:=congrArg Prod.fst (show st r (u,v)=(u,v) from k2)
    exact absurd this dU
   |cons a t=>exact⟨a,t,rfl⟩
  obtain⟨a,tA,rfl⟩:=nA
  obtain⟨b,tB,rfl⟩:=nB
  have ny:∀d∈((a::tA)++(b::tB))::(cs.erase c).erase c2,Cyc (st r') d:=λd hd=>by
   rcases Qg.mp hd with z | z
   ·have k:=lk_del C L k0.2 fun y hy=>dF y (Qg.mpr hy)
    have k':=lk_del C L k2.2 λy hy=>fH y (Qg.mpr hy)
    rw[if_pos rfl,k2.1]at k
    rw[if_neg av,if_pos rfl,k0.1]at k'
    rw[z]
    exact⟨a,tA++b::tB,rfl,zhf.mpr ⟨k,k'⟩⟩
   ·rw [Qq,Qq,Qg,not_or] at nd
    have hf:∀y∈d,y∈(((a::tA)++(b::tB))::(cs.erase c).erase c2).flatten:=λy hy=>Zs.mpr ⟨d,hd,hy⟩
    exact rest_cyc C L (Ug (Ug z)) (λy=>nd.1.2 (hf _ y)) (λy=>nd.2.1 (hf _ y))
  have W:=del_web C L hp ny
  have nu:r' u≠[]:=λe=>by
   rw[L.two,C.iso rW]at e
   have ha:a=(u,v):=k0.1.symm.trans e
   exact((zb9 C L a).mp (dF a Qb)).2.2 ha
  have nv:r' v≠[]:=λe=>by
   rw[L.one,C.iso L.tie]at e
   have ha:b=(v,u):=k2.1.symm.trans e
   exact((zb9 C L b).mp (fH b Qb)).2.1 ha
  have fV:Conn r' u v:=by
   have:=lk_conn C L W.sy k0.2 λy hy=>dF y (Qg.mpr hy)
   rwa[←k0.1]at this
  refine⟨_,W,.inl ⟨?_,fV⟩⟩
  rw[del_tot C L,if_neg nu,if_neg nv]
  have lc:=Yf hc
  have lc2:=Yf jA
  have lp:=Yd hc
  have lp2:=Yd jA
  rw[Qv,lc2,lc]
  omega
def zhm{v u:α}(C:Web ns r cs)(L:Less r r' v u)(sy:∀x y,y∈r' x→x∈r' y){T:List α}(ki:T.Pairwise λx y=>¬Conn r' x y):∃T':List α,(∀t∈T',t∈T)∧T'.Pairwise (λx y=>¬Conn r x y)∧T.length≤T'.length+1:=by
 let P:α→Bool:=λx=>@decide (¬Conn r' x v) (Classical.propDecidable _)
 have hP:∀x,P x=false→Conn r' x v:=λx e=>by
  have:=@of_decide_eq_false _ (Classical.propDecidable _) e
  exact Classical.not_not.mp this
 refine⟨T.filter P,λt ht=>(Zj.mp ht).1,?_,filter_one (P:=P) ki λx y hx hy=>Conn.trans (hP x hx) (Conn.symm sy (hP y hy))⟩
 refine Kq ?_ (ki.filter P)
 intro x y hx hy qC hc
 have px:¬Conn r' x v:=@of_decide_eq_true _ (Classical.propDecidable _) (Zj.mp hx).2
 have py:¬Conn r' y v:=@of_decide_eq_true _ (Classical.propDecidable _) (Zj.mp hy).2
 rcases del_conn C L hc with h | ⟨h,_⟩ | ⟨_,h⟩
 ·exact qC h
 ·exact px h
 ·exact py (Conn.symm sy h)
def back_less(C:Web ns r cs)(L:Less r r' v u)(sy:∀x y,y∈r' x→x∈r' y)(h:Conn r' u v)(hc:Conn r x y):Conn r' x y:=by
 rcases del_conn C L hc with z | ⟨z1,z2⟩ | ⟨z1,z2⟩
 ·exact z
 ·exact(z1.trans (Conn.symm sy h)).trans z2
 ·exact(z1.trans h).trans z2
def flat_less{v u:α}(F:Flat ns r cs)(L:Less r r' v u):∃cs',Flat ns r' cs':=by
 obtain⟨cs',W,⟨ht,fV⟩ | ht⟩:=web_less F.toWeb L
 ·refine ⟨cs',W,fun T hT ki=>?_⟩
  rw[ht]
  exact F.fl T hT (ki.imp λ{x y} h hc=>h (back_less F.toWeb L W.sy fV hc))
 ·refine ⟨cs',W,fun T hT ki=>?_⟩
  obtain⟨T',h1,h2,h3⟩:=zhm F.toWeb L W.sy ki
  have:=F.fl T' (λt ht=>hT t (h1 t ht)) h2
  rw[ht]
  omega
def conn_iso(hr:r x=[])(h:Conn r x y):y=x:=by
 induction h with
 |refl=>rfl
 |step _ hz ih=>rw[ih,hr]at hz;cases hz
def sum_one{L:List α}(nd:L.Nodup){a:α}(h:a∈L)(k:Int):(L.map λl=>if a=l then k else 0).sum=k:=by
 have:=zey (g:=λ_=>(0:Int)) (g':=λl=>if a=l then k else 0) nd h λx _ hx=>if_neg λe=>hx e.symm
 rw[this,zdt λ_ _=>rfl,if_pos rfl];omega
def zf3{β:Type}(f g:β→Int):∀l:List β,(l.map λx=>f x+g x).sum=(l.map f).sum+(l.map g).sum:=by
 intro l
 induction l with
 |nil=>rfl
 |cons a t ih=>rw[Qm,Qm,Qm,Zm,Zm,Zm,ih];omega
def sum_exch{β:Type}{L:List α}(nd:L.Nodup)(f:β→α)(g:β→Int):∀{xs:List β},(∀x∈xs,f x∈L)→(L.map λl=>(xs.map λx=>if f x=l then g x else 0).sum).sum=(xs.map g).sum:=by
 intro xs
 induction xs with
 |nil=>intro _;exact zdt λ_ _=>rfl
 |cons a t ih =>
  intro h
  rw[Qm,Zm,←ih λx hx=>h x (Qe _ hx),←sum_one nd (h a Qb) (g a),←zf3]
  refine zcf λl _=>?_
  rw[Qm,Zm]
def labels(aa:α→α):∀ ns:List α,∃ L:List α,L.Nodup∧(∀ x∈ns,aa x∈L)∧∀ l∈L,∃ x∈ns,aa x=l:=by
 intro ns
 induction ns with
 |nil=>exact⟨[],Zo,(by intro x h;cases h),(by intro x h;cases h)⟩
 | cons a t ih =>
  obtain⟨L,h1,h2,h3⟩:=ih
  by_cases h:aa a∈L
  ·refine ⟨L,h1,fun x hx=>?_,fun l hl=>?_⟩
   ·rcases Qg.mp hx with z | z
    ·rw[z];exact h
    ·exact h2 x z
   ·obtain ⟨x,hx,e⟩:=h3 l hl
    exact⟨x,Qe _ hx,e⟩
  ·refine ⟨aa a::L,Qq.mpr ⟨h,h1⟩,fun x hx=>?_,fun l hl=>?_⟩
   ·rcases Qg.mp hx with z | z
    ·rw[z];exact Qb
    ·exact Qe _ (h2 x z)
   ·rcases Qg.mp hl with z | z
    ·exact⟨a,Qb,z.symm⟩
    ·obtain ⟨x,hx,e⟩:=h3 l z
     exact⟨x,Qe _ hx,e⟩
def cert_flat{aa:α→α}(C:Cert ns r cs aa):Flat ns r cs:=by
 refine⟨⟨C.nd,C.ro,C.rn,C.ir,C.sy,C.cf,C.cm,C.cy⟩,λT hT hp=>?_⟩
 obtain⟨L,h1,h2,h3⟩:=labels aa ns
 have e1:(L.map λl=>wt ns r aa l).sum=(ns.map (vl r)).sum:=sum_exch h1 aa (vl r) h2
 have e2:(L.map λl=>ct cs aa l).sum=2*(cs.length:Int):=by
  have key:∀D:List (List (α×α)),(∀c∈D,c∈cs)→(L.map λl=>ct D aa l).sum=2*(D.length:Int):=by
   intro D
   induction D with
   |nil=>intro _;exact zdt λ_ _=>rfl
   | cons c D ih =>
    intro h
    have hc:=h c Qb
    obtain⟨s,t,rfl,_⟩:=C.cy c hc
    have ha:aa s.1∈L:=h2 _ (C.inn' (C.inc hc Qb))
    have hs:∀l∈L,ct ((s::t)::D) aa l=(if aa s.1=l then 2 else 0)+ct D aa l:=λl _=>by
     rw[zdq,zds (λu hu=>C.one_lab hc Qb hu) (Xa _ _)]
     congr 1
     by_cases e:aa s.1=l
     ·rw[if_pos e,if_pos (WW e)]
     ·rw[if_neg e,if_neg (λz=>e (of_decide_eq_true z))]
    rw[zcf hs,zf3,sum_one h1 ha,ih λd hd=>h d (Qe _ hd),Qv];omega
  exact key cs λ_ h=>h
 have e3:(L.map λl=>wt ns r aa l+ct cs aa l).sum=4*(L.length:Int):=by
  have:∀M:List α,(∀l∈M,l∈L)→(M.map λl=>wt ns r aa l+ct cs aa l).sum=4*(M.length:Int):=by
   intro M
   induction M with
   |nil=>intro _;rfl
   |cons a t ih =>
    intro h
    obtain⟨x,hx,e⟩:=h3 a (h a Qb)
    rw[Qm,Zm,ih λl hl=>h l (Qe _ hl),←e,C.eu x hx,Qv];omega
  exact this L λ_ h=>h
 rw[zf3,e1,e2]at e3
 have nd:(T.map aa).Nodup:=Ul.mpr (Kq (λ{x y} hx hy h e=>h (C.co x (hT x hx) y (hT y hy) e)) hp)
 have:=nd.length_le_of_subset (l₂:=L) λl hl=>by
  obtain⟨x,hx,rfl⟩:=Qj.mp hl
  exact h2 x (hT x hx)
 rw[Qa]at this
 unfold tot
 omega
end
section
variable{α:Type}[DecidableEq α]{ns:List α}{r r':α→List α}{cs:List (List (α×α))}{aa:α→α}
def cutR(r:α→List α)(v u:α):α→List α:=λx=>if x=v then(r v).erase u else if x=u then(r u).erase v else r x
def cut_less(C:Web ns r cs){v u:α}(h:u∈r v):Less r (cutR r v u) v u :=
 have dU:v≠u:=λe=>C.ir u (by rw[e]at h;exact h)
 ⟨h,if_pos rfl,(if_neg (Zn dU)).trans (if_pos rfl),λx h1 h2=>(if_neg h1).trans (if_neg h2)⟩
def sum_lt{f g:α→Nat}:∀ {l:List α},(∀ x∈l,f x≤g x)→(∃ a∈l,f a < g a)→(l.map f).sum < (l.map g).sum:=by
 intro l
 induction l with
 |nil=>rintro _ ⟨a,h,_⟩;cases h
 | cons b t ih =>
  rintro h ⟨a,ha,hl⟩
  rw[Qm,Qm,Zm,Zm]
  have h1:=h b Qb
  have h2:(t.map f).sum≤(t.map g).sum:=by
   clear ih hl ha
   induction t with
   |nil=>exact Qf _
   |cons c t ih2 =>
    rw[Qm,Qm,Zm,Zm]
    have:=h c ZM
    have:=ih2 (λx hx=>h x (by rcases Qg.mp hx with z | z<;>simp[z]))
    omega
  rcases Qg.mp ha with z | z
  ·subst z;omega
  ·have:=ih (fun x hx=>h x (Qe _ hx)) ⟨a,z,hl⟩
   omega
def genus:∀ (n:Nat) {r:α→List α} {cs:List (List (α×α))},Web ns r cs→(ns.map fun x=>(r x).length).sum=n→∃ T:List α,(∀ t∈T,t∈ns)∧T.Pairwise (fun x y=>¬ Conn r x y)∧tot ns r cs≤4*(T.length:Int):=by
 intro n
 induction n using Nat.strongRecOn with
 | ind n ih =>
  intro r cs C hn
  by_cases h:∃v u,u∈r v
  ·obtain ⟨v,u,h⟩:=h
   have L:=cut_less C h
   obtain⟨cs',W,hh⟩:=web_less C L
   have fm:∀x∈ns,(cutR r v u x).length≤(r x).length:=λx _=>by
    unfold cutR
    by_cases e1:x=v
    ·rw[if_pos e1,e1];exact List.length_erase_le ..
    ·rw [if_neg e1]
     by_cases e2:x=u
     ·rw[if_pos e2,e2];exact List.length_erase_le ..
     ·rw[if_neg e2];exact Qf _
   have ae:(ns.map λx=>(cutR r v u x).length).sum<n:=by
    rw[←hn]
    refine sum_lt fm ⟨v,C.inn h,?_⟩
    rw[L.one,Yf h]
    have:=Yd h
    omega
   obtain⟨T,h1,h2,h3⟩:=ih _ ae W rfl
   rcases hh with⟨ht,fV⟩ | ht
   ·exact⟨T,h1,h2.imp λ{x y} h hc=>h (back_less C L W.sy fV hc),by rw[←ht];exact h3⟩
   ·obtain ⟨T',g1,g2,g3⟩:=zhm C L W.sy h2
    exact⟨T',λt ht=>h1 t (g1 t ht),g2,ZO⟩
  ·have hr:∀ x,r x=[]:=fun x=>by
    cases e:r x with
    |nil=>rfl
    |cons a t=>exact absurd ⟨x,a,Z2 e Qb⟩ h
   have jy:cs=[]:=by
    cases cs with
    |nil=>rfl
    |cons c t =>
     obtain⟨s,t',rfl,_⟩:=C.cy c Qb
     have:=(C.cm s).mp (by rw[Wc];exact Qp _ Qb)
     rw[hr]at this
     cases this
   refine⟨ns,λt h=>h,C.nd.imp λ{x y} h hc=>h (conn_iso (hr x) hc).symm,?_⟩
   have:∀l:List α,(l.map (vl r)).sum=4*(l.length:Int):=by
    intro l
    induction l with
    |nil=>rfl
    |cons a t ih2 =>
     rw[Qm,Zm,ih2,Qv]
     unfold vl
     rw[if_pos (hr a),hr a,Ui]
     omega
   unfold tot
   rw[jy,this,Ui]
   omega
def Web.inc(C:Web ns r cs){c:List (α×α)}(hc:c∈cs){s:α×α}(hs:s∈c):s.1∈r s.2:=(C.cm s).mp (Zs.mpr ⟨c,hc,hs⟩)
def Web.one_lab(C:Web ns r cs)(la:∀ x y,y∈r x→aa y=aa x){c:List (α×α)}(hc:c∈cs){s u:α×α}(hs:s∈c)(hu:u∈c):aa u.1=aa s.1:=by
 obtain⟨A,B,rfl⟩:=Yl hs
 have k:=zc1 (C.cy _ hc)
 have hl:∀y,y=s∨y∈B++A→aa (st r y).1=aa y.1:=λy hy=>by
  have bQ:y∈A++s::B:=by
   rcases hy with z | z
   ·rw[z];exact hs
   ·rcases Qk.mp z with q | q
    ·exact Qh _ (Qe _ q)
    ·exact Qp _ q
  exact(la _ _ (C.inc hc bQ)).symm
 rcases Qk.mp hu with z | z
 ·exact lk_lab (lb:=λy:α×α=>aa y.1) hl k u (Qh _ z)
 ·rcases Qg.mp z with q | q
  ·rw[q]
  ·exact lk_lab (lb:=λy:α×α=>aa y.1) hl k u (Qp _ q)
def sum_filter(p:β→Bool)(f:β→Int):∀l:List β,((l.filter p).map f).sum=(l.map λx=>if p x=true then f x else 0).sum:=by
 intro l
 induction l with
 |nil=>rfl
 |cons a t ih =>
  rw[Qm,Zm]
  by_cases h:p a=true
  ·rw[Zq h,if_pos h,Qm,Zm,ih]
  ·rw[Zr h,if_neg h,ih];omega
theorem zik(p:List β→Bool):∀cs:List (List β),(cs.filter p).flatten.Sublist cs.flatten
 |[]=>List.Sublist.refl _
 | c::t=>by
  by_cases h:p c=true
  ·rw [Zq h,Wc,Wc]
   exact List.Sublist.append (List.Sublist.refl _) (zik p t)
  ·rw [Zr h,Wc]
   exact(zik p t).trans (List.sublist_append_right _ _)
def sum_two(p:β→Bool)(l:List β):(l.map λc=>if p c=true then(2:Int) else 0).sum=2*((l.filter p).length:Int):=by
 rw[←sum_filter p λ_=>2]
 induction l.filter p with
 |nil=>rfl
 |cons a t ih=>rw[Qm,Zm,ih,Qv];omega
def piece_le(C:Web ns r cs)(la:∀ x y,y∈r x→aa y=aa x)(co:∀ x∈ns,∀ y∈ns,aa x=aa y→Conn r x y)(t:α):wt ns r aa t+ct cs aa t≤4:=by
 let rt:α→List α:=λx=>if aa x=t then r x else[]
 have r1:∀{x},aa x=t→rt x=r x:=λh=>if_pos h
 have r0:∀{x},¬aa x=t→rt x=[]:=λh=>if_neg h
 have rm:∀{x y},y∈rt x↔y∈r x∧aa x=t:=λ{x y}=>by
  by_cases h:aa x=t
  ·rw[r1 h];exact⟨λz=>⟨z,h⟩,λz=>z.1⟩
  ·rw[r0 h];exact⟨λz=>(by cases z),λz=>absurd z.2 h⟩
 have hU:∀{c},c∈cs→(c.any λs=>decide (aa s.1=t))=true→∀s∈c,aa s.2=t:=λ{c} hc h s hs=>by
  obtain⟨q,hq,e⟩:=Yh.mp h
  rw[←la _ _ (C.inc hc hs),C.one_lab la hc hq hs]
  exact of_decide_eq_true e
 have W:Web (ns.filter λx=>decide (aa x=t)) rt (cs.filter λc=>c.any λs=>decide (aa s.1=t)):=by
  refine⟨C.nd.filter _,λx hx=>?_,λx=>?_,λx h=>C.ir x (rm.mp h).1,λx y h=>?_,Yx (zik _ cs) C.cf,λs=>?_,λc hc=>?_⟩
  ·by_cases h:aa x=t
   ·rw [r1 h]
    exact C.ro x λz=>hx (Zj.mpr ⟨z,WW h⟩)
   ·exact r0 h
  ·by_cases h:aa x=t
   ·rw[r1 h];exact C.rn x
   ·rw[r0 h];exact Zo
  ·obtain ⟨h1,h2⟩:=rm.mp h
   exact rm.mpr ⟨C.sy _ _ h1,(la _ _ h1).trans h2⟩
  ·rw [rm]
   constructor
   ·intro h
    obtain⟨c,hc,hs⟩:=Zs.mp h
    obtain⟨h1,h2⟩:=Zj.mp hc
    exact⟨C.inc h1 hs,hU h1 h2 s hs⟩
   ·rintro ⟨h1,h2⟩
    obtain⟨c,hc,hs⟩:=Zs.mp ((C.cm s).mpr h1)
    exact Zs.mpr ⟨c,Zj.mpr ⟨hc,Yh.mpr ⟨s,hs,WW ((la _ _ h1).trans h2)⟩⟩,hs⟩
  ·obtain ⟨h1,h2⟩:=Zj.mp hc
   refine zet (λy hy=>?_) (C.cy c h1)
   show(y.2,nxt (rt y.2) y.1)=(y.2,nxt (r y.2) y.1)
   rw[r1 (hU h1 h2 y hy)]
 have e1:((ns.filter λx=>decide (aa x=t)).map (vl rt)).sum=wt ns r aa t:=by
  rw[sum_filter]
  refine zcf λx _=>?_
  by_cases h:aa x=t
  ·rw [if_pos (WW h),if_pos h]
   unfold vl
   rw[r1 h]
  ·rw[if_neg (ZR h),if_neg h]
 have e2:=sum_two (λc:List (α×α)=>c.any λs=>decide (aa s.1=t)) cs
 obtain⟨T,h1,h2,h3⟩:=genus _ W rfl
 unfold tot at h3
 rw[e1,←e2]at h3
 have hl:T.length≤1:=by
  match T,h1,h2 with
  |[],_,_=>exact Zc _
  |[_],_,_=>exact Qf _
  | a::b::T',h1,h2 =>
   obtain⟨a1,a2⟩:=Zj.mp (h1 a Qb)
   obtain⟨b1,b2⟩:=Zj.mp (h1 b ZM)
   have a2:=of_decide_eq_true a2
   have b2:=of_decide_eq_true b2
   have key:∀{y},Conn r a y→Conn rt a y∧aa y=t:=λ{y} h=>by
    induction h with
    |refl=>exact⟨.refl,a2⟩
    |step _ hz ih=>exact⟨.step ih.1 (rm.mpr ⟨hz,ih.2⟩),(la _ _ hz).trans ih.2⟩
   exact absurd (key (co a a1 b b1 (a2.trans b2.symm))).1 ((Jk.mp h2).1 b Qb)
 have:wt ns r aa t+ct cs aa t≤4*(T.length:Int):=h3
 omega
def tot_sum(C:Web ns r cs)(la:∀ x y,y∈r x→aa y=aa x){L:List α}(h1:L.Nodup)(h2:∀ x∈ns,aa x∈L):(L.map fun l=>wt ns r aa l+ct cs aa l).sum=tot ns r cs:=by
 have e1:(L.map λl=>wt ns r aa l).sum=(ns.map (vl r)).sum:=sum_exch h1 aa (vl r) h2
 have e2:(L.map λl=>ct cs aa l).sum=2*(cs.length:Int):=by
  have key:∀D:List (List (α×α)),(∀c∈D,c∈cs)→(L.map λl=>ct D aa l).sum=2*(D.length:Int):=by
   intro D
   induction D with
   |nil=>intro _;exact zdt λ_ _=>rfl
   | cons c D ih =>
    intro h
    have hc:=h c Qb
    obtain⟨s,t,rfl,_⟩:=C.cy c hc
    have ha:aa s.1∈L:=h2 _ (C.inn (C.sy _ _ (C.inc hc Qb)))
    have hs:∀l∈L,ct ((s::t)::D) aa l=(if aa s.1=l then 2 else 0)+ct D aa l:=λl _=>by
     rw[zdq,zds (λu hu=>C.one_lab la hc Qb hu) (Xa _ _)]
     congr 1
     by_cases e:aa s.1=l
     ·rw[if_pos e,if_pos (WW e)]
     ·rw[if_neg e,if_neg (λz=>e (of_decide_eq_true z))]
    rw[zcf hs,zf3,sum_one h1 ha,ih λd hd=>h d (Qe _ hd),Qv];omega
  exact key cs λ_ h=>h
 rw[zf3,e1,e2]
 rfl
def all_four{g:α→Int}:∀ {L:List α},(∀ l∈L,g l≤4)→4*(L.length:Int)≤(L.map g).sum→∀ l∈L,g l=4:=by
 intro L
 induction L with
 |nil=>intro _ _ l hl;cases hl
 | cons a t ih =>
  intro h hs l hl
  rw[Qm,Zm,Qv]at hs
  have ha:=h a Qb
  have ht:(t.map g).sum≤4*(t.length:Int):=by
   clear ih hs hl ha
   induction t with
   |nil=>exact Int.le_refl _
   |cons b t ih =>
    rw[Qm,Zm,Qv]
    have:=h b ZM
    have:=ih λx hx=>h x (by rcases Qg.mp hx with z | z<;>simp[z])
    omega
  rcases Qg.mp hl with z | z
  ·rw[z];omega
  ·exact ih (λx hx=>h x (Qe _ hx)) ZO l z
def flat_cert(F:Flat ns r cs):∃aa,Cert ns r cs aa:=by
 have C:=F.toWeb
 let f:α→Option α:=λx=>ns.find? λy=>@decide (Conn r x y) (Classical.propDecidable _)
 have hf:∀{x},x∈ns→∃y,f x=some y∧y∈ns∧Conn r x y:=λ{x} hx=>by
  cases e:f x with
  |none=>exact absurd (@decide_eq_true _ (Classical.propDecidable _) (Conn.refl (r:=r) (x:=x))) (List.find?_eq_none.mp e x hx)
  |some y =>
   have h:=List.find?_some (p:=λy=>@decide (Conn r x y) (Classical.propDecidable _)) e
   exact⟨y,rfl,List.mem_of_find?_eq_some e,@of_decide_eq_true _ (Classical.propDecidable _) h⟩
 have hs:∀{x y},Conn r x y→f x=f y:=λ{x y} h=>by
  show ns.find? _=ns.find? _
  congr 1
  funext z
  congr 1
  exact propext ⟨λq=>(h.symm C.sy).trans q,λq=>h.trans q⟩
 let aa:α→α:=λx=>(f x).getD x
 have hl:∀{x},x∈ns→aa x∈ns∧Conn r x (aa x):=λ{x} hx=>by
  obtain⟨y,e,h1,h2⟩:=hf hx
  show(f x).getD x∈ns∧Conn r x ((f x).getD x)
  rw[e];exact⟨h1,h2⟩
 have he:∀{x y},x∈ns→y∈ns→Conn r x y→aa x=aa y:=λ{x y} hx hy h=>by
  obtain⟨z,e,_⟩:=hf hy
  show(f x).getD x=(f y).getD y
  rw[hs h,e];rfl
 have la:∀x y,y∈r x→aa y=aa x:=λx y h=>(he (C.inn h) (C.inn (C.sy _ _ h)) (.step .refl h)).symm
 have co:∀x∈ns,∀y∈ns,aa x=aa y→Conn r x y:=λx hx y hy e=>by
  have h1:=(hl hx).2
  rw[e]at h1
  exact h1.trans ((hl hy).2.symm C.sy)
 obtain⟨L,h1,h2,h3⟩:=labels aa ns
 have hL:∀l∈L,l∈ns∧aa l=l:=λl hl'=>by
  obtain⟨x,hx,e⟩:=h3 l hl'
  obtain⟨a,b⟩:=hl hx
  refine⟨e▸a,?_⟩
  have:=he hx a b
  rw[e]at this
  exact this.symm
 have fl:=F.fl L (λl h=>(hL l h).1) (Kq (λ{x y} hx hy qC hc=>qC (by
  have:=he (hL x hx).1 (hL y hy).1 hc
  rwa[(hL x hx).2,(hL y hy).2]at this)) h1)
 rw[←tot_sum C la h1 h2]at fl
 have four:=all_four (λl _=>piece_le C la co l) fl
 exact⟨aa,C.nd,C.ro,C.rn,C.ir,C.sy,C.cf,C.cm,C.cy,λx hx=>(hl hx).1,la,co,λx hx=>four _ (h2 x hx)⟩
def cert_less(C:Cert ns r cs aa)(L:Less r r' v u):∃cs' ah,Cert ns r' cs' ah:=by
 obtain⟨cs',F⟩:=flat_less (cert_flat C) L
 obtain⟨ah,C'⟩:=flat_cert F
 exact⟨cs',ah,C'⟩
end
section
variable{α:Type}[DecidableEq α]
def good_less{rs r1:Rs α}{u v:α}(G:Good rs)(h:u∈row rs v)(hn:r1.map (·.1)=rs.map (·.1))(hv:row r1 v=(row rs v).erase u)(hu:row r1 u=(row rs u).erase v)(ho:∀y,y≠v→y≠u→row r1 y=row rs y):Good r1:=by
 obtain⟨cs,aa,C⟩:=G
 obtain⟨cs',ah,C'⟩:=cert_less C (v:=v) (u:=u) (r':=row r1) ⟨h,hv,hu,ho⟩
 exact⟨cs',ah,Z2 hn C'⟩
end
end Wb
namespace K21
open PySem L2 Wb
abbrev zcl:Stmt:=top 53
abbrev csUa:Scope:=scOf (eOf (sAt zcl 0))
abbrev csUb:Scope:=scOf (eOf (bAt (sAt zcl 1) 2))
abbrev csUc:Scope:=scOf (eOf (bAt (sAt zcl 1) 3))
def csUa_f:∀y∈csUa.names,y.2=.free→(zag zcl).names.lookup y.1=some .cell∨(zag zcl).names.lookup y.1=some .free:=by decide +kernel
def csUa_l:csUa.names.lookup (qR:Str)=some NameKind.free:=by decide +kernel
def csUb_f:∀y∈csUb.names,y.2=.free→(zag zcl).names.lookup y.1=some .cell∨(zag zcl).names.lookup y.1=some .free:=by decide +kernel
def csUb_l:csUb.names.lookup (qO:Str)=some NameKind.free:=by decide +kernel
def csUc_f:∀y∈csUc.names,y.2=.free→(zag zcl).names.lookup y.1=some .cell∨(zag zcl).names.lookup y.1=some .free:=by decide +kernel
def csUc_l:csUc.names.lookup ("_law_one" : Str)=some NameKind.free:=by decide +kernel
def ndUb:(["_law_place",qO]:List Str).Nodup:=by decide +kernel
def ndUc:(["_law_place", "_law_one"]:List Str).Nodup:=by decide +kernel
def zhi{l:Nf}{x:Str}(nd:l.Nodup):(l.map V.str).filter (λv=>!decide (v=V.str x))=(l.erase x).map V.str:=by
 rw[nd.erase_eq_filter,Ji]
 congr 1
 refine Kl λa _=>?_
 show(!decide (V.str a=V.str x))=(a != x)
 by_cases h:a=x
 ·rw[h,decide_eq_true rfl,bne_self_eq_false];rfl
 ·rw [decide_eq_false (fun z=>h (by injection z))]
  exact(bne_iff_ne.mpr h).symm
section
variable{P:Ni}{w:Nk}{K:Na}{mg:Nd}{base:Nm}
def zfv:zak [qR,qP, "_law_some", "_law_one",qO] [qR,qP] (zag zcl):=fsk
def ok_untied(F:Fun K "_law_untied" "_law_untied" zcl f fd)(GT:ZI "_law_take" [qP,qM] 1 zf5)(af:mg "len" = none):ZC 2 f fd [qR,qP] zf6:=by
 refine F.okL zfv (λcdv A outer s0 H0 vs Q E hr h=>?_)
 obtain⟨p,d,b,m,es,rfl,hp,D0,kq⟩:=h
 have R:=D0.ra
 have aO:=D0.few
 have hu:=zcd hr
 have dj:=Kk hu
 have am:Room 1 _:=hr.mono ZU
 have aw:=sizeLine_eq
 refine⟨_,zad (zh8 (ps_lc (i:=2) (M:=["_law_place",qR]) (ix:=[none,QB 0]) zfv.nd rfl rfl ⟨by rfl,by decide +kernel,by decide +kernel,csUa_f,rfl,ndCr,λj i x h1 h2=>by
     match j,h1,h2 with
     |0,_,h2=>cases h2
     |1,h1,h2=>cases h1;cases h2;exact⟨rfl,csUa_l⟩
     |n+2,h1,_=>cases h1⟩ rfl (ze2 QH) (λC a7 ex s H=>zan 0 ndCr)
    (λC a7 ex s H=>zco (zaq (zg9 (K:=K) rfl dj) (zb1 (by exact hu) QQ QH) (zbk zae) (zbe _))) (λC a7 ex s H=>pv 0) rfl))
  (zah (zb0 (zaq (zdm dj) Q8 (zbk zae) (zbe _))
   (zad (zff (i:=3) zfv.nd rfl (Or.inr rfl) (za2 za0 Q8 (W5 1 (zal zat Q4 af Yj (Z0 2))) QC))
   (zad (zff (i:=4) zfv.nd rfl (Or.inr rfl) (za2 za0 (zb1 hu QH (pv 3)) (W5 1 (zal zat Q4 af Yj (zaa (zb1 hu QH (pv 3)) zae))) QC))
   (zad (zb5 hu QH (pv 3) (zgd (M:=["_law_place",qO]) (ix:=[none,QB 4]) ⟨by rfl,by decide +kernel,by decide +kernel,csUb_f,rfl,ndUb,λj i x h1 h2=>by
     match j,h1,h2 with
     |0,_,h2=>cases h2
     |1,h1,h2=>cases h1;cases h2;exact⟨rfl,csUb_l⟩
     |n+2,h1,_=>cases h1⟩ rfl (zao (zb1 hu QH (pv 3))) (λC a7 ex s H=>zan 0 ndUb)
     (λC a7 ex s H=>zco (zaq op_ne QH QQ (zbe _))) (λC a7 ex s H=>pv 0)) rfl)
   (zah (zb5 hu QH (pv 4) (zgd (M:=["_law_place", "_law_one"]) (ix:=[none,QB 3]) ⟨by rfl,by decide +kernel,by decide +kernel,csUc_f,rfl,ndUc,λj i x h1 h2=>by
     match j,h1,h2 with
     |0,_,h2=>cases h2
     |1,h1,h2=>cases h1;cases h2;exact⟨rfl,csUc_l⟩
     |n+2,h1,_=>cases h1⟩ rfl (zao (zb1 hu QH (pv 4))) (λC a7 ex s H=>zan 0 ndUc)
     (λC a7 ex s H=>zco (zaq op_ne QH QQ (zbe _))) (λC a7 ex s H=>pv 0)) rfl)))))
   zas)),?_⟩
 have nfz:∀o' u',H0 d≠some (.frz o' u'):=λo' u' z=>by rw[R.dc]at z;cases z
 refine zie (λ σ' H2=>Ex2 λ(D:Nb) (G:Nf)=>Aj5 (σ'=[ZP d,ZP p,ZP D,none,none]) (H2 D=some (QZ (G.map V.str))) (∀y,y∈G→∃e∈es,e.1=y∧e.2.1≠[]) (G.length≤16) (ZE H0 H2)) (λD' bK=>some_ok R aO nfz λD G H' a b c k=>bK _ _ ⟨D,G,rfl,a,b,c,k⟩) ?_
 rintro σ' H2 ⟨D,G,rfl,cY,hG,kR,k2⟩
 dsimp only
 have D2:=D0.k0 k2
 have cC:=hp.keep k2 ZM
 have none':∀(b1 m1:Int) (H1:Hp),Pot H1 p b1 m1→DrE H1 d es→Keep [p] H0 H1→Q .non H1:=λb1 m1 H1 gn D1 k1=>kq b1 m1 es H1 gn D1 rfl (k1.sub ZM)
 refine⟨W7,(ZS 0),λq hq=>?_⟩
 have nDq:D≠q:=zab cY hq
 refine⟨D,q,W7,rfl,Z4 (by rw[zaf nDq];exact cY),Z4 zac,W7,?_⟩
 have k3:ZE H2 (upd H2 q WQ):=Keep.new hq
 have bV:=(zaf (o:=.lst []) nDq).trans cY
 generalize upd H2 q WQ=H3 at k3 bV
 have D3:=D2.k0 k3
 have c7:=cC.keep k3 ZM
 have dR:=k2.trans k3
 rw[if_pos rfl]
 cases G with
 |nil=>exact zbl rfl (none' b m H3 c7 D3 (dR.sub ZM))
 | cons g0 gt =>
  refine zbs rfl ?_
  generalize tQ:g0::gt=G at bV hG kR
  have hGp:0<G.length:=by rw[←tQ];simp
  have aG:(G.map V.str).length=G.length:=Qa ..
  refine⟨W7,W7,W7,D,W7,.inl (Z4 bV),p,b,m,W7,c7,QS aG,QS aG,λj4 b4 m4 H4 jJ nZ bz iM=>?_⟩
  obtain⟨j4,rfl⟩:=Zp jJ
  rw[aG]at nZ
  have my:j4<G.length:=by omega
  have k4:=zbb iM
  have kS:=k4 _ _ bV (by simpa using zga c7 bV)
  have D4:=D3.pot c7 k4
  have de:Keep [p] H0 H4:=(dR.sub ZM).trans k4
  refine⟨D,_,_,W7,rfl,Z4 kS,zax (by rw[Qo,Qc my];rfl),?_⟩
  obtain⟨e0,ci,tZ,jk⟩:=hG G[j4] (Qs my)
  rw[←tZ]
  have g4:DGet H4 d (.str e0.1) (QB (.ref e0.2.2)):=zb3 D4.ra.nd ci▸DGet.k (k:=Sum.inr e0.1) D4.ra.dc
  have eV:=D4.ra.ro e0 ci
  have rq:=D4.row e0 ci
  have iY:0<e0.2.1.length:=Uo.mpr jk
  have ce:(e0.2.1.map V.str).length=e0.2.1.length:=Qa ..
  refine⟨W7,W7,d,W7,g4,W7,W7,W7,d,W7,g4,e0.2.2,W7,.inl (Z4 eV),p,b4,m4,W7,bz,QS ce,QS ce,λj5 b5 m5 H5 nY nX aP i7=>?_⟩
  obtain⟨j5,rfl⟩:=Zp nY
  rw[ce]at nX
  have mx:j5<e0.2.1.length:=by omega
  have k5:=zbb i7
  have D5:=D4.pot bz k5
  have eU:=D5.ra.ro e0 ci
  have gf:=de.trans k5
  refine⟨e0.2.2,_,_,W7,rfl,Z4 eU,zax (by rw[Qo,Qc mx];rfl),?_⟩
  obtain⟨cs,aa,C⟩:=D5.cert
  have gq:e0.2.1[j5]∈e0.2.1:=Qs mx
  have lR:e0.2.1[j5]∈ZG e0.1:=by rw[zaw C.nd ci];exact gq
  generalize e0.2.1[j5]=ot at gq lR
  obtain⟨e1,aY,q1⟩:=Qj.mp (C.inn' lR)
  have cH:e1.1=ot:=q1
  subst cH
  have cz:∀e∈es,e.2.1.Nodup:=λe he=>by have:=C.rn e.1;rw[zaw C.nd he]at this;exact this
  have n01:e0.1≠e1.1:=λz=>by
   have:=C.ir e0.1
   rw[zaw C.nd ci]at this
   exact this (z▸gq)
  have ndp:p≠d:=Zn (pot_nd aP D5.ra.dc)
  have g5:DGet H5 d (.str e0.1) (QB (.ref e0.2.2)):=zb3 D5.ra.nd ci▸DGet.k (k:=Sum.inr e0.1) D5.ra.dc
  refine⟨W7,W7,d,W7,g5,e0.2.2,rfl,⟨_,Z4 eU⟩,ze4 (xs:=e0.2.1.map V.str) (λ τ=>∃x0,τ=[x0,QB (.str e1.1)]) (λv=>!decide (v=V.str e1.1)) (Z4 eU) (QS ce) ⟨none,rfl⟩ ?_ (λl6 dC=>?_)⟩
  ·rintro x hx τ ⟨x0,rfl⟩ kk1 kk0 gT mq
   obtain⟨a,ha,rfl⟩:=Qj.mp hx
   refine⟨W7,W7,rfl,W7,?_⟩
   show if(!decide (V.str a=V.str e1.1))=true then _ else _
   cases hb:(!decide (V.str a=V.str e1.1)) with
   |true=>exact zbs rfl ⟨_,rfl,gT hb _ ⟨_,rfl⟩⟩
   |false=>exact zbl rfl (mq hb _ ⟨_,rfl⟩)
  rw[zhi (cz e0 ci)]
  have k6:ZE H5 (ZW H5 l6 ((e0.2.1.erase e1.1).map V.str)):=Keep.new dC
  have g6:(ZW H5 l6 ((e0.2.1.erase e1.1).map V.str)) l6=some (QZ ((e0.2.1.erase e1.1).map V.str)):=zac
  generalize upd H5 l6 (QZ ((e0.2.1.erase e1.1).map V.str))=H6 at k6 g6
  have D6:=D5.k0 k6
  have bj:=aP.keep k6 ZM
  refine⟨W7,W7,d,W7,DPut.k (k:=Sum.inr e0.1) D6.ra.dc (QS Qa),?_⟩
  have R7:=rat_set D6.ra (Qj.mpr ⟨e0,ci,rfl⟩) g6
  have k7:Keep [d] H6 (upd H6 d (.dK (putK (eWV es) (Sum.inr e0.1) (ZZ l6)))):=Keep.wr Qb
  generalize upd H6 d (.dK (putK (eWV es) (Sum.inr e0.1) (ZZ l6)))=H7 at R7 k7
  have aV:=bj.keep k7 (ZR ndp)
  have jx:e1∈setE es e0.1 (e0.2.1.erase e1.1) l6:=mem_setE aY (Zn n01)
  have g7:DGet H7 d (.str e1.1) (QB (.ref e1.2.2)):=zb3 R7.nd jx▸DGet.k (k:=Sum.inr e1.1) R7.dc
  have lM:=R7.ro e1 jx
  have hrl1:=D6.row e1 aY
  have se:(e1.2.1.map V.str).length=e1.2.1.length:=Qa ..
  refine⟨W7,W7,d,W7,g7,e1.2.2,rfl,⟨_,Z4 lM⟩,ze4 (xs:=e1.2.1.map V.str) (λ τ=>∃x0,τ=[x0,QB (.str e0.1)]) (λv=>!decide (v=V.str e0.1)) (Z4 lM) (QS se) ⟨none,rfl⟩ ?_ (λl8 kD=>?_)⟩
  ·rintro x hx τ ⟨x0,rfl⟩ kk1 kk0 gT mq
   obtain⟨a,ha,rfl⟩:=Qj.mp hx
   refine⟨W7,W7,rfl,W7,?_⟩
   show if(!decide (V.str a=V.str e0.1))=true then _ else _
   cases hb:(!decide (V.str a=V.str e0.1)) with
   |true=>exact zbs rfl ⟨_,rfl,gT hb _ ⟨_,rfl⟩⟩
   |false=>exact zbl rfl (mq hb _ ⟨_,rfl⟩)
  rw[zhi (cz e1 aY)]
  have k8:ZE H7 (ZW H7 l8 ((e1.2.1.erase e0.1).map V.str)):=Keep.new kD
  have g8:(ZW H7 l8 ((e1.2.1.erase e0.1).map V.str)) l8=some (QZ ((e1.2.1.erase e0.1).map V.str)):=zac
  generalize upd H7 l8 (QZ ((e1.2.1.erase e0.1).map V.str))=H8 at k8 g8
  have R8:RAt H8 d _:=R7.keep k8 ZM λ_ _=>by simp
  have bi:=aV.keep k8 ZM
  refine⟨W7,W7,d,W7,DPut.k (k:=Sum.inr e1.1) R8.dc (by unfold setE;rw[List.length_map,List.length_map];omega),?_⟩
  have R9:=rat_set R8 (Qj.mpr ⟨e1,jx,rfl⟩) g8
  have k9:Keep [d] H8 (upd H8 d (.dK (putK ((setE es e0.1 (e0.2.1.erase e1.1) l6).map λe=>WO) (Sum.inr e1.1) (ZZ l8)))):=Keep.wr Qb
  generalize upd H8 d (.dK (putK ((setE es e0.1 (e0.2.1.erase e1.1) l6).map λe=>WO) (Sum.inr e1.1) (ZZ l8)))=H9 at R9 k9
  refine kq b5 m5 _ H9 (bi.keep k9 (ZR ndp)) ⟨R9,?_,by unfold setE;rw[List.length_map,List.length_map];exact aO⟩ (by rw[zb2,zb2]) (((((gf.sub ZM).trans (k6.sub ZM)).trans (k7.sub ZM)).trans (k8.sub ZM)).trans (k9.sub ZM))
  rw[zcz,zcz]
  have h0n:e0.1∈(rsOf es).map (·.1):=by rw[zbi];exact Qj.mpr ⟨e0,ci,rfl⟩
  have h1n:e1.1∈(rsOf es).map (·.1):=by rw[zbi];exact Qj.mpr ⟨e1,aY,rfl⟩
  refine good_less D5.gd (v:=e0.1) (u:=e1.1) lR (by rw[zbt,zbt]) ?_ ?_ λy h1 h2=>by rw[za6 h2,za6 h1]
  ·rw[za6 n01,za9 h0n,zaw C.nd ci]
  ·rw[za9 (Z2 zbt h1n),zaw C.nd aY]
end
end K21
end
section
namespace L2
open PySem PySem.Spec PyProof.Rows
section
variable{M:Model}{A:No}{E:Nc}{s:Nh}{B:Nm}{env:Env}{outer:List Env}{L e:Nb}{cls a0:Value}{R:Obj→Prop}{Q:Unit→Shared→Prop}
end
section
variable{P:Ni}{w:Nk}{K:Na}{mg:Nd}{base:Nm}{N ps:Nf}{qual:Str}{scope:Scope}{f:Nb}{cd:Value}{A:No}{outer:List Env}{s:Nh}{H:Hp}{E:XK}
end
section
variable{X:Cx}{CX:CXT}{k:Nat}{f C:Nb}{fd:Nr}{ps:Nf}{sp:Sp}{dvs:List V}{ds:Nj}{E:St→XK}{x m:Str}{p pos apos:Pos}{e o:Expr}{es:Np}{ta:TE}{t:TA}
end
section
variable{X:Cx}{a7:Ng}{σ:St}{H:Hp}{s:Nh}{E:Nc}{a:Nb}
end
end L2
end
section
namespace L2
open PySem PySem.Spec PyProof.Rows PySem.W PySem.Builtin PySem.Builtin.ObjectAttr PySem.Builtin.Getset_descriptor
section
variable{prog:Ni}{w:Nk}{A:No}{E:Nc}{s:Nh}{K:Na}{x D:Nb}
end
section
variable{X:Cx}
end
section
variable{X:Cx}{k:Nat}{f:Nb}{fd:Nr}{ps:Nf}{sp:Sp}{dvs:List V}{ds:Nj}{x:Str}{p pos:Pos}{e:Expr}{es:Np}{t:TA}
end
end L2
end
section
namespace L2
open PySem PySem.Spec PyProof.Rows
section
variable{X:Cx}
end
end L2
end
section
namespace K21
open PySem L2 Wb
abbrev sNames:Stmt:=top 45
abbrev iV(n:Nat):V:=.int (n:Int)
abbrev qwe:Str := "qwertyuiopasdfghjklzxcvbnm"
def qL(i:Nat):Nat:=qwe.cps.toList.getD i 0
def bitF:Nat→Nat→List Nat
 |0,_=>[]
 |f+1,n=>if n=0 then[] else bitF f ((n-1)/2)++[(n-1)%2]
theorem bitF_zero:∀f,bitF f 0=[]
 |0=>rfl
 |_+1=>rfl
def bit_nd:((List.range 42).map λi=>bitF i i).Nodup:=by decide +kernel
def bit_ok:∀i<42,(bitF i i).length≤8∧(1≤i→1≤(bitF i i).length)∧∀c∈bitF i i,c<2:=by decide +kernel
def stepS:List Nat:=[1,3,5,7,9,11]
def qL_ok:∀i<26,97≤qL i∧qL i≤122:=by decide +kernel
def qL_nd:((List.range 26).map qL).Nodup:=by decide +kernel
def qL_inj{a b:Nat}(ha:a<26)(hb:b<26)(h:qL a=qL b):a=b:=by
 refine(Wa (h₀:=by rw[Qa,Yi];exact ha) (h₁:=by rw[Qa,Yi];exact hb) qL_nd).mp ?_
 rw[Zl,Zl,Uf,Uf]
 exact h
def qwe_len:qwe.length=26:=by decide +kernel
def str_len(z:Str):z.cps.toList.length=z.length:=by simp[Str.length]
def zir(a b:Str):(a++b).cps.toList=a.cps.toList++b.cps.toList:=by
 show(a.cps++b.cps).toList=_
 simp
def app_len(a b:Str):(a++b).length=a.length+b.length:=by
 rw[←str_len,←str_len,←str_len,zir,Qy]
def qL_at{x:Nat}(h:x<26):atI qwe.cps.toList (x:Int)=some (qL x):=by
 refine zax ?_
 have hl:qwe.cps.toList.length=26:=by rw[str_len];exact qwe_len
 unfold qL
 rw[Zb,Qc ZO];rfl
def step_inj{s b a c:Nat}(hs:s∈stepS)(ha:a<26)(hc:c<26)(h:(b+s*a)%26=(b+s*c)%26):a=c:=by
 simp[stepS]at hs
 rcases hs with rfl | rfl | rfl | rfl | rfl | rfl<;>omega
def wrd(b s n:Nat):List Nat:=(bitF n n).map λd=>qL ((b+s*d)%26)
theorem zhe{f:Nat→Nat}:∀{l m:List Nat},(∀x∈l,∀y∈m,f x=f y→x=y)→l.map f=m.map f→l=m
 |[],[],_,_=>rfl
 |[],_::_,_,h=>by cases h
 |_::_,[],_,h=>by cases h
 |x::l,y::m,i,h=>by
  rw[Qm,Qm]at h
  injection h with h1 h2
  rw[i x Qb y Qb h1,zhe (λa ha c hc=>i a (Qe _ ha) c (Qe _ hc)) h2]
def wrd_inj{b s m n:Nat}(hs:s∈stepS)(hm:m<42)(hn:n<42)(h:wrd b s m=wrd b s n):m=n:=by
 have e:bitF m m=bitF n n:=zhe (λx hx y hy z=>by
  have h1:=(bit_ok m hm).2.2 x hx
  have h2:=(bit_ok n hn).2.2 y hy
  exact step_inj (b:=b) hs ZO ZO (qL_inj (Uw _ ZU) (Uw _ ZU) z)) h
 refine(Wa (h₀:=by rw[Qa,Yi];exact hm) (h₁:=by rw[Qa,Yi];exact hn) bit_nd).mp ?_
 rw[Zl,Zl,Uf,Uf]
 exact e
def wrd_ok{b s n:Nat}(hn:n<42)(h1:1≤n):1≤(wrd b s n).length∧(wrd b s n).length≤8∧∀c∈wrd b s n,97≤c∧c≤122:=by
 unfold wrd
 rw[Qa]
 refine⟨(bit_ok n hn).2.1 h1,(bit_ok n hn).1,λc hc=>?_⟩
 obtain⟨d,_,rfl⟩:=Qj.mp hc
 exact qL_ok _ (Uw _ ZU)
theorem mul_cps(c:Nat):∀n:Nat,n≤8→(Txt.mul (⟨#[c]⟩:Str) (n:Int)).cps.toList=List.replicate n c
 |0,_=>rfl
 |1,_=>rfl
 |2,_=>rfl
 |3,_=>rfl
 |4,_=>rfl
 |5,_=>rfl
 |6,_=>rfl
 |7,_=>rfl
 |8,_=>rfl
 |n+9,h=>by omega
inductive IspNames(vs:List V)(H:Hp)(Q:VK):Prop
 |mk (p:Nb) (b m:Int) (n:Nat) (h0:vs=[.ref p,iV n]) (h1:Pot H p b m) (h2:n≤16) (h3:∀(l:Nb) (zs:Nf) (b' m':Int) (H':Hp),H' l=some (.lst (zs.map V.str))→zs.length=n→zs.Nodup→(∀z∈zs,zfm z)→Pot H' p b' m'→H l=none→Keep [p] H H'→Q (.ref l) H'):IspNames vs H Q
def spNames:Sp:=λvs H Q _=>IspNames vs H Q
section
variable{P:Ni}{w:Nk}{K:Na}{mg:Nd}{base:Nm}
def zcc:zak [qP,qM, "_law_letters", "_law_step", "_law_begin", "_law_found", "_law_k", "_law_word", "_law_number", "_law_digit", "_law_sign"] [qP,qM] (zag sNames):=fsk
def ok_names(F:Fun K "_law_names" "_law_names" sNames f fd)(GT:ZI "_law_take" [qP,qM] 1 zf5)(aR:mg "range" = none)(dm:mg "divmod" = none):ZC 2 f fd [qP,qM] spNames:=by
 refine F.okL zcc QG
 obtain⟨p,b,m,n,rfl,hp,hn,k⟩:=h
 have aw:=sizeLine_eq
 have am:Room 1 _:=hr.mono ZU
 refine⟨_,zad (zar 2 zcc.nd pe_str)
  (zad (zar 3 zcc.nd (za2 za0 (zbk (zaa zai (zaa zai (zaa zai (zaa zai (zaa zai (zaa zai zae))))))) (W5 0 zai) QC))
  (zad (zar 4 zcc.nd (W5 0 zai))
  (zad (zar 5 zcc.nd (zbk zae))
  (zad (zb0 (zaq op_eq (W5 0 zai) zai (zbe _))
   (zad (zba Ze rfl (zci rfl aR (Z0 1)) (zan 6 zcc.nd)
    (zad (zar 7 zcc.nd pe_str)
    (zad (zar 8 zcc.nd (za1 zb7 (za1 zb7 (pv 4) (pv 6)) zai))
    (zad (zem Ze (zaq op_gt (pv 8) zai (zbe _))
     (zad (zd1 (zal zgr Q4 dm PyProof.Rows.boot_divmod (zaa (za1 zdl (pv 8) zai) (zaa zai zae))) (zcp rfl (zaj (zan 8 zcc.nd) (zaj (zan 9 zcc.nd) zbq))))
     (zah (zar 7 zcc.nd (za1 zhc (za2 ix_str Q8 (za1 zfg (za1 zb7 (pv 4) (za1 zgg (pv 3) (pv 9))) zai) QC) (pv 7))))))
    (zah (zbj (zfn Zy Yr Yq zb8 (pv 5) (Z0 7))))))))
   (zah (zau (pv 5)))) zas)
  (zad (zba Ze rfl (zci rfl aR (Z0 1)) (zan 6 zcc.nd)
   (zad (zar 10 zcc.nd (za2 ix_str pe_str (W5 0 zai) QC))
   (zah (zbj (zfn Zy Yr Yq zb8 (pv 5) (zaa (za1 zhc (za2 ix_str Q8 (za1 zfg (za1 zb7 (pv 4) (za1 zgg (pv 3) (pv 6))) zai) QC) (za1 op_mul_str (pv 10) (W5 0 zai))) zae))))))
  (zah (zau (pv 5)))))))),?_⟩
 refine⟨(ZS 6),λq hq=>?_⟩
 have k1:ZE H (upd H q (.lst [W6 1,W6 3,W6 5,W6 7,W6 9,W6 11])):=Keep.new hq
 have cQ:(upd H q (.lst [W6 1,W6 3,W6 5,W6 7,W6 9,W6 11])) q=some (.lst [W6 1,W6 3,W6 5,W6 7,W6 9,W6 11]):=zac
 have nqp:q≠p:=Zn (zab hp.1 hq)
 generalize upd H q (.lst [W6 1,W6 3,W6 5,W6 7,W6 9,W6 11])=H1 at k1 cQ
 have gn:=hp.keep k1 ZM
 refine⟨W7,p,b,m,6,rfl,gn,ZU,ZU,λd2 b2 m2 H2 h20 h21 cC kp2=>?_⟩
 have bZ:=kp2 _ _ cQ nqp
 have k2:Keep [p] H H2:=(k1.sub ZM).trans (zbb kp2)
 obtain⟨st,dL,ap⟩:∃st:Nat,atI [V.int 1,V.int 3,V.int 5,V.int 7,V.int 9,V.int 11] d2=some (iV st)∧st∈stepS:=by
  obtain⟨jn,rfl⟩:=Zp h20
  have hj:jn<6:=by omega
  have:∀j:Fin 6,∃bb∈stepS,[V.int 1,V.int 3,V.int 5,V.int 7,V.int 9,V.int 11][j.1]?=some (iV bb):=by decide
  obtain⟨bb,h1,h2⟩:=this ⟨jn,hj⟩
  exact⟨bb,zax h2,h1⟩
 have hst2:st≤11:=by
  have:∀x∈stepS,x≤11:=by decide
  exact this st ap
 refine⟨q,_,_,iV st,rfl,rfl,Z4 bZ,dL,?_⟩
 refine⟨W7,p,b2,m2,26,rfl,cC,ZU,ZU,λd3 b3 m3 H3 h30 h31 c7 qp=>?_⟩
 obtain⟨bg,rfl⟩:=Zp h30
 have hbg:bg<26:=by omega
 have k3:=k2.trans (zbb qp)
 refine⟨(ZS 0),λl hl=>?_⟩
 have nlp:l≠p:=Zn (zab c7.1 hl)
 have flH:H l=none:=zav k3 hl (ZR nlp)
 have k4:Keep [p] H (upd H3 l WQ):=k3.trans (QD hl)
 have bz:Pot (upd H3 l WQ) p b3 m3:=c7.keep (xs:=[]) (QD hl) ZM
 have dD:(upd H3 l WQ) l=some (QZ (([]:List Str).map V.str)):=zac
 generalize upd H3 l WQ=H4 at k4 bz dD
 refine⟨W7,p,b3,m3,3,rfl,bz,ZU,ZU,λd5 b5 m5 H5 nY nX aP i7=>?_⟩
 have k5:=k4.trans (zbb i7)
 have cD:=i7 _ _ dD nlp
 refine⟨rfl,W7,?_⟩
 have lX:∀{zs:Nf} {i:Nat},zs.length=i→i<n→(zs.map V.str).length<sizeLine:=λh1 h2=>by rw[Qa];omega
 refine ite2 (λ_=>?_) (λ_=>?_)
 ·refine ⟨_,rfl,(n:Int),rfl,ZO,ZO,?_⟩
  rw[Wv]
  refine zct (lo:=0) (λi σ H'=>Aj4 (Ex5 λx6 x7 x8 x9 hZ=>σ=[ZP p,QB (iV n),QB (.str qwe),QB (iV st),QB (iV bg),ZP l,x6,x7,x8,x9,hZ]) (Keep [p] H H') (Pot H' p b5 m5) (Ex1 λzs:List Str=>Aj2 (H' l=some (.lst QN)) (zs.map (·.cps.toList)=(List.range i).map (λk=>wrd bg st (bg+k+1)))))
   ⟨⟨_,_,_,_,_,rfl⟩,k5,aP,[],cD,rfl⟩ ?_ ?_
  ·rintro i σ H7 hi ⟨⟨x6,x7,x8,x9,hZ,rfl⟩,k7,aV,zs,bo,cr⟩
   have bH:zs.length=i:=by
    have:=congrArg List.length cr
    rwa[Qa,Qa,Yi]at this
   refine⟨W7,W7,_,W7,rfl,_,W7,rfl,?_⟩
   have e8:(bg:Int)+(0+(i:Int))+1=((bg+i+1:Nat):Int):=by omega
   rw[e8]
   refine⟨λm σ H'=>Ex3 λ(c f:Nat) (z:Str)=>Aj7 (m=c) (Ex1 λx9=>σ=[ZP p,QB (iV n),QB (.str qwe),QB (iV st),QB (iV bg),ZP l,QB (W6 (0+(i:Int))),QB (.str z),QB (iV c),x9,hZ]) (ZE H7 H') (c≤f) ((bitF f c).map (λd=>qL ((bg+st*d)%26))++z.cps.toList=wrd bg st (bg+i+1)) (z.length+c≤bg+i+1) True,
    ⟨bg+i+1,bg+i+1,bg+i+1, "",rfl,⟨_,rfl⟩,Keep.refl,QK,by show _++[]=_;rw[Zw];rfl,by show 0+_≤_;omega,trivial⟩,?_⟩
   rintro m σ H8 ⟨c,f,z,rfl,⟨x9,rfl⟩,k8,hcf,he,hzl2,_⟩
   refine⟨W7,_,W7,rfl,W7,?_⟩
   by_cases h0:m=0
   ·subst h0
    refine zbl (decide_eq_false ZO) ?_
    rw[bitF_zero]at he
    refine⟨W7,.inl ⟨rfl,_,Z4 (k8 _ _ bo ZM)⟩,W7,l,_,W7,rfl,k8 _ _ bo ZM,lX bH hi,?_⟩
    refine⟨⟨_,_,_,_,W7⟩,λc u ec hc=>by rw[zaf (zab ec flH)];exact k8 _ _ (k7 c u ec hc) ZM,(aV.keep k8 ZM).keep (xs:=[l]) (Keep.wr ZM) (by simpa using Zn nlp),zs++[z],by rw[zac,Qr];rfl,?_⟩
    rw[Qr,cr,List.range_succ,Qr,Qm,Qm,←he];rfl
   ·refine zbs (WW ZO) ?_
    cases f with
    |zero=>omega
    | succ f =>
     have e1:(m:Int)-1=((m-1:Nat):Int):=by omega
     have e2:((m:Int)-1)/2=(((m-1)/2:Nat):Int):=by omega
     have e3:((m:Int)-1)%2=(((m-1)%2:Nat):Int):=by omega
     have bC:(m-1)%2<2:=Uw _ ZU
     refine⟨_,λ σ' H' z=>z,?_⟩
     refine⟨W7,_,W7,rfl,_,W7,⟨ZU,ZU⟩,λt ht=>?_⟩
     rw[e2,e3]
     have gH:(bg+st*((m-1)%2))%26<26:=Uw _ ZU
     have dL:atI qwe.cps.toList (((bg:Int)+(st:Int)*(((m-1)%2:Nat):Int))%26)=some (qL ((bg+st*((m-1)%2))%26)):=by
      rw[←Int.natCast_mul,←Int.natCast_add]
      exact qL_at gH
     refine⟨t,W7,WV zac,rfl,_,W7,_,W7,rfl,?_⟩
     refine⟨W7,W7,W7,W7,_,W7,rfl,.inl ⟨ZO,ZO⟩,_,W7,rfl,_,W7,rfl,ZU,_,_,W7,rfl,by rw[qwe_len];omega,dL,W7,_,W7,rfl,by show 1+z.length≤sizeLine;omega,?_⟩
     refine⟨(m-1)/2,ZO,(m-1)/2,f,W7,⟨W7⟩,k8.trans (QD ht),ZO,?_,?_,trivial⟩
     ·rw [← he,zir]
      show(bitF f _).map _++([_]++_)=(if m=0 then[] else bitF f ((m-1)/2)++[(m-1)%2]).map _++_
      rw[if_neg h0,Qr,Qw];rfl
     ·rw [app_len]
      show 1+z.length+(m-1)/2≤_
      omega
  ·rintro σ H7 ⟨⟨x6,x7,x8,x9,hZ,rfl⟩,k7,aV,zs,bo,cr⟩
   have bH:zs.length=n:=by
    have:=congrArg List.length cr
    rwa[Qa,Qa,Yi]at this
   refine⟨W7,k l zs b5 m5 H7 bo bH ?_ (λz hz=>?_) aV flH k7⟩
   ·refine zfh (f:=fun z:Str=>z.cps.toList) ?_
    rw[cr]
    exact zdo λa ha c hc h=>by
     have:=wrd_inj ap ZO ZO h
     omega
   ·have:z.cps.toList∈(List.range n).map (fun k=>wrd bg st (bg+k+1)):=by rw [← cr];exact Qj.mpr ⟨z,hz,rfl⟩
    obtain⟨j,hj,e⟩:=Qj.mp this
    have mz:j<n:=Wh.mp hj
    have:=wrd_ok (b:=bg) (s:=st) (n:=bg+j+1) ZO ZO
    rw[e]at this
    exact⟨by rw[←str_len];exact this.1,by rw[←str_len];exact this.2.1,this.2.2⟩
 ·refine ⟨_,rfl,(n:Int),rfl,ZO,ZO,?_⟩
  rw[Wv]
  refine zct (lo:=0) (λi σ H'=>Aj3 (Ex5 λx6 x7 x8 x9 hZ=>σ=[ZP p,QB (iV n),QB (.str qwe),QB (iV st),QB (iV bg),ZP l,x6,x7,x8,x9,hZ]) (Keep [p] H H') (Ex3 λ(zs:Nf) (b' m':Int)=>Aj4 (H' l=some (.lst QN)) (zs.map (λz=>z.cps.toList.headD 0)=(List.range i).map (λk=>qL ((bg+st*k)%26))) (∀z∈zs,zfm z) (Pot H' p b' m')))
   ⟨⟨_,_,_,_,_,rfl⟩,k5,[],b5,m5,cD,rfl,λz hz=>(by cases hz),aP⟩ ?_ ?_
  ·rintro i σ H7 hi ⟨⟨x6,x7,x8,x9,hZ,rfl⟩,k7,zs,b7,m7,bo,cr,hok,aV⟩
   have bH:zs.length=i:=by
    have:=congrArg List.length cr
    rwa[Qa,Qa,Yi]at this
   refine⟨W7,p,b7,m7,2,rfl,aV,ZU,ZU,λd8 b8 m8 H8 tU h81 bi gE=>?_⟩
   obtain⟨j8,rfl⟩:=Zp tU
   have pf:j8<2:=by omega
   have tK:atI ("ab" : Str).cps.toList (j8:Int)=some (97+j8):=by
    refine zax ?_
    have:∀j:Fin 2,("ab" : Str).cps.toList[j.1]?=some (97+j.1):=by decide +kernel
    exact this ⟨j8,pf⟩
   refine⟨_,_,W7,rfl,ZU,tK,?_⟩
   have kD:=gE _ _ bo nlp
   have gH:(bg+st*i)%26<26:=Uw _ ZU
   have dL:atI qwe.cps.toList (((bg:Int)+(st:Int)*(0+(i:Int)))%26)=some (qL ((bg+st*i)%26)):=by
    rw[Int.zero_add,←Int.natCast_mul,←Int.natCast_add]
    exact qL_at gH
   refine⟨W7,.inl ⟨rfl,_,Z4 kD⟩,W7,W7,W7,W7,_,W7,rfl,.inl ⟨ZO,ZO⟩,_,W7,rfl,_,W7,rfl,ZU,_,_,W7,rfl,by rw[qwe_len];omega,dL,W7,W7,p,b8,m8,8,rfl,bi,ZU,ZU,λd9 b9 m9 H9 nV tT jf jU=>?_⟩
   obtain⟨j9,rfl⟩:=Zp nV
   have sk:j9<8:=by omega
   have hl9:=jU _ _ kD nlp
   have hmc:=mul_cps (97+j8) j9 ZO
   have pe:(Txt.mul (⟨#[97+j8]⟩:Str) (j9:Int)).length=j9:=by rw[←str_len,hmc,Us]
   refine⟨_,j9,rfl,rfl,by show 1≤1000;decide,ZO,_,W7,rfl,by rw[pe];show 1+j9≤sizeLine;omega,l,_,W7,rfl,hl9,lX bH hi,?_⟩
   have k9:=(k7.trans (zbb gE)).trans (zbb jU)
   refine⟨⟨_,_,_,_,W7⟩,λc u ec hc=>by rw[zaf (zab ec flH)];exact k9 c u ec hc,zs++[(⟨#[qL ((bg+st*i)%26)]⟩:Str)++Txt.mul (⟨#[97+j8]⟩:Str) (j9:Int)],b9,m9,by rw[zac,Qr];rfl,?_,λz hz=>?_,jf.keep (xs:=[l]) (Keep.wr ZM) (by simpa using Zn nlp)⟩
   ·rw[Qr,cr,List.range_succ,Qr,Qm,Qm,zir];rfl
   ·rcases Qk.mp hz with y | y
    ·exact hok z y
    ·rw [Qd.mp y]
     have h1:=qL_ok _ gH
     refine⟨by rw[app_len];show 1≤1+_;omega,by rw[app_len,pe];show 1+j9≤8;omega,λc hc=>?_⟩
     rw[zir,hmc]at hc
     rcases Qk.mp hc with y | y
     ·rw[show c=qL ((bg+st*i)%26) from Qd.mp y];exact h1
     ·rw[List.eq_of_mem_replicate y];omega
  ·rintro σ H7 ⟨⟨x6,x7,x8,x9,hZ,rfl⟩,k7,zs,b7,m7,bo,cr,hok,aV⟩
   have bH:zs.length=n:=by
    have:=congrArg List.length cr
    rwa[Qa,Qa,Yi]at this
   refine⟨W7,k l zs b7 m7 H7 bo bH ?_ hok aV flH k7⟩
   refine zfh (f:=λz:Str=>z.cps.toList.headD 0) ?_
   rw[cr]
   exact zdo λa ha c hc h=>step_inj (b:=bg) ap ZO ZO (qL_inj (Uw _ ZU) (Uw _ ZU) h)
end
end K21
end
section
namespace Wb
section
variable{α β:Type}[DecidableEq α][DecidableEq β]{ns:List α}{r:α→List α}{cs:List (List (α×α))}{f:α→β}
theorem idx_map(hf:∀x y,f x=f y→x=y)(w:α):∀zs:List α,(zs.map f).idxOf (f w)=zs.idxOf w
 |[]=>rfl
 |a::t=>by
  rw[Qm,List.idxOf_cons,List.idxOf_cons,idx_map hf w t]
  by_cases h:a=w
  ·rw[h,beq_self_eq_true,beq_self_eq_true]
  ·rw[beq_eq_false_iff_ne.mpr h,beq_eq_false_iff_ne.mpr λe=>h (hf _ _ e)]
def nxt_map(hf:∀x y,f x=f y→x=y)(zs:List α)(w:α):nxt (zs.map f) (f w)=f (nxt zs w):=by
 unfold nxt
 rw[idx_map hf,Qa,Zb,Zb,Qo]
 cases zs[(zs.idxOf w+1)%zs.length]?<;>rfl
def lk_map{γ δ:Type}{F:γ→γ}{G:δ→δ}{g:γ→δ}{e:γ}:∀{t:List γ} {s:γ},(∀y,y=s∨y∈t→G (g y)=g (F y))→Lk F s t e→Lk G (g s) (t.map g) (g e):=by
 intro t
 induction t with
 |nil=>intro s h k;exact(h s QX).trans (congrArg g k)
 |cons a t ih =>
  intro s h k
  exact⟨(h s QX).trans (congrArg g k.1),ih (λy hy=>h y (.inr (Qg.mpr hy))) k.2⟩
def cert_map(hf:∀x y,f x=f y→x=y){a:α}(C:Cert ns r cs λ_=>a){r':β→List β}(hr:∀x,r' (f x)=(r x).map f)(lP:∀y,(∀x,y≠f x)→r' y=[])(ha:a∈ns) :
  Cert (ns.map f) r' (cs.map λc=>c.map λs=>(f s.1,f s.2)) λ_=>f a:=by
 have hm:∀{y z},z∈r' y→∃x w,y=f x∧z=f w∧w∈r x:=λ{y z} h=>by
  by_cases hy:∃x,y=f x
  ·obtain ⟨x,rfl⟩:=hy
   rw[hr]at h
   obtain⟨w,hw,rfl⟩:=Qj.mp h
   exact⟨x,w,rfl,rfl,hw⟩
  ·rw [lP y fun x e=>hy ⟨x,e⟩] at h
   cases h
 have hb:∀{x w},w∈r x→f w∈r' (f x):=λh=>by rw[hr];exact Qj.mpr ⟨_,h,rfl⟩
 have hg:∀s t:α×α,(f s.1,f s.2)=(f t.1,f t.2)→s=t:=λs t e=>Ue (hf _ _ (congrArg Prod.fst e)) (hf _ _ (congrArg Prod.snd e))
 have mf:∀{l:List α},l.Nodup→(l.map f).Nodup:=λnd=>Ul.mpr (nd.imp λh e=>h (hf _ _ e))
 have gY:(cs.map λc=>c.map λs=>(f s.1,f s.2)).flatten=cs.flatten.map λs=>(f s.1,f s.2):=List.map_flatten.symm
 refine⟨mf C.nd,λy hy=>?_,λy=>?_,λy h=>?_,λx y h=>?_,?_,λs=>?_,λc hc=>?_,λx hx=>Qj.mpr ⟨a,ha,rfl⟩,λ_ _ _=>rfl,λx hx y hy _=>?_,λx hx=>?_⟩
 ·cases e:r' y with
  |nil=>rfl
  |cons z t =>
   obtain⟨x,w,rfl,_,hw⟩:=hm (y:=y) (z:=z) (Z2 e Qb)
   exact absurd (Qj.mpr ⟨x,C.inn hw,rfl⟩) hy
 ·by_cases hy:∃ x,y=f x
  ·obtain ⟨x,rfl⟩:=hy
   rw[hr];exact mf (C.rn x)
  ·rw[lP y λx e=>hy ⟨x,e⟩];exact Zo
 ·obtain ⟨x,w,e1,e2,hw⟩:=hm h
  have:=hf _ _ (e1.symm.trans e2)
  subst this
  exact C.ir _ hw
 ·obtain ⟨a,w,rfl,rfl,hw⟩:=hm h
  exact hb (C.sy _ _ hw)
 ·rw [gY]
  exact Ul.mpr (C.cf.imp λh e=>h (hg _ _ e))
 ·rw [gY]
  constructor
  ·intro h
   obtain⟨t,ht,rfl⟩:=Qj.mp h
   exact hb ((C.cm t).mp ht)
  ·intro h
   obtain⟨x,w,e1,e2,hw⟩:=hm h
   exact Qj.mpr ⟨(w,x),(C.cm (w,x)).mpr hw,Ue e2.symm e1.symm⟩
 ·obtain ⟨c0,gy,rfl⟩:=Qj.mp hc
  obtain⟨s,t,rfl,k⟩:=C.cy c0 gy
  refine⟨(f s.1,f s.2),W7,lk_map (g:=λs:α×α=>(f s.1,f s.2)) (λy _=>?_) k⟩
  show(f y.2,nxt (r' (f y.2)) (f y.1))=(f y.2,f (nxt (r y.2) y.1))
  rw[hr,nxt_map hf]
 ·obtain ⟨x0,hx0,rfl⟩:=Qj.mp hx
  obtain⟨y0,oG,rfl⟩:=Qj.mp hy
  have:=C.co x0 hx0 y0 oG rfl
  clear hy oG
  induction this with
  |refl=>exact .refl
  |step _ hz ih=>exact .step ih (hb hz)
 ·have e1:wt (ns.map f) r' (fun _=>f a) (f a)=wt ns r (fun _=>a) a:=by
   unfold wt
   rw[Zk]
   refine zcf λx _=>?_
   show(if f a=f a then _ else _)=_
   rw[if_pos rfl,if_pos rfl,hr,Qa]
   simp only[List.map_eq_nil_iff]
  have e2:ct (cs.map λc=>c.map λs=>(f s.1,f s.2)) (λ_=>f a) (f a)=ct cs (λ_=>a) a:=by
   unfold ct
   rw[Zk]
   refine zcf λc _=>?_
   show(if(List.any (c.map λs=>(f s.1,f s.2)) λs=>decide (f a=f a))=true then _ else _)=_
   rw[List.any_map]
   simp only[Function.comp_def,decide_true]
  rw[e1,e2]
  exact C.eu a ha
end
end Wb
end
section
namespace Wb
open PySem
def bk(n j:Nat):Nat:=if j=0 then n-1 else j-1
def trR(m i:Nat):List Nat :=
 if i < 2*m then
  (if i%2=0 then[2*m,2*bk m (i/2),i+1,2*((i/2+1)%m)+1,2*((i/2+1)%m)]
    else[2*m+1,2*((i/2+1)%m)+1,i-1,2*bk m (i/2),2*bk m (i/2)+1])
 else if i=2*m then(List.range m).map (2*·)
 else((List.range m).map λk=>2*k+1).reverse
def trF(m:Nat)(i:Fin (2*m+2)):List (Fin (2*m+2)):=(trR m i.1).filterMap λk=>if h:k<2*m+2 then some ⟨k,h⟩ else none
def trT(m:Nat):List (Fin (2*m+2)×Fin (2*m+2)×Fin (2*m+2)):=(List.finRange (2*m+2)).flatMap λa=>(trF m a).filterMap λb=>if a<b∧a<nxt (trF m b) a then some (a,b,nxt (trF m b) a) else none
def trC(m:Nat):List (List (Fin (2*m+2)×Fin (2*m+2))):=(trT m).map λt=>[(t.1,t.2.1),(t.2.1,t.2.2),(t.2.2,t.1)]
def tr0(m:Nat):Fin (2*m+2):=⟨0,ZO⟩
structure TrOk(m:Nat):Prop where
 lo:∀i<2*m+2,∀k∈trR m i,k<2*m+2
 cyc:∀t∈trT m,st (trF m) (t.1,t.2.1)=(t.2.1,t.2.2)∧st (trF m) (t.2.1,t.2.2)=(t.2.2,t.1)∧st (trF m) (t.2.2,t.1)=(t.1,t.2.1)
 rn:∀x,(trF m x).Nodup
 ir:∀x,x∉trF m x
 sy:∀x,∀y∈trF m x,x∈trF m y
 cf:(trC m).flatten.Nodup
 cm:∀s∈(trC m).flatten,s.1∈trF m s.2
 mc:∀x,∀y∈trF m x,(y,x)∈(trC m).flatten
 eu:wt (List.finRange (2*m+2)) (trF m) (λ_=>tr0 m) (tr0 m)+ct (trC m) (λ_=>tr0 m) (tr0 m)=4
 up:∀x:Fin (2*m+2),x.1=0∨∃y∈trF m x,y<x
def tr_cert{m:Nat}(h:TrOk m):Cert (List.finRange (2*m+2)) (trF m) (trC m) λ_=>tr0 m:=by
 have con:∀n,∀x:Fin (2*m+2),x.1<n→Conn (trF m) (tr0 m) x:=by
  intro n
  induction n with
  |zero=>intro x hx;cases hx
  |succ n ih =>
   intro x hx
   rcases h.up x with z | ⟨y,hy,ae⟩
   ·rw[show x=tr0 m from Fin.ext z];exact .refl
   ·exact .step (ih y (Zu ae (Nat.le_of_lt_succ hx))) (h.sy x y hy)
 have og:∀x:Fin (2*m+2),Conn (trF m) (tr0 m) x:=λx=>con _ x (Yz _)
 refine⟨List.nodup_finRange _,λx hx=>absurd (List.mem_finRange x) hx,h.rn,h.ir,λx y=>h.sy x y,h.cf,λs=>⟨h.cm s,λz=>h.mc s.2 s.1 z⟩,λc hc=>?_,λ_ _=>List.mem_finRange _,λ_ _ _=>rfl,λx _ y _ _=>((og x).symm λa b=>h.sy a b).trans (og y),λ_ _=>h.eu⟩
 obtain⟨t,ht,rfl⟩:=Qj.mp hc
 obtain⟨h1,h2,h3⟩:=h.cyc t ht
 exact⟨_,W7,h1,h2,h3⟩
def tr_ok{m:Nat}(h3:3≤m)(h7:m≤7):TrOk m:=by
 have:m=3∨m=4∨m=5∨m=6∨m=7:=by omega
 rcases this with rfl | rfl | rfl | rfl | rfl <;>
  exact⟨by decide +kernel,by decide +kernel,by decide +kernel,by decide +kernel,by decide +kernel,by decide +kernel,by decide +kernel,by decide +kernel,by decide +kernel,by decide +kernel⟩
def tr_good{m:Nat}(h3:3≤m)(h7:m≤7){nm:Nat→Str}(inj:∀i j,i<2*m+2→j<2*m+2→nm i=nm j→i=j) :
  Good ((List.range (2*m+2)).map λi=>(nm i,(trR m i).map nm)):=by
 have h:=tr_ok h3 h7
 have hf:∀x y:Fin (2*m+2),nm x.1=nm y.1→x=y:=λx y e=>Fin.ext (inj _ _ x.2 y.2 e)
 have hn:((List.range (2*m+2)).map λi=>(nm i,(trR m i).map nm)).map (·.1)=(List.finRange (2*m+2)).map λx=>nm x.1:=by
  rw[Zk]
  refine Kz ZM λi h1 h2=>?_
  simp
 have ay:(((List.range (2*m+2)).map λi=>(nm i,(trR m i).map nm)).map (·.1)).Nodup:=by
  rw[hn]
  exact Ul.mpr ((List.nodup_finRange _).imp λne e=>ne (hf _ _ e))
 refine⟨_,_,hn▸cert_map (f:=λx:Fin (2*m+2)=>nm x.1) hf (tr_cert h) (λx=>?_) (λy hy=>?_) (List.mem_finRange _)⟩
 ·have hmem:(nm x.1,(trR m x.1).map nm)∈(List.range (2*m+2)).map fun i=>(nm i,(trR m i).map nm):=Qj.mpr ⟨x.1,Wh.mpr x.2,rfl⟩
  rw[zfe ay hmem]
  show(trR m x.1).map _=(List.filterMap _ _).map _
  have ku:=h.lo x.1 x.2
  generalize trR m x.1=ks at ku
  induction ks with
  |nil=>rfl
  |cons a t ih =>
   have ha:=ku a Qb
   rw[List.filterMap_cons,dif_pos ha,Qm,Qm,ih λk hk=>ku k (Qe _ hk)]
 ·refine zf9 fun z=>?_
  rw[hn]at z
  obtain⟨x,_,e⟩:=Qj.mp z
  exact hy x e.symm
end Wb
end
section
namespace L2
open PySem PySem.Spec PyProof.Rows
section
variable{X:Cx}
end
section
variable{X:Cx}{a7:Ng}{σ:St}{H:Hp}{s:Nh}
end
section
variable{prog:Ni}{w:Nk}{A:No}{E:Nc}{s:Nh}
def rev_no_len:typeLookup (.type "list_reverseiterator") "__len__" = pure none:=by rw[typeLookup_type,builtinLookup_eq_fast];kernel_rfl
def rev_hint:typeLookup (.type "list_reverseiterator") "__length_hint__" = pure (QB (.builtin "list_reverseiterator.__length_hint__")):=by rw[typeLookup_type,builtinLookup_eq_fast];kernel_rfl
def hint_rev{r:Nb}{Q:Bool→Shared→Prop}(hT:s.TypeIs (ZZ r) "list_reverseiterator")(h:Q false s):ZF (Builtin.List.listLengthHint (ZZ r)) Q E s:=by
 unfold Builtin.List.listLengthHint
 refine wpAny_bind (wpAny_specialOf hT rev_no_len ?_)
 show wpAny _ A (specialOf (Value.ref r) (Str.ofString "__length_hint__") >>= _) _ _ _
 refine wpAny_bind (wpAny_specialOf hT rev_hint ?_)
 generalize hid:("list_reverseiterator.__length_hint__" : String)=id0
 wp_delta
 rw[show splitId id0=some ("list_reverseiterator", "__length_hint__") from by subst hid;decide +kernel]
 subst hid
 refine wpAny_bind (wpAny_isInstance (T := "list_reverseiterator") (b:=true) hT (by rw[isSubtype_type];kernel_rfl) ?_)
 refine wpAny_ite_split (λjG=>absurd jG ZU) (λ_=>?_)
 refine wpAny_ite_split (λ_=>?_) (λjG=>absurd (by decide +kernel) jG)
 refine wpAny_ite_split (λjG=>absurd jG ZU) (λ_=>?_)
 exact wpAny_pure h
def ziz{I l:Nb}{items:Array Value}{Q:Nc}(hh:A.handled=none)(gW:s.heap.IsRevIter I l ((items.size:Int)-1))(hl:s.heap.IsList l items)(av:l≠I)(hn:items.size≤sizeLine)(hQ:∀h' tk ag c',(∀b o,b≠I→s.heap.get? b=some o→h'.get? b=some o)→h'.get? s.heap.objs.size=some {cls:=.type "list",dict:=none,data:=.seq ag c',slots:=#[]}→ItemsOf (λi v=>items[items.size-1-i]?=some v) ag items.size→Q Z6 {s with heap:=h',toks:=tk}) :
  wpAny Z8 A (call (.type "list") [ZZ I]) Q E s:=by
 have W:=Walks.listRev (prog:=prog) (w:=w) (A:=A.in1.in1) hh I l av items
 refine callType_codes (Q₁:=λobj s₁=>obj=.ref s.heap.objs.size∧s₁={s with heap:=s.heap.push {cls:=.type "list",data:=.seq #[]}}) PySem.F.called_list (PySem.F.typeCall_list_1 _) PySem.F.entry_list_init
  (code_list_new _ ⟨rfl,rfl⟩) λobj s₁ h₁=>?_
 obtain⟨rfl,rfl⟩:=h₁
 have hS:(s.heap.push {cls:=.type "list",data:=.seq #[]}).get? s.heap.objs.size=some {cls:=.type "list",data:=.seq #[]}:=Za _ rfl
 have hSI:s.heap.objs.size≠I:=by obtain⟨o,e,_⟩:=gW;exact Yp (Qu e)
 have hSl:s.heap.objs.size≠l:=by obtain⟨o,e,_⟩:=hl;exact Yp (Qu e)
 have dM:s.heap.objs.size∉[I,l]:=by simp;exact⟨hSI,hSl⟩
 refine⟨⟨_,hS,rfl⟩,PySem.F.args_list_init_2 _ _,?_⟩
 show wpAny _ _ (do let old ←Builtin.List.listItems Z6;Builtin.List.listUpdate Z6 (λ_=>#[]);letGo old.toList.reverse;Builtin.List.listExtendWith Z6 (ZZ I) .none) _ _ _
 refine wpAny_bind ?_
 unfold Builtin.List.listItems
 refine wpAny_bind (wpAny_seqItems hS rfl (wpAny_pure ?_))
 show wpAny _ _ (updateSeq s.heap.objs.size (λ_=>#[]) >>= λ_=>letGo (#[]:Array Value).toList.reverse >>= λ_=>Builtin.List.listExtendWith Z6 (ZZ I) .none) _ _ _
 refine wpAny_bind (wpAny_updateSeq hS rfl ?_)
 have hS₂:=Um (Obj.mapSeq (λ_=>(#[]:Array Value))) hS rfl
 have oth:∀b o,s.heap.get? b=some o→((s.heap.push {cls:=.type "list",data:=.seq #[]}).update s.heap.objs.size (Obj.mapSeq (λ_=>(#[]:Array Value)))).get? b=some o :=
  λb o e=>(Yc _ _ (Yp (Qu e))).trans (Qi _ e)
 refine wpAny_bind (wpAny_letGo ?_)
 generalize(s.heap.push {cls:=.type "list",data:=.seq #[]}).update s.heap.objs.size (Obj.mapSeq (λ_=>(#[]:Array Value)))=h2 at hS₂ oth
 have gU:h2.IsRevIter I l ((items.size:Int)-1):=gW.at λo e=>oth I o e
 have aA:h2.IsList l items:=hl.at λo e=>oth l o e
 unfold Builtin.List.listExtendWith
 refine wpAny_bind (wpAny_typeOf (T := "list_reverseiterator") gU.typeIs ?_)
 have h1:Builtin.List.listSameRef Z6 (ZZ I)=false:=by simp[Builtin.List.listSameRef,hSI]
 have e1:(Value.type "list_reverseiterator" == Value.type "list")=false:=by decide
 have e2:(Value.type "list_reverseiterator" == Value.type "tuple")=false:=by decide
 simp only[h1,e1,e2,Bool.or_false,Jm,if_false]
 refine wpAny_bind (wpAny_pyIter_revIter gU ?_)
 refine wpAny_bind (wpAny_holding (hint_rev gU.typeIs ?_))
 refine wpAny_ite_split (λjG=>absurd jG ZU) (λ_=>?_)
 refine wpAny_pure ⟨plainId_quiet PySem.F.plain_extend_loop _,codeAny_extend_loopS W.toS hn s.heap.objs.size dM .none items.size 0 _ #[] _ rfl (Zc _) ⟨Zc _,ZR gU,aA⟩ hS₂ (ItemsOf.nil _) λs' uH c' hm cM hW=>?_⟩
 rw[Moved.eq_with hm]
 refine⟨rfl,hQ s'.heap s'.toks uH c' (λb o hb e=>hm.heap b o (λhmem=>?_) (oth b o e)) cM hW⟩
 rcases Qg.mp hmem with e' | hmem
 ·exact absurd (Qu e) (by rw[e'];exact Ys _)
 ·exact hb (Qd.mp hmem)
end
section
variable{X:Cx}
def tRev(K:Na)(t:TE):TE:=λ σ H Q=>t σ H λv H1=>Ex2 λl xs=>Aj3 (v=.ref l) (SqL K H1 l xs) (∀p,H1 p=none→Q (ZZ p) (upd H1 p (.lst xs.reverse)))
def pe_rev{e:Expr}{t:TE}{p1 p2 q1 q2:Pos}(hc:X.calm=true)(hg:Gl X "list")(hm:X.mg "list" = none)(hg':Gl X "reversed")(rZ:X.mg "reversed" = none)(he:PE X e t)(h1:starEach [e] X.env=[(false,WB e)]:=by rfl)(h2:starEach [.Call (.Name "reversed" p2) [e] [] q2] X.env=[(false,WB (.Call (.Name "reversed" p2) [e] [] q2))]:=by rfl) :
  PE X (.Call (.Name "list" p1) [.Call (.Name "reversed" p2) [e] [] q2] [] q1) (tRev X.K t):=by
 intro a7 s σ H Q I h
 refine Call_ (zgk I hg hm boot_list (Wx (rest:=[]) ?_ h2 rfl))
 rw[h2]
 show wpAny _ _ (spliced ((false,WB (.Call (.Name "reversed" p2) [e] [] q2))::[])) _ _ s
 refine Jr (Call_ (zgk I hg' rZ boot_reversed (Wx (rest:=[]) ?_ h1 rfl)))
 rw[h1]
 show wpAny _ _ (spliced ((false,WB e)::[])) _ _ s
 refine Jr (thn (he a7 s σ H _ I h) λu s1 ⟨v,H1,I1,r1,l,xs,ev,hq,q⟩=>Xi ?_)
 subst ev
 cases r1
 obtain⟨a9,rv,pl,hz⟩:=I1.list hq
 have af:=rv.length
 have hl:=pl.isList
 have lt:l<s1.heap.objs.size:=by obtain⟨o,z,_⟩:=hl;exact Qu z
 refine call_reversed_list hl (Xi ?_)
 have hsz:(s1.heap.push (revObj l ((a9.toArray.size:Int)-1))).objs.size=s1.heap.objs.size+1:=Wo ..
 refine ziz (s:={s1 with heap:=s1.heap.push (revObj l ((a9.toArray.size:Int)-1))}) (I:=s1.heap.objs.size) (l:=l) (items:=a9.toArray) (I1.ok.hd hc) ⟨_,Za _ rfl,rfl,rfl⟩ (hl.at λo z=>Qi _ z) (Zg lt) (by simp;omega) λh' tk ag c' kp hn hW=>?_
 have li:∀b o,s1.heap.get? b=some o→h'.get? b=some o:=λb o z=>kp b o (Zg (Qu z)) (Qi _ z)
 have hf:H1 (s1.heap.push (revObj l ((a9.toArray.size:Int)-1))).objs.size=none:=I1.hok.fresh (by rw[hsz];exact Uj _)
 have eacc:ag=a9.reverse.toArray:=by
  refine Array.ext (by simpa using hW.1) λi hi aK=>?_
  have:=hW.2 i ag[i] (by simp[hi])
  have hil:i<a9.length:=by simpa using aK
  simp only[List.getElem?_toArray,Qx]at this
  rw[Qc ZO]at this
  show ag[i]=a9.reverse[i]'(ZR aK)
  rw[List.getElem_reverse]
  exact(Qn this).symm
 subst eacc
 exact⟨ZZ _,_,I1.laid (t':=tk) li (by rw[hsz];exact Uj _) (show zbw X.prog X.w _ h' _ (.lst xs.reverse) from⟨Z2 Ka hz,a9.reverse,c',rv.reverse,hn⟩),rfl,q _ hf⟩
def gTwo(K:Na)(t:TGs):TG:=λv σ H Q=>Ex3 λ(a:Nb) (x y:V)=>Aj3 (v=.ref a) (SqL K H a [x,y]) (t [x,y] σ H Q)
def draw_two{P:Ni}{w:Nk}{A:No}{E:Nc}{s:Nh}{it a:Nb}{u1 u2:Value}{Q:List Value→Shared→Prop}(ne:a≠it)(hi:s.heap.IsListIter it a 0)(hl:s.heap.IsList a #[u1,u2])(q:∀h',h'.IsListIter it a 2→Heap.SameBut it s.heap h'→Q [u1,u2] {s with heap:=h'}):wpAny (model P w) A (draw (ZZ it) 2) Q E s:=by
 apply wpAny_bind (m:=pyNext (ZZ it))
 apply wpAny_pyNext_list_item hi hl (x:=u1) rfl
 intro h1 i1 s1
 have l1:h1.IsList a #[u1,u2]:=hl.extBut s1.extBut ne
 apply wpAny_bind
 apply wpAny_holding
 apply wpAny_bind (m:=pyNext (ZZ it))
 apply wpAny_pyNext_list_item (s:={s with heap:=h1}) i1 l1 (x:=u2) rfl
 intro h2 i2 s2
 apply wpAny_bind
 apply wpAny_holding
 apply wpAny_pure
 apply wpAny_pure
 apply wpAny_pure
 exact q h2 i2 (s1.trans s2)
def pg_two{e1 e2:Expr}{k:Nat}{pos:Pos}{t:TGs}(hc:X.calm=true)(h:PGs X [e1,e2] t)(hn:(assignEach [e1,e2] X.env).length=2:=by rfl)(ap:(assignEach [e1,e2] X.env).findIdx? (·.1)=none:=by rfl):PG X (.Tuple [e1,e2] k pos) (gTwo X.K t):=by
 intro a7 s σ H v u Q I r ⟨a,x,y,z,hq,hw⟩
 subst z
 cases r
 obtain⟨a9,rv,hp,_⟩:=I.list hq
 have rv':=rv
 obtain⟨u1,u2,rfl,_,_⟩:=vals2 rv'
 have hl:s.heap.IsList a #[u1,u2]:=hp.isList
 have ne:a≠s.heap.objs.size:=by
  obtain⟨o,ho,_⟩:=hl
  exact Zg (Qu ho)
 rw[assign_Tuple]
 apply wpAny_bind
 apply wpAny_standAt
 unfold unpack
 rw[hn,ap]
 apply wpAny_bind
 apply wpAny_holding
 unfold unpackItems
 apply wpAny_bind
 unfold notIterableAtAll
 apply wpAny_bind
 apply wpAny_specialOf hl.typeIs slot_list_iter.lookup
 apply wpAny_pure
 rw[if_neg ZM]
 apply wpAny_bind
 apply wpAny_holding
 apply wpAny_pyIter_list hl
 have lp:(s.heap.push {cls:=.type "list_iterator",data:=.fields #[ZZ a,.int 0 0]}).IsList a #[u1,u2]:=hl.push _
 apply wpAny_bind
 apply wpAny_holding
 apply draw_two ne ⟨_,Za _ rfl,rfl,rfl⟩ lp
 intro h1 i1 s1
 rw[if_neg ZM]
 apply wpAny_bind
 apply wpAny_holding
 apply wpAny_pyNext_list_end (I.ok.hd hc) i1 (lp.extBut s1.extBut ne) rfl
 intro h2 x2
 rw[if_neg ZM]
 apply wpAny_pure
 have I1:ZA H {s with heap:=h2}:=I.kept (t':=s.toks) λb o e=>by
  have nb:=Zg (Qu e)
  exact x2 b o nb (s1.extBut b o nb (Qi _ e))
 exact h a7 _ σ H [x,y] _ Q I1 rv hw
end
end L2
end
section
namespace K21
open PySem L2 Wb
abbrev sRings:Stmt:=top 52
def ordP(m i:Nat):Nat:=if i<2*m then(if i%2=0 then i/2 else m+i/2) else i
def nmP(zs:Nf)(m i:Nat):Str:=zs.getD (ordP m i) ""
def cut_mid{xs:List V}{a b:Nat}(h:a≤b)(hb:b≤xs.length):cutV xs (some (a:Int)) (some (b:Int))=(xs.drop a).take (b-a):=by
 unfold cutV
 have e1:HT.sIx xs.length 0 (some (a:Int))=a:=by rw[HT.sIx_nat];omega
 have e2:HT.sIx xs.length xs.length (some (b:Int))=b:=by rw[HT.sIx_nat];omega
 rw[e1,e2]
def nm_inn{zs:Nf}{m k:Nat}(h:k<m):nmP zs m (2*k)=zs.getD k "" := by
 unfold nmP ordP
 rw[if_pos ZO,if_pos ZO,show 2*k/2=k by omega]
def nm_out{zs:Nf}{m k:Nat}(h:k<m):nmP zs m (2*k+1)=zs.getD (m+k) "" := by
 unfold nmP ordP
 rw[if_pos ZO,if_neg ZO,show(2*k+1)/2=k by omega]
def nm_cap{zs:Nf}{m i:Nat}(h:2*m≤i):nmP zs m i=zs.getD i "" := by
 unfold nmP ordP
 rw[if_neg ZO]
def tr_inn{m k:Nat}(h:k<m):trR m (2*k)=[2*m,2*bk m k,2*k+1,2*((k+1)%m)+1,2*((k+1)%m)]:=by
 unfold trR
 rw[if_pos ZO,if_pos ZO,show 2*k/2=k by omega]
def tr_out{m k:Nat}(h:k<m):trR m (2*k+1)=[2*m+1,2*((k+1)%m)+1,2*k,2*bk m k,2*bk m k+1]:=by
 unfold trR
 rw[if_pos ZO,if_neg ZO,show(2*k+1)/2=k by omega,Nat.add_sub_cancel]
def ord_lt{m i:Nat}(h7:m≤7)(h:i<2*m+2):ordP m i<16:=by
 unfold ordP
 split<;>(try split)<;>omega
def ord_inj{m i j:Nat}(hi:i<2*m+2)(hj:j<2*m+2)(h:ordP m i=ordP m j):i=j:=by
 unfold ordP at h
 split at h<;>split at h<;>(try split at h)<;>(try split at h)<;>omega
def nm_inj{zs:Nf}{m i j:Nat}(nd:zs.Nodup)(hz:zs.length=16)(h7:m≤7)(hi:i<2*m+2)(hj:j<2*m+2)(h:nmP zs m i=nmP zs m j):i=j:=by
 have h1:=ord_lt h7 hi
 have h2:=ord_lt h7 hj
 unfold nmP at h
 rw[Zb,Zb,Qc ZO,Qc ZO]at h
 exact ord_inj hi hj ((Wa nd).mp h)
def innP(zs:Nf)(m:Nat):List Str:=(List.range m).map λk=>nmP zs m (2*k)
def outP(zs:Nf)(m:Nat):List Str:=(List.range m).map λk=>nmP zs m (2*k+1)
def inn_cut{zs:Nf}{m:Nat}(h:m≤zs.length):(zs.map V.str).take m=(innP zs m).map V.str:=by
 unfold innP
 refine Kz (by simp;omega) λi h1 h2=>?_
 have hi:i<m:=by rw[Qa,Qa,Yi]at h2;exact h2
 rw[Ut,Zl,Zl,Zl,Uf,nm_inn hi,Zb,Qc ZO]
 rfl
def out_cut{zs:Nf}{m:Nat}(h:2*m≤zs.length):((zs.map V.str).drop m).take m=(outP zs m).map V.str:=by
 unfold outP
 refine Kz (by simp;omega) λi h1 h2=>?_
 have hi:i<m:=by rw[Qa,Qa,Yi]at h2;exact h2
 rw[Ut,List.getElem_drop,Zl,Zl,Zl,Uf,nm_out hi,Zb,Qc ZO]
 rfl
def cap_cut{zs:Nf}{m:Nat}(h:2*m+2≤zs.length):((zs.map V.str).drop (2*m)).take 2=[Z9 (2*m),Z9 (2*m+1)]:=by
 rw[nm_cap QK,nm_cap (Uj _),Zb,Zb,Qc ZO,Qc ZO]
 rw[Yo (QS Qa),Yo (QS Qa),Zl,Zl]
 rfl
def at_rg{f:Nat→Str}{m k:Nat}(h:k<m):atI (((List.range m).map f).map V.str) (k:Int)=some (.str (f k)):=by
 refine zax ?_
 rw[Qo,Qo,List.getElem?_range h]
 rfl
def at_rg'{f:Nat→Str}{m k:Nat}(h:k<m):atI (((List.range m).map f).map V.str) ((k:Int)-1)=some (.str (f (bk m k))):=by
 have hl:(((List.range m).map f).map V.str).length=m:=by rw[Qa,Qa,Yi]
 rw[atI_prev (Z2 hl h),hl]
 have hb:pidx m k<m:=by unfold pidx;split<;>omega
 rw[Qo,Qo,List.getElem?_range hb]
 rfl
inductive TrI(zs:Nf)(m:Nat)(H3:Hp)(d:Nb)(c:Nat)(H':Hp):Prop
 |mk (es:List Ent) (ra:RAt H' d es) (rs:rsOf es=(List.range c).map λi=>(nmP zs m i,(trR m i).map (nmP zs m))) (kp:Keep [d] H3 H'):TrI zs m H3 d c H'
def TrI.k0(h:TrI zs m H3 d c H')(k:ZE H' H2):TrI zs m H3 d c H2:=by
 obtain⟨es,ra,rs,kp⟩:=h
 exact⟨es,ra.keep k ZM WR,rs,kp.trans (k.sub ZM)⟩
def TrI.kp(h:TrI zs m H3 d c H'):Keep [d] H3 H':=by
 obtain⟨_,_,_,kp⟩:=h
 exact kp
def TrI.put(h:TrI zs m H3 d c H')(nd:zs.Nodup)(hz:zs.length=16)(h7:m≤7)(hc:c<2*m+2)(ha:H' a=some (QZ (((trR m c).map (nmP zs m)).map V.str))) :
  ∃kv:List (Key×V),H' d=some (.dK kv)∧kv.length≤16∧TrI zs m H3 d (c+1) (upd H' d (.dK (putK kv (Sum.inr (nmP zs m c)) (ZZ a)))):=by
 obtain⟨es,ra,rs,kp⟩:=h
 have bq:es.length=c:=by
  have:=congrArg List.length rs
  unfold rsOf at this
  rw[Qa,Qa,Yi]at this;exact this
 have hxn:nmP zs m c∉es.map (·.1):=λz=>by
  rw[←zbi,rs,Zk]at z
  obtain⟨i,hi,e⟩:=Qj.mp z
  have aK:=Wh.mp hi
  have:=nm_inj nd hz h7 ZO hc e
  omega
 refine⟨_,ra.dc,QS Qa,es++[(nmP zs m c,(trR m c).map (nmP zs m),a)],rat_new ra hxn ha,?_,kp.trans (Keep.wr ZM)⟩
 rw[List.range_succ,Qr,←rs]
 unfold rsOf
 rw[Qr];rfl
inductive IspRings(vs:List V)(H:Hp)(Q:VK):Prop
 |mk (l:Nb) (zs:Nf) (m:Nat) (h0:vs=[.ref l,.int (m:Int)]) (h1:H l=some (.lst (zs.map V.str))) (hn:zs.Nodup) (hl:zs.length=16) (h3:3≤m) (h7:m≤7)
  (h3:∀(d:Nb) (ai:List Ent) (H':Hp),H d=none→DrE H' d ai→(∀x∈ai.map (·.1),x∈zs)→ZE H H'→Q (ZZ d) H'):IspRings vs H Q
def spRings:Sp:=λvs H Q _=>IspRings vs H Q
section
variable{P:Ni}{w:Nk}{K:Na}{mg:Nd}{base:Nm}
def zdi:zak [qN,qM,qR, "_law_inner", "_law_outer", "_law_top", "_law_ground", "_law_k", "_law_ahead"] [qN,qM] (zag sRings):=fsk
def ok_rings(F:Fun K "_law_two_rings" "_law_two_rings" sRings f fd)(aR:mg "range" = none)(aq:mg "list" = none)(rC:mg "reversed" = none):ZC 1 f fd [qN,qM] spRings:=by
 refine F.okL zdi QG
 obtain⟨l,zs,m,rfl,hl,ay,bH,h3,h7,kq⟩:=h
 have hu:=zcd hr
 have aw:=sizeLine_eq
 refine⟨_,zad (zar 2 zdi.nd zfx)
  (zad (zar 3 zdi.nd (zcg zcy QH zc8 (zb6 QQ)))
  (zad (zar 4 zdi.nd (zcg zcy QH (zb6 QQ) (zb6 (za1 zgg zai QQ))))
  (zad (zd1 (zcg zcy QH (zb6 (za1 zgg zai QQ)) (zb6 (za1 zb7 (za1 zgg zai QQ) zai))) (pg_two rfl (zaj (zan 5 zdi.nd) (zaj (zan 6 zdi.nd) zbq))))
  (zad (zba Ze rfl (zci rfl aR (Z0 1)) (zan 7 zdi.nd)
   (zad (zar 8 zdi.nd (za1 zfg (za1 zb7 (pv 7) zai) QQ))
   (zad (zb5 hu Q8 (za2 za0 (pv 3) (pv 7) QC) (zbk (zaa (pv 5) (zaa (za2 za0 (pv 3) (za1 zdl (pv 7) zai) QC) (zaa (za2 za0 (pv 4) (pv 7) QC) (zaa (za2 za0 (pv 4) (pv 8) QC) (zaa (za2 za0 (pv 3) (pv 8) QC) zae)))))) rfl)
   (zah (zb5 hu Q8 (za2 za0 (pv 4) (pv 7) QC) (zbk (zaa (pv 6) (zaa (za2 za0 (pv 4) (pv 8) QC) (zaa (za2 za0 (pv 3) (pv 7) QC) (zaa (za2 za0 (pv 3) (za1 zdl (pv 7) zai) QC) (zaa (za2 za0 (pv 4) (za1 zdl (pv 7) zai) QC) zae)))))) rfl)))))
  (zad (zb5 hu Q8 (pv 5) (zbp zcx Q4 aq Wi (Z0 3)) rfl)
  (zad (zb5 hu Q8 (pv 6) (pe_rev rfl Q4 aq Q4 rC (pv 4)) rfl)
  (zah (zau Q8)))))))),?_⟩
 intro d hd
 have aG:(zs.map V.str).length=16:=by rw[Qa,bH]
 have k1:ZE H (upd H d (.dK [])):=Keep.new hd
 have g1:(upd H d (.dK [])) d=some (.dK []):=zac
 generalize upd H d (.dK [])=H1 at k1 g1
 have aJ:=k1 _ _ hl ZM
 refine⟨W7,W7,W7,l,W7,Z4 aJ,λia hia=>?_⟩
 rw[cut_to (QS aG),inn_cut ZO]
 have k2:ZE H1 (ZW H1 ia ((innP zs m).map V.str)):=Keep.new hia
 have g2:(ZW H1 ia ((innP zs m).map V.str)) ia=some (QZ ((innP zs m).map V.str)):=zac
 generalize upd H1 ia (QZ ((innP zs m).map V.str))=H2 at k2 g2
 have aA:=k2 _ _ aJ ZM
 have em:(2:Int)*(m:Int)=((2*m:Nat):Int):=by omega
 refine⟨W7,W7,W7,W7,_,W7,rfl,.inl ⟨ZO,ZO⟩,W7,l,W7,Z4 aA,λoa hoa=>?_⟩
 rw[em,cut_mid ZO (QS aG),show 2*m-m=m by omega,out_cut ZO]
 have k3:ZE H2 (ZW H2 oa ((outP zs m).map V.str)):=Keep.new hoa
 have g3:(ZW H2 oa ((outP zs m).map V.str)) oa=some (QZ ((outP zs m).map V.str)):=zac
 generalize upd H2 oa (QZ ((outP zs m).map V.str))=H3 at k3 g3
 have dE:=k3 _ _ aA ZM
 refine⟨W7,W7,_,W7,rfl,.inl ⟨ZO,ZO⟩,W7,W7,_,W7,rfl,.inl ⟨ZO,ZO⟩,_,W7,rfl,W7,l,W7,Z4 dE,λca hca=>?_⟩
 rw[em,show((2*m:Nat):Int)+2=((2*m+2:Nat):Int) by omega,cut_mid ZO (QS aG),show 2*m+2-2*m=2 by omega,cap_cut ZO]
 refine⟨ca,_,W7,Z4 zac,_,W7,_,W7,rfl,?_⟩
 have k4:ZE H3 (upd H3 ca (.lst [Z9 (2*m),Z9 (2*m+1)])):=Keep.new hca
 generalize upd H3 ca (.lst [Z9 (2*m),Z9 (2*m+1)])=H4 at k4
 have gi:H4 ia=some (QZ ((innP zs m).map V.str)):=(k3.trans k4) _ _ g2 ZM
 have go:H4 oa=some (QZ ((outP zs m).map V.str)):=k4 _ _ g3 ZM
 have de:ZE H1 H4:=(k2.trans k3).trans k4
 have gd:H4 d=some (.dK []):=de _ _ g1 ZM
 have T0:TrI zs m H4 d 0 H4:=⟨[],⟨gd,λe he=>(by cases he),Zo⟩,rfl,Keep.refl⟩
 have nid:ia∉[d]:=by simpa using za3 gi gd ZX
 have nod:oa∉[d]:=by simpa using za3 go gd ZX
 refine⟨W7,(m:Int),rfl,ZO,ZO,?_⟩
 rw[Wv]
 refine zct (lo:=0) (λi σ H'=>Aj2 (Ex2 λx7 x8=>σ=[ZP l,QB (.int (m:Int)),ZP d,ZP ia,ZP oa,QB (.str (nmP zs m (2*m))),QB (.str (nmP zs m (2*m+1))),x7,x8]) (TrI zs m H4 d (2*i) H'))
  ⟨⟨_,_,rfl⟩,T0⟩ ?_ ?_
 ·rintro i σ H5 hi ⟨⟨x7,x8,rfl⟩,T5⟩
  have e0:(0:Int)+(i:Int)=(i:Int):=Int.zero_add _
  rw[e0]
  have eon:((i:Int)+1)%(m:Int)=((QY%m:Nat):Int):=by simp
  have oU:QY%m<m:=Uw _ ZO
  refine⟨W7,_,W7,rfl,W7,_,W7,rfl,(by show(0:Int)<m;omega),?_⟩
  rw[eon]
  have ri:=tr_inn hi
  have ro:=tr_out hi
  generalize(i+1)%m=on at oU ri ro
  have gi5:=T5.kp _ _ gi nid
  have go5:=T5.kp _ _ go nod
  refine⟨W7,W7,W7,_,W7,rfl,ia,_,_,W7,rfl,Z4 gi5,at_rg' hi,W7,W7,oa,_,_,W7,rfl,Z4 go5,at_rg hi,W7,W7,oa,_,_,W7,rfl,Z4 go5,at_rg oU,W7,W7,ia,_,_,W7,rfl,Z4 gi5,at_rg oU,(ZS 5),λa6 h6=>?_⟩
  have T6:TrI zs m H4 d (2*i) (upd H5 a6 (.lst [Z9 (2*m),Z9 (2*bk m i),Z9 (2*i+1),Z9 (2*on+1),Z9 (2*on)])):=T5.k0 (QD h6)
  have g6:(upd H5 a6 (.lst [Z9 (2*m),Z9 (2*bk m i),Z9 (2*i+1),Z9 (2*on+1),Z9 (2*on)])) a6=some (QZ (((trR m (2*i)).map (nmP zs m)).map V.str)):=by rw[zac,ri];rfl
  generalize upd H5 a6 (.lst [Z9 (2*m),Z9 (2*bk m i),Z9 (2*i+1),Z9 (2*on+1),Z9 (2*on)])=H6 at T6 g6
  obtain⟨kv,dv,kl,T7⟩:=T6.put ay bH h7 ZO g6
  refine⟨W7,W7,W7,ia,_,_,W7,rfl,Z4 (T6.kp _ _ gi nid),at_rg hi,d,W7,DPut.k (k:=Sum.inr (nmP zs m (2*i))) dv ZO,?_⟩
  generalize upd H6 d (.dK (putK kv (Sum.inr (nmP zs m (2*i))) (ZZ a6)))=H7 at T7
  have gi7:=T7.kp _ _ gi nid
  have go7:=T7.kp _ _ go nod
  refine⟨W7,W7,W7,oa,_,_,W7,rfl,Z4 go7,at_rg oU,W7,W7,ia,_,_,W7,rfl,Z4 gi7,at_rg hi,W7,W7,_,W7,rfl,ia,_,_,W7,rfl,Z4 gi7,at_rg' hi,W7,W7,_,W7,rfl,oa,_,_,W7,rfl,Z4 go7,at_rg' hi,(ZS 5),λa8 h8=>?_⟩
  have T8:TrI zs m H4 d (2*i+1) (upd H7 a8 (.lst [Z9 (2*m+1),Z9 (2*on+1),Z9 (2*i),Z9 (2*bk m i),Z9 (2*bk m i+1)])):=T7.k0 (QD h8)
  have g8:(upd H7 a8 (.lst [Z9 (2*m+1),Z9 (2*on+1),Z9 (2*i),Z9 (2*bk m i),Z9 (2*bk m i+1)])) a8=some (QZ (((trR m (2*i+1)).map (nmP zs m)).map V.str)):=by rw[zac,ro];rfl
  generalize upd H7 a8 (.lst [Z9 (2*m+1),Z9 (2*on+1),Z9 (2*i),Z9 (2*bk m i),Z9 (2*bk m i+1)])=H8 at T8 g8
  obtain⟨kv8,u7,kl8,T9⟩:=T8.put ay bH h7 ZO g8
  refine⟨W7,W7,W7,oa,_,_,W7,rfl,Z4 (T8.kp _ _ go nod),at_rg hi,d,W7,DPut.k (k:=Sum.inr (nmP zs m (2*i+1))) u7 ZO,?_⟩
  exact⟨⟨_,W7⟩,by rw[show 2*QY=2*i+1+1 by omega];exact T9⟩
 ·rintro σ H5 ⟨⟨x7,x8,rfl⟩,T5⟩
  have rt:trR m (2*m)=(List.range m).map (2*·):=by unfold trR;rw[if_neg ZO,if_pos rfl]
  have rg:trR m (2*m+1)=((List.range m).map λk=>2*k+1).reverse:=by unfold trR;rw[if_neg ZO,if_neg ZO]
  refine⟨W7,ia,W7,.inl (Z4 (T5.kp _ _ gi nid)),λa6 h6=>?_⟩
  have T6:TrI zs m H4 d (2*m) (ZW H5 a6 ((innP zs m).map V.str)):=T5.k0 (QD h6)
  have g6:(ZW H5 a6 ((innP zs m).map V.str)) a6=some (QZ (((trR m (2*m)).map (nmP zs m)).map V.str)):=by rw[zac,rt];unfold innP;rw[List.map_map,List.map_map,List.map_map];rfl
  generalize upd H5 a6 (QZ ((innP zs m).map V.str))=H6 at T6 g6
  obtain⟨kv,dv,kl,T7⟩:=T6.put ay bH h7 ZO g6
  refine⟨W7,W7,d,W7,DPut.k (k:=Sum.inr (nmP zs m (2*m))) dv ZO,?_⟩
  generalize upd H6 d (.dK (putK kv (Sum.inr (nmP zs m (2*m))) (ZZ a6)))=H7 at T7
  refine⟨W7,oa,W7,Z4 (T7.kp _ _ go nod),λa8 h8=>?_⟩
  have T8:TrI zs m H4 d (2*m+1) (upd H7 a8 (.lst ((outP zs m).map V.str).reverse)):=T7.k0 (QD h8)
  have g8:(upd H7 a8 (.lst ((outP zs m).map V.str).reverse)) a8=some (QZ (((trR m (2*m+1)).map (nmP zs m)).map V.str)):=by
   rw[zac,rg,List.map_reverse,List.map_reverse];unfold outP;rw[List.map_map,List.map_map,List.map_map];rfl
  generalize upd H7 a8 (.lst ((outP zs m).map V.str).reverse)=H8 at T8 g8
  obtain⟨kv8,u7,kl8,T9⟩:=T8.put ay bH h7 ZO g8
  refine⟨W7,W7,d,W7,DPut.k (k:=Sum.inr (nmP zs m (2*m+1))) u7 ZO,?_⟩
  generalize upd H8 d (.dK (putK kv8 (Sum.inr (nmP zs m (2*m+1))) (ZZ a8)))=H9 at T9
  obtain⟨es,ra,rs,kp⟩:=T9
  have bq:es.length=2*m+2:=by
   have:=congrArg List.length rs
   unfold rsOf at this
   rw[Qa,Qa,Yi]at this;exact this
  refine⟨W7,kq d es H9 hd ⟨ra,?_,ZO⟩ (λx hx=>?_) λc o ec _=>kp c o (de c o (k1 c o ec ZM) ZM) (by simpa using zab ec hd)⟩
  ·rw [rs]
   exact tr_good h3 h7 λi j hi hj e=>nm_inj ay bH h7 hi hj e
  ·rw [← zbi,rs,Zk] at hx
   obtain⟨i,hi,rfl⟩:=Qj.mp hx
   have aK:=ord_lt h7 (Wh.mp hi)
   show zs.getD (ordP m i) "" ∈ zs
   rw[Zb,Qc ZO]
   exact Qs _
end
abbrev sRounds:Stmt:=top 54
inductive IspRounds(K:Na)(vs:List V)(H:Hp)(Q:VK):Prop
 |mk (a:Nb) (ns:List Int) (mo:Nat) (h0:vs=[.ref a,.int (mo:Int)]) (h1:SqL K H a (ns.map V.int)) (h2:1≤mo) (h3:mo≤16)
  (h4:∀(d:Nb) (ai:List Ent) (H':Hp),H d=none→DrE H' d ai→(∀x∈ai.map (·.1),zfm x)→ZE H H'→Q (ZZ d) H'):IspRounds K vs H Q
def spRounds(K:Na):Sp:=λvs H Q _=>IspRounds K vs H Q
section
variable{P:Ni}{w:Nk}{K:Na}{mg:Nd}{base:Nm}
def zcv:zak [qS, "_law_most",qP,qN, "_law_way",qR, "_law_k"] [qS, "_law_most"] (zag sRounds):=fsk
def ok_rounds(F:Fun K "_law_rounds" "_law_rounds" sRounds f fd)(GP:ZI "_law_pot" ["_law_cell_here"] 1 spPot)(GC:ZI "_law_cell" [qS, "_law_k"] 1 (spCell K))(GT:ZI "_law_take" [qP,qM] 1 zf5)(GN:ZI "_law_names" [qP,qM] 2 spNames)(GR:ZI "_law_two_rings" [qN,qM] 1 spRings)(GU:ZI "_law_untied" [qR,qP] 2 zf6)(GG:ZI "_law_grown" [qP,qN] 2 spGrown)(GX:ZI "_law_crossed" [qR,qP] 3 zf6)(GL:ZI "_law_filled" [qR] 3 spFilled)(aR:mg "range" = none):ZC 4 f fd [qS, "_law_most"] (spRounds K):=by
 refine F.okL zcv QG
 obtain⟨a,ns,mo,rfl,hS,jo,bC,kq⟩:=h
 have aw:=sizeLine_eq
 have am:Room 1 _:=hr.mono ZU
 have bh:Room 2 _:=hr.mono ZU
 refine⟨_,zad (zar 2 zcv.nd (pcl GP am (zaa (pcl GC am (ZV 0 zai)) zae)))
  (zad (zar 3 zcv.nd (pcl GN bh (ZV 2 zai)))
  (zad (zar 4 zcv.nd (W5 2 zai))
  (zad (zb0 (zaq op_eq (pv 4) zai (zbe _))
   (zad (zar 5 zcv.nd (pcl GR am (zaa (pv 3) (zaa (za1 zb7 zai (W5 2 zai)) zae))))
   (zad (zba Ze rfl (zci rfl aR (zaa (W5 2 zai) zae)) (zan 6 zcv.nd)
    (zah (zbj (pcl GU bh (ZV 5 Q8)))))
   (zah (zau (pv 5))))) zas)
  (zad (zar 5 zcv.nd (pcl GG bh (zaa Q8 (zaa (zcg zcy (pv 3) zc8 (zb6 (za1 zb7 zai (W5 2 QQ)))) zae))))
  (zad (zba Ze rfl (zci rfl aR (zaa (W5 2 zai) zae)) (zan 6 zcv.nd)
    (zah (zbj (pcl GX hr (ZV 5 Q8)))))
  (zad (zb0 (zaq op_eq (pv 4) zai (zbe _)) (zah (zbj (pcl GL hr (Z0 5)))) zas)
  (zah (zau (pv 5))))))))),?_⟩
 refine⟨W7,a,ns,0,rfl,hS,λc=>⟨c,rfl,λp b m H1 dY gn k1=>?_⟩⟩
 refine⟨W7,p,b,m,16,rfl,gn,ZU,λnl zs b2 m2 H2 ma bH lm ll cC fnl k2=>?_⟩
 refine⟨W7,p,b2,m2,4,rfl,cC,ZU,ZU,λwy b3 m3 H3 h30 h31 c7 qp=>?_⟩
 have k3:=zbb qp
 have nlp:nl≠p:=zga cC ma
 have lZ:=k3 _ _ ma (ZR nlp)
 have dR:ZE H H3:=λc o ec _=>by
  have ncp:c∉[p]:=by simpa using zab ec dY
  exact k3 c o (k2 c o (k1 c o ec ZM) ncp) ncp
 have newp:∀{H4:Hp},Keep [p] H3 H4→ZE H H4:=λk c o ec _=>k c o (dR c o ec ZM) (by simpa using zab ec dY)
 refine⟨W7,rfl,W7,?_⟩
 refine ite2 (λ_=>?_) (λ_=>?_)
 ·refine ⟨_,rfl,_,rfl,p,b3,m3,5,rfl,c7,ZU,ZU,fun d4 b4 m4 H4 jJ nZ bz iM=>?_⟩
  obtain⟨j4,rfl⟩:=Zp jJ
  have k4:=zbb iM
  have ji:=k4 _ _ lZ (ZR nlp)
  refine⟨_,W7,rfl,nl,zs,3+j4,rfl,ji,lm,bH,ZO,ZO,λd es H5 fd5 D5 nsub k5=>?_⟩
  have aP:=bz.keep k5 ZM
  have npd:p≠d:=zab bz.1 fd5
  refine⟨W7,p,b4,m4,5,rfl,aP,ZU,ZU,λd6 b6 m6 H6 h60 h61 bj qo=>?_⟩
  have k6:=zbb qo
  have D6:=D5.pot aP k6
  have gc:ZE H H6:=newp ((k4.trans (k5.sub ZM)).trans k6)
  have fd:H d=none:=zav (newp k4) fd5 ZM
  refine⟨d6,rfl,ZO,ZO,?_⟩
  refine zct (lo:=0) (λi σ H'=>Aj3 (Ex1 λx6=>σ=[ZP a,QB (.int (mo:Int)),ZP p,ZP nl,QB (W6 wy),ZP d,x6]) (Keep [d,p] H6 H') (Ex3 λ(ai:List Ent) (b' m':Int)=>Aj3 (DrE H' d ai) (Pot H' p b' m') (ai.map (·.1)=es.map (·.1))))
   ⟨⟨_,rfl⟩,Keep.refl,es,b6,m6,D6,bj,rfl⟩ ?_ ?_
  ·rintro i σ H7 hi ⟨⟨x6,rfl⟩,k7,o6,b7,m7,D7,aV,n7⟩
   refine⟨W7,W7,p,d,b7,m7,o6,rfl,aV,D7,λb8 m8 eB H8 bi D8 n8 k8=>?_⟩
   exact⟨⟨W7⟩,k7.trans k8,eB,b8,m8,D8,bi,n8.trans n7⟩
  ·rintro σ H7 ⟨⟨x6,rfl⟩,k7,o6,b7,m7,D7,aV,n7⟩
   refine⟨W7,kq d o6 H7 fd D7 (λx hx=>ll x (nsub x (n7▸hx))) λc o ec _=>k7 c o (gc c o ec ZM) ?_⟩
   simp
   exact⟨zab ec fd,zab ec dY⟩
 ·refine ⟨_,rfl,_,rfl,_,rfl,_,rfl,p,b3,m3,mo,rfl,c7,ZO,ZO,fun d4 b4 m4 H4 jJ nZ bz iM=>?_⟩
  obtain⟨j4,rfl⟩:=Zp jJ
  have k4:=zbb iM
  have ji:=k4 _ _ lZ (ZR nlp)
  refine⟨_,W7,rfl,W7,nl,W7,Z4 ji,λl5 cD=>?_⟩
  have aG:(zs.map V.str).length=16:=by rw[Qa,bH]
  rw[show(1:Int)+(j4:Int)=((1+j4:Nat):Int) from rfl,cut_to (QS aG),←Je]
  have k5:ZE H4 (ZW H4 l5 ((zs.take (1+j4)).map V.str)):=Keep.new cD
  have g5:(ZW H4 l5 ((zs.take (1+j4)).map V.str)) l5=some (QZ ((zs.take (1+j4)).map V.str)):=zac
  generalize upd H4 l5 (QZ ((zs.take (1+j4)).map V.str))=H5 at k5 g5
  have aP:=bz.keep k5 ZM
  refine⟨p,l5,b4,m4,zs.take (1+j4),rfl,aP,g5,lm.sublist (Uk _ _),QS Zt,λd b6 m6 es H6 fd6 bj D6 n6 k6=>?_⟩
  have npd:p≠d:=zab aP.1 fd6
  have gf:ZE H H5:=newp (k4.trans (k5.sub ZM))
  have fd:H d=none:=zav gf fd6 ZM
  have gc:ZE H H6:=newp ((k4.trans (k5.sub ZM)).trans k6)
  refine⟨W7,p,b6,m6,25,rfl,bj,ZU,ZU,λd7 b7 m7 H7 pB pA aV lh=>?_⟩
  have k7:=zbb lh
  have D7:=D6.pot bj k7
  have eO:ZE H H7:=λc o ec _=>k7 c o (gc c o ec ZM) (by simpa using zab ec dY)
  refine⟨d7,rfl,ZO,ZO,?_⟩
  have fin:∀(ai:List Ent) (H':Hp),DrE H' d ai→ai.map (·.1)=es.map (·.1)→Keep [d,p] H7 H'→Q (ZZ d) H':=λai H' D' n' k'=>by
   refine kq d ai H' fd D' (λx hx=>ll x (Uy (n6▸n'▸hx))) λc o ec _=>k' c o (eO c o ec ZM) ?_
   simp
   exact⟨zab ec fd,zab ec dY⟩
  refine zct (lo:=0) (λi σ H'=>Aj3 (Ex1 λx6=>σ=[ZP a,QB (.int (mo:Int)),ZP p,ZP nl,QB (W6 wy),ZP d,x6]) (Keep [d,p] H7 H') (Ex3 λ(ai:List Ent) (b' m':Int)=>Aj3 (DrE H' d ai) (Pot H' p b' m') (ai.map (·.1)=es.map (·.1))))
   ⟨⟨_,rfl⟩,Keep.refl,es,b7,m7,D7,aV,rfl⟩ ?_ ?_
  ·rintro i σ H8 hi ⟨⟨x6,rfl⟩,k8,eB,b8,m8,D8,bi,n8⟩
   refine⟨W7,W7,p,d,b8,m8,eB,rfl,bi,D8,λb9 m9 tV H9 jf D9 n9 k9=>?_⟩
   exact⟨⟨W7⟩,k8.trans k9,tV,b9,m9,D9,jf,n9.trans n8⟩
  ·rintro σ H8 ⟨⟨x6,rfl⟩,k8,eB,b8,m8,D8,bi,n8⟩
   refine⟨W7,rfl,W7,?_⟩
   refine ite2 (λ_=>?_) (λ_=>?_)
   ·refine⟨W7,d,eB,rfl,D8,λtV H9 D9 n9 k9=>⟨_,rfl,fin tV H9 D9 (n9.trans n8) (k8.trans (k9.sub ZM))⟩⟩
   ·exact⟨W7,fin eB H8 D8 n8 k8⟩
end
abbrev sRows:Stmt:=top 55
def zi0{X:Cx}{K:Na}(hK:X.K=K):zck X (.type "list") (λxs H Q=>Ex2 λp ys=>Aj3 (xs=[ZZ p]) ((SqL K H p ys)∨( SqT K H p ys)) (∀l,H l=none→Q (ZZ l) (ZW H l ys))):=hK▸zcx
abbrev csRo:Scope:=scOf (eOf (sAt sRows 0))
def csRo_f:∀y∈csRo.names,y.2=.free→(zag sRows).names.lookup y.1=some .cell∨(zag sRows).names.lookup y.1=some .free:=by decide +kernel
def csRo_l:csRo.names.lookup (qR:Str)=some NameKind.free:=by decide +kernel
inductive IspRows(vs:List V)(H:Hp)(Q:VK):Prop
 |mk (d:Nb) (es:List Ent) (h0:vs=[.ref d]) (h2:DrE H d es)
  (h3:∀(l:Nb) (as:Nl) (cq:List Ent) (H':Hp),RwAt H' l as cq→rsOf cq=rsOf es→H l=none→ZE H H'→Q (ZZ l) H'):IspRows vs H Q
def spRows:Sp:=λvs H Q _=>IspRows vs H Q
section
variable{P:Ni}{w:Nk}{K:Na}{mg:Nd}{base:Nm}
def scRows:zak [qR] [qR] (zag sRows):=fsk
def ok_rows(F:Fun K "_law_rows" "_law_rows" sRows f fd)(aq:mg "list" = none):ZC 1 f fd [qR] spRows:=by
 refine F.okL scRows Z1
 obtain⟨d,es,rfl,D0,kq⟩:=h
 have R:=D0.ra
 have aO:=D0.few
 have hu:=zcd hr
 have aw:=sizeLine_eq
 refine⟨_,zah (zau (pe_thaw (zgd (M:=["_law_place",qR]) (ix:=[none,QB 0]) ⟨by rfl,by decide +kernel,by decide +kernel,csRo_f,rfl,ndCr,λj i x h1 h2=>by
     match j,h1,h2 with
     |0,_,h2=>cases h2
     |1,h1,h2=>cases h1;cases h2;exact⟨rfl,csRo_l⟩
     |n+2,h1,_=>cases h1⟩ rfl (ze2 QH) (λC a7 ex s H=>zan 0 ndCr)
    (λC a7 ex s H=>zc0) (λC a7 ex s H=>zbo (ZV 0 (zbp (zi0 (K:=K) rfl) Q4 (by exact aq) Wi (zaa (zb1 (by exact hu) QQ QH) zae))))))),?_⟩
 have nfz:∀o' u',H d≠some (.frz o' u'):=λo' u' z=>by rw[R.dc]at z;cases z
 have aG:(eWV es).length=es.length:=Qa ..
 refine⟨_,rfl,d,_,rfl,R.dc,λo=>⟨λi m ys τ H'=>Ex2 λ(as:Nl) (cq:List Ent)=>Aj9 (m=es.length-i) (i≤es.length) (ys=as.map V.ref) (Ex1 λx=>τ=[x,ZP d]) (H' d=some (.frz o Q7)) (Paired (λa (e:Ent)=>H' a=some (.tup [.str e.1,.ref e.2.2])) as cq) (∀e∈cq,H' e.2.2=some (.lst Z5)) (rsOf cq=rsOf (es.take i)) (Keep [d] H H'),
  ⟨es.length,[],[],ZM,Zc _,rfl,⟨none,rfl⟩,zac,.nil,λe he=>(by cases he),rfl,Keep.wr Qb⟩,?_⟩⟩
 rintro i m1 ys τ H1 ⟨as,cq,rfl,hi,rfl,⟨x0,rfl⟩,hz,aQ,iX,cx,k1⟩
 have gr:cq.length=i:=by
  have:=congrArg List.length cx
  unfold rsOf at this
  rw[Qa,Qa,Zt]at this;omega
 have ba:as.length=i:=by rw[Ya aQ,gr]
 by_cases ae:i<es.length
 ·refine .inr ⟨⟨hz,by rw [aG];exact ae⟩,by rw [Qa];omega,?_⟩
  rintro x H' ⟨rfl,pr,e1,rfl⟩
  have g1:pr=((Sum.inr es[i].1:Key),V.ref es[i].2.2):=by
   rw[Qo,Qc ae]at e1
   exact(Qn e1).symm
  subst g1
  have bG:es[i]∈es:=Qs ae
  have tk:es.take QY=es.take i++[es[i]]:=Ql ae
  generalize es[i]=e at bG tk
  have dW:=R.ro e bG
  have bx:=k1 _ _ dW (by simpa using za3 dW R.dc ZX)
  refine⟨.str e.1,rfl,W7,.str e.1,rfl,d,.ref e.2.2,rfl,.inl ⟨_,Sum.inr e.1,.inr ⟨o,hz⟩,rfl,(zb3 R.nd bG).symm⟩,e.2.2,W7,.inl (Z4 bx),λq hq=>⟨(ZS 2),λt ht=>?_⟩⟩
  have k2:ZE H' (upd (ZW H' q Z5) t (.tup [.str e.1,ZZ q])):=(QD hq).trans (QD ht)
  have bU:(upd (ZW H' q Z5) t (.tup [.str e.1,ZZ q])) t=some (.tup [.str e.1,ZZ q]):=zac
  have bZ:(upd (ZW H' q Z5) t (.tup [.str e.1,ZZ q])) q=some (.lst Z5):=by rw[zaf (zab (o:=_) zac ht)];exact zac
  generalize upd (ZW H' q Z5) t (.tup [.str e.1,ZZ q])=H2 at k2 bU bZ
  refine⟨_,QP,as++[t],cq++[(e.1,e.2.1,q)],rfl,ae,by rw[Qr];rfl,⟨W7⟩,k2 _ _ hz ZM,za5 (Paired.imp' (λa p h=>k2 _ _ h ZM) aQ) (.cons bU .nil),λe' br=>?_,?_,k1.trans (k2.sub ZM)⟩
  ·rcases Qk.mp br with z | z
   ·exact k2 _ _ (iX e' z) ZM
   ·rw[Qd.mp z];exact bZ
  ·rw [tk]
   unfold rsOf at cx ⊢
   rw[Qr,Qr,cx];rfl
 ·have cg:i=es.length:=by exact zar3 ‹_› ‹_›
  subst cg
  refine .inl ⟨⟨hz,W0 aG⟩,λD hD=>?_⟩
  rw[Qt QK]at cx
  have ndD:d≠D:=zab hz hD
  refine⟨d,o,_,(QF ndD hz),nfz,?_⟩
  have tk:∀{c:Nb} {u:HO},H1 c=some u→c≠d→(upd (ZW H1 D W4) d Q7) c=some u:=λh n=>by rw[zaf n,zaf (zab h hD)];exact h
  have kG:H D=none:=zav k1 hD (by simpa using Zn ndD)
  refine kq D as cq _ ⟨QF (Zn ndD) zac,Paired.imp' (λa e h=>tk h (za3 h hz ZX)) aQ,λe he=>tk (iX e he) (za3 (iX e he) hz ZX)⟩ cx kG λc u ec _=>?_
  by_cases aD:c=d
  ·subst aD
   rw[zac,←R.dc];exact ec
  ·exact tk (k1 c u ec (ZR aD)) aD
end
end K21
end
section
namespace L2
open PySem PySem.Spec PyProof.Rows
section
variable{prog:Ni}{w:Nk}
end
section
variable{X:Cx}{i o:Expr}{ty td:TE}
end
end L2
namespace L2
end L2
namespace K21
open PySem L2 Wb
structure HAt(H:Hp)(u:Nb)(hs:List (Str×Int)):Prop where
 dc:H u=some (.dK (hs.map λe=>Z3))
 nd:(hs.map (·.1)).Nodup
def zht{hs:List QJ}{x:Str}(h:x∉hs.map (·.1)):valV (hs.map λe=>Z3) (Sum.inr x)=none:=by
 induction hs with
 |nil=>rfl
 |cons a t ih =>
  rw[Qm,Qg,not_or]at h
  rw[Qm,zbh]
  ·exact ih h.2
  ·intro q;exact h.1 (Wd q).symm
def zd3{hs:List QJ}(nd:(hs.map (·.1)).Nodup){e:Str×Int}(h:e∈hs):valV (hs.map fun e=>Z3) (Sum.inr e.1)=some (.int e.2):=by
 induction hs with
 |nil=>cases h
 | cons a t ih =>
  rw[Qm,Qq]at nd
  rw[Qm]
  rcases Qg.mp h with z | z
  ·subst z;exact zce rfl
  ·rw [zbh]
   ·exact ih nd.2 z
   ·intro q
    exact nd.1 (by rw[Wd q];exact Qj.mpr ⟨e,z,rfl⟩)
def HAt.keep{H H':Hp}{u:Nb}{hs:List QJ}{xs:Nl}(h:HAt H u hs)(k:Keep xs H H')(hu:u∉xs):HAt H' u hs:=⟨k _ _ h.dc hu,h.nd⟩
def hueV(hs:List QJ)(z:Str):V:=(valV (hs.map λe=>Z3) (Sum.inr z)).getD .non
def HAt.new{H:Hp}{u:Nb}{hs:List QJ}(h:HAt H u hs){x:Str}(v:Int)(hx:x∉hs.map (·.1)):HAt (upd H u (.dK (putK (hs.map λe=>Z3) (Sum.inr x) (W6 v)))) u (hs++[(x,v)]):=by
 refine⟨by rw[zac,zdw _ (zht hx),Qr];rfl,?_⟩
 rw[Qr,Zd]
 refine⟨h.nd,Qq.mpr ⟨ZM,Zo⟩,λy hy z hz e=>?_⟩
 have gj:z=x:=by simpa using hz
 exact hx (by rw[←gj,←e];exact hy)
end K21
namespace K21
open PySem L2 Wb
inductive IspPieceL(vs:List V)(H:Hp)(Q:VK):Prop
 |mk (d:Nb) (es:List Ent) (x:Str) (h0:vs=[.ref d,.str x]) (h1:RAt H d es) (h2:es.length≤60) (h3:∀z y,y∈row (rsOf es) z→y∈es.map (·.1)) (h4:x∈es.map (·.1)) (h5:∀(l:Nb) (zs:Nf) (H':Hp),H' l=some (.lst (zs.map V.str))→zs.Nodup→zs.Pairwise leS→(∀y,y∈zs↔Conn (row (rsOf es)) x y)→H l=none→Keep [] H H'→Q (.ref l) H'):IspPieceL vs H Q
def spPieceL:Sp:=λvs H Q _=>IspPieceL vs H Q
section
variable{P:Ni}{w:Nk}{K:Na}{mg:Nd}{base:Nm}
def ok_pieceL{f:Nb}{fd:Nr}(F:Fun K "piece_from" "piece_from" zg7 f fd)(aN:mg "sorted" = none):ZC 1 f fd ["rounds", "start"] spPieceL :=
 (ok_pieceG false F aN).imp λvs H Q E ⟨d,es,x,e,T,r1,r2,r3,r4⟩=>⟨d,es,x,e,⟨T.dc,T.ro,T.nd⟩,r1,r2,r3,r4⟩
end
end K21
namespace K21
open PySem L2 Wb
structure HF(H:Hp)(u:Nb)(hs:List (Str×Int)):Prop where
 dc:H u=some (.dK (hs.map λe=>Z3))∨∃o,H u=some (.frz o (.dK (hs.map λe=>Z3)))
 nd:(hs.map (·.1)).Nodup
def HF.get(h:HF H u hs)(k:Key):DGet H u (kV k) (valV (hs.map λe=>Z3) k):=.inl ⟨_,k,h.dc,rfl,rfl⟩
def HF.keep(h:HF H u hs)(k:ZE H H'):HF H' u hs:=⟨h.dc.imp (λe=>k _ _ e ZM) λ⟨o,e⟩=>⟨o,k _ _ e ZM⟩,h.nd⟩
def tw(hs:List QJ)(h0 o:Int)(y:Str):Bool:=inV (hueV hs y) [V.int h0,V.int o]
def r2(es:List Ent)(hs:List QJ)(h0 o:Int)(z:Str):List Str:=(ZG z).filter (tw hs h0 o)
end K21
namespace L2
open PySem PySem.Spec PyProof.Rows
def pi_lstK{X:Cx}{K:Na}{tg l:Expr}{tl:TE}(hK:X.K=K)(hl:PE X l tl):PI X tg l (iList K tl):=hK▸zao hl
def or_no{t u:TT}{A B:TS}{D:Ends}{σ:St}{H:Hp}(ht:∀k:Bool→Hp→Prop,k false H→t σ H k)(hu:∀k:Bool→Hp→Prop,k false H→u σ H k)(q:B D σ H):tIfS (tOr t u) A B D σ H :=
 ht _ (by
  show if(false=true) then _ else u σ H (λb H1=>if b=true then A D σ H1 else B D σ H1)
  exact iteF (hu _ (iteF q)))
end L2
namespace K21
open PySem L2 Wb
abbrev zh3:Stmt:=inClass sWeb 2
abbrev zdk:Stmt:=top 17
def vltOf:Expr→Expr
 |.DictComp _ e _ _ _=>e
 |e=>e
def valH_is(hs:List QJ)(z:Str):valV (hs.map λe=>Z3) (Sum.inr z)=none∨∃n,valV (hs.map λe=>Z3) (Sum.inr z)=some (W6 n):=by
 induction hs with
 |nil=>exact .inl rfl
 |cons a t ih =>
  rw[Qm]
  by_cases h:a.1=z
  ·rw[h,zce rfl];exact .inr ⟨_,rfl⟩
  ·rw[zbh (λq=>h (Wd q))];exact ih
def conn_two{es fs:List Ent}{hs:List QJ}{h o:Int}{s:Str}{ws:Nf}(gl:ws=(es.map (·.1)).filter (tw hs h o))(fX:∀ z y,y∈ZG z→y∈es.map (·.1))(aw:s∈ws)(hf:∀z,row (rsOf fs) z=if z∈ws then(ZG z).filter λy=>decide (y∈ws) else[])(y:Str):Conn (row (rsOf fs)) s y↔Conn (r2 es hs h o) s y:=by
 constructor
 ·intro c
  induction c with
  |refl=>exact .refl
  | @step z y _ hz ih =>
   rw[hf]at hz
   split at hz
   ·have:=Zj.mp hz
    have hy:=of_decide_eq_true this.2
    rw[gl]at hy
    exact .step ih (Zj.mpr ⟨this.1,(Zj.mp hy).2⟩)
   ·cases hz
 ·intro c
  suffices Conn (row (rsOf fs)) s y∧y∈ws from this.1
  induction c with
  |refl=>exact⟨.refl,aw⟩
  |@step z y _ hz ih =>
   have:=Zj.mp hz
   have hy:y∈ws:=by rw[gl];exact Zj.mpr ⟨fX z y this.1,this.2⟩
   exact⟨.step ih.1 (by rw[hf,if_pos ih.2];exact Zj.mpr ⟨this.1,WW hy⟩),hy⟩
inductive zho(C:Nb)(vs:List V)(H:Hp)(Q:VK):Prop
 |mk (x dx d:Nb) (es:List Ent) (e:Ent) (h0:vs=[.ref x,.str e.1]) (h1:WAt H C x dx d es) (h2:e∈es) (h3:∀l,H l=none→Q (.ref l) (upd H l (.lst (e.2.1.map V.str)))):zho C vs H Q
def zdh(C:Nb):Sp:=λvs H Q _=>zho C vs H Q
inductive IspChain(C:Nb)(vs:List V)(H:Hp)(Q:VK):Prop
 |mk (x dx d u:Nb) (es:List Ent) (hs:List (Str×Int)) (s:Str) (h o:Int) (h0:vs=[.ref x,.ref u,.str s,.int o]) (h1:WAt H C x dx d es) (h2:es.length≤40) (h2':∀e∈es,e.2.1.length≤100) (h3:∀z y,y∈row (rsOf es) z→y∈es.map (·.1)) (h4:HF H u hs) (h5:(s,h)∈hs) (h6:s∈es.map (·.1)) (h8:o≠h) (h9:0≤o)
  (h7:∀(l:Nb) (zs:Nf) (H':Hp),H' l=some (.lst QN)→zs.Nodup→zs.Pairwise leS→(∀y,y∈zs↔Conn (r2 es hs h o) s y)→H l=none→ZE H H'→Q (ZZ l) H'):IspChain C vs H Q
def spChain(C:Nb):Sp:=λvs H Q _=>IspChain C vs H Q
abbrev csA:Scope:=scOf (eOf (sAt zdk 3))
def csA_f:∀y∈csA.names,y.2=.free→(zag zdk).names.lookup y.1=some .cell∨(zag zdk).names.lookup y.1=some .free:=by decide +kernel
def csA_l:csA.names.lookup ("hues" : Str)=some NameKind.free:=by decide +kernel
def csA_m:csA.names.lookup ("two" : Str)=some NameKind.free:=by decide +kernel
def ndA:(["place", "hues", "two"]:List Str).Nodup:=by decide +kernel
abbrev csB:Scope:=scOf (eOf (sAt zdk 4))
def csB_f:∀y∈csB.names,y.2=.free→(zag zdk).names.lookup y.1=some .cell∨(zag zdk).names.lookup y.1=some .free:=by decide +kernel
def csB_l:csB.names.lookup ("web" : Str)=some NameKind.free:=by decide +kernel
def csB_m:csB.names.lookup ("within" : Str)=some NameKind.free:=by decide +kernel
def ndB:(["place", "web", "within"]:List Str).Nodup:=by decide +kernel
abbrev csD:Scope:=scOf (vltOf (eOf (sAt zdk 4)))
def csD_f{env:Env}(h:env.scope=zag zdk):∀y∈csD.names,y.2=.free→(relabel csB env).names.lookup y.1=some .cell∨(relabel csB env).names.lookup y.1=some .free:=by
 unfold relabel Env.kindOf
 rw[h]
 decide +kernel
def csD_l:csD.names.lookup ("within" : Str)=some NameKind.free:=by decide +kernel
def ndD:(["beside", "within"]:List Str).Nodup:=by decide +kernel
section
variable{P:Ni}{w:Nk}{K:Na}{mg:Nd}{base:Nm}
def scRoundOf:zak ["self", "place"] ["self", "place"] (zag zh3):=fsk
def ok_roundof(F:Fun K "round_of" "Web.round_of" zh3 f fd)(cW:Cls K C)(nW:zd2 K C "rounds")(aq:mg "list" = none):ZC 1 f fd ["self", "place"] (zdh C):=by
 refine F.okL scRoundOf Z1
 obtain⟨x,dx,d,es,e,rfl,wt,he,k⟩:=h
 have hu:=zcd hr
 refine⟨_,zad (zb0 (zcm (zc3 hu QQ (pe_fld QH rfl))) (zah ps_no) zas)
  (zah (zau (zbp zcx Q4 aq Wi (zaa (zb1 hu (pe_fld QH rfl) QQ) zae)))),?_⟩
 have g:=DGet.k (k:=Sum.inr e.1) wt.ta.dc
 rw[zb3 wt.ta.nd he]at g
 refine⟨W7,W7,x,C,dx,_,W7,wt.ob,cW,nW,rfl,d,W7,g,W7,zbl rfl ?_⟩
 exact⟨W7,x,C,dx,_,W7,wt.ob,cW,nW,rfl,W7,d,W7,g,e.2.2,W7,.inr (WV (wt.ta.ro e he)),k⟩
def zh1:zak ["web", "hues", "start", "other", "two", "within", "rounds"] ["web", "hues", "start", "other"] (zag zdk):=fsk
def ok_chain(F:Fun K "chain" "chain" zdk f fd)(cW:Cls K C)(nW:zd2 K C "rounds")(mP:Meth K C "places" fp)(bP:Binds K fdp ["self"] [])(GP:ZC 1 fp fdp ["self"] (zhy C))(mR:Meth K C "round_of" fr)(bR:Binds K fdr ["self", "place"] [])(GR:ZC 1 fr fdr ["self", "place"] (zdh C))(GF:ZI "piece_from" ["rounds", "start"] 1 spPieceL) :
  FnOk P w K mg base CX0 2 f fd ["web", "hues", "start", "other"] (spChain C):=by
 refine F.okL zh1 QG
 obtain⟨x,dx,d,u,es,hs,s,h0,o,rfl,wt,aO,bw,fX,hh,r9,ke,hoh,ho,k⟩:=h
 have hu:=zcd hr
 have am:Room 1 _:=hr.mono ZU
 have aw  := sizeLine_eq
 refine⟨_,zad (zb0 (PW.pt (pw_or (zcm (zc3 hu Q8 QQ)) (pw_or1 (zcm (zc3 hu Q8 (pe_fld QH rfl)))))) (zah ps_no) zas)
  (zad (zb0 (PW.pt (pw_or (zaq op_eq (pv 3) (zb1 hu QQ Q8) (zbe _)) (pw_or1 (zaq op_lt (pv 3) zai (zbe _))))) (zah ps_no) zas)
  (zad (zff (i:=4) zh1.nd rfl (Or.inr rfl) (zbo (zaa (zb1 hu QQ Q8) (Z0 3))))
  (zad (zff (i:=5) zh1.nd rfl (Or.inr rfl) (zgd (M:=["place", "hues", "two"]) (ix:=[none,QB 1,QB 4]) ⟨by rfl,by decide +kernel,by decide +kernel,csA_f,rfl,ndA,λj i x h1 h2=>by
      match j,h1,h2 with
      |0,_,h2=>cases h2
      |1,h1,h2=>cases h1;cases h2;exact⟨rfl,csA_l⟩
      |2,h1,h2=>cases h1;cases h2;exact⟨rfl,csA_m⟩
      |n+3,h1,_=>cases h1⟩ rfl (zao (pe_meth0 (pl:=_) QH cW mP GP am bP .nil zc9)) (λC a7 ex s H=>zan 0 ndA)
      (λC a7 ex s H=>zco (PW.pt (pw_and (zcm (pc_din (by exact hu) QH QQ)) (zh7 (zaq (ze3 (K:=K) rfl) (zb1 (by exact hu) QQ QH) Q8 rfl))))) (λC a7 ex s H=>pv 0)))
  (zad (ps_dc (i:=6) (M:=["place", "web", "within"]) (ix:=[none,QB 0,QB 5]) zh1.nd rfl rfl ⟨by rfl,by decide +kernel,by decide +kernel,csB_f,rfl,ndB,fun j i x h1 h2=>by
      match j,h1,h2 with
      |0,_,h2=>cases h2
      |1,h1,h2=>cases h1;cases h2;exact⟨rfl,csB_l⟩
      |2,h1,h2=>cases h1;cases h2;exact⟨rfl,csB_m⟩
      |n+3,h1,_=>cases h1⟩ rfl (zao (pv 5)) (λC a7 ex s H=>zan 0 ndB)
      (λC a7 ex s H=>zc0) (λC a7 ex s H=>pv 0)
      (fun C a7 ex s H=>zgd (M:=["beside", "within"]) (ix:=[none,QB 2]) ⟨by rfl,by decide +kernel,by decide +kernel,csD_f rfl,rfl,ndD,fun j i x h1 h2=>by
       match j,h1,h2 with
       |0,_,h2=>cases h2
       |1,h1,h2=>cases h1;cases h2;exact⟨rfl,csD_l⟩
       |n+2,h1,_=>cases h1⟩ rfl (pi_lstK (K:=K) rfl (zgc (pl:=_) QQ cW mR GR (by exact am) bR .nil zc9 (Z0 0))) (λC a7 ex s H=>zan 0 ndD)
       (λC a7 ex s H=>zco (zaq (ze3 (K:=K) rfl) QH QQ rfl)) (λC a7 ex s H=>pv 0)) rfl)
  (zah (zau (pcl GF am (ZV 6 Q8)))))))),?_⟩
 have ay:=wt.ta.nd
 obtain⟨en,bq,tt⟩:=Qj.mp ke
 have nh:en.1=s:=tt
 have di:valV (hs.map λe=>Z3) (Sum.inr s)=some (W6 h0):=zd3 hh.nd r9
 have g1:∀{H':Hp},HF H' u hs→DGet H' u (.str s) (QB (W6 h0)):=λ{H'} hh'=>by
  have:=hh'.get (Sum.inr s)
  rwa[di]at this
 have g2:DGet H d (.str s) (QB (.ref en.2.2)):=by
  have:=DGet.k (k:=Sum.inr en.1) wt.ta.dc
  rw[zb3 ay bq,nh]at this
  exact this
 have qQ:tw hs h0 o s=true:=by
  unfold tw hueV
  rw[di]
  show(_||_)=true
  rw[Xj]
  exact .inl (beq_self_eq_true h0)
 refine or_no (λk hk=>⟨_,rfl,_,rfl,u,_,rfl,g1 hh,_,rfl,hk⟩) (λk hk=>⟨_,rfl,_,rfl,x,C,dx,_,_,rfl,wt.ob,cW,nW,rfl,d,_,rfl,g2,_,rfl,hk⟩) ?_
 dsimp only[tNext]
 refine or_no (λk hk=>⟨_,rfl,_,rfl,_,rfl,u,_,rfl,g1 hh,rfl,_,rfl,?_⟩) (λk hk=>⟨_,rfl,_,_,rfl,rfl,_,rfl,?_⟩) ?_
 ·rw[decide_eq_false (λe=>hoh (by injection e))];exact hk
 ·rw[decide_eq_false ZO];exact hk
 refine⟨W7,W7,u,W7,g1 hh,W7,(ZS 2),λtp iT=>?_⟩
 have k1:ZE H (upd H tp (.tup [W6 h0,W6 o])):=Keep.new iT
 have dk:(upd H tp (.tup [W6 h0,W6 o])) tp=some (.tup [W6 h0,W6 o]):=zac
 generalize upd H tp (.tup [W6 h0,W6 o])=H1 at k1 dk
 have pW:∀{H':Hp},ZE H H'→WAt H' C x dx d es:=λkk=>wt.keep kk ZM ZM λ_ _=>by simp
 refine⟨W7,x,dx,W7,(pW k1).ob,rfl,x,dx,d,es,rfl,pW k1,λpl bd=>⟨pl,rfl,⟨_,Z4 zac⟩,?_⟩⟩
 have k2:ZE H (ZW H1 pl QE):=k1.trans (QD bd)
 have lS:(ZW H1 pl QE) pl=some (.lst QE):=zac
 have bU:(ZW H1 pl QE) tp=some (.tup [W6 h0,W6 o]):=by rw[zaf (zab dk bd)];exact dk
 generalize upd H1 pl (.lst QE)=H2 at k2 lS bU
 have sr:HF H2 u hs:=hh.keep k2
 refine ze4 (xs:=(es.map (·.1)).map V.str) (λ τ=>∃x0,τ=[x0,some (.ref u),some (.ref tp)]) (λv=>match v with | .str z=>tw hs h0 o z | _=>false) (SqL.of lS) (by rw[Qa,Qa];omega) ⟨none,rfl⟩ ?_ (λwi hwi=>?_)
 ·rintro v hv τ ⟨x0,rfl⟩ q1 q0 h1 pF
  obtain⟨z,hz,rfl⟩:=Qj.mp hv
  have gz:=sr.get (Sum.inr z)
  refine⟨W7,W7,u,W7,gz,W7,?_⟩
  rcases valH_is hs z with hn | ⟨n,hn⟩
  ·rw [hn]
   exact iteF (iteF (pF (by show tw hs h0 o z=false;unfold tw hueV;rw[hn];rfl) _ ⟨_,rfl⟩))
  ·rw [hn] at gz ⊢
   refine iteT ⟨_,rfl,_,rfl,u,_,rfl,gz,_,rfl,tp,_,rfl,.inr (WV bU),rfl,rfl,_,rfl,?_⟩
   have e2:(if false=true then !inV (W6 n) [W6 h0,W6 o] else inV (W6 n) [W6 h0,W6 o])=tw hs h0 o z:=by unfold tw hueV;rw[hn];rfl
   rw[e2]
   cases htw:tw hs h0 o z with
   |false=>exact iteF (pF htw _ ⟨_,rfl⟩)
   |true=>exact iteT ⟨_,rfl,h1 htw _ ⟨_,rfl⟩⟩
 have ew:((es.map (·.1)).map V.str).filter (λv=>match v with | .str z=>tw hs h0 o z | _=>false)=((es.map (·.1)).filter (tw hs h0 o)).map V.str:=Ji
 rw[ew]
 obtain⟨ws,gl⟩:∃ws,ws=(es.map (·.1)).filter (tw hs h0 o):=⟨_,rfl⟩
 rw[←gl]
 have df:ws.Nodup:=gl▸Yx Jd ay
 have hwe:∀z∈ws,z∈es.map (·.1):=λz hz=>by rw[gl]at hz;exact(Zj.mp hz).1
 have dh:ws.length≤es.length:=by
  have:=zcs df hwe
  rwa[Qa]at this
 have j':s∈ws:=by rw[gl];exact Zj.mpr ⟨ke,qQ⟩
 have k3:ZE H (ZW H2 wi (ws.map V.str)):=k2.trans (QD hwi)
 have iP:(ZW H2 wi (ws.map V.str)) wi=some (QZ (ws.map V.str)):=zac
 generalize upd H2 wi (QZ (ws.map V.str))=H3 at k3 iP
 refine⟨W7,wi,rfl,⟨_,Z4 iP⟩,?_⟩
 refine⟨λi m ys τ H'=>Aj5 (m=ws.length-i) (i≤ws.length) (∃x0,τ=[x0,ZP x,ZP wi]) (ZE H3 H') (Ex1 λ(fs:List Ent)=>Aj4 (ys=eWV fs) (rsOf fs=(ws.take i).map λz=>(z,(ZG z).filter λy=>decide (y∈ws))) (∀e∈fs,H' e.2.2=some (.lst Z5)) (∀e∈fs,H3 e.2.2=none)),
  ⟨_,rfl,Zc _,⟨none,rfl⟩,λ_ _ e _=>e,[],rfl,rfl,λe he=>(by cases he),λe he=>(by cases he)⟩,?_⟩
 rintro i m ys τ H4 ⟨rfl,hi,⟨x0,rfl⟩,k4,fs,rfl,cx,eY,kG⟩
 have ik:fs.map (·.1)=ws.take i:=by
  rw[←zbi,cx,Zk]
  exact List.map_id _
 have gY:fs.length=i:=by
  have:=congrArg List.length ik
  rw[Qa,Zt]at this;omega
 have gJ:=k4 _ _ iP ZM
 by_cases ae:i<ws.length
 ·refine .inr ⟨⟨_,_,Z4 gJ,by rw [Qo,Qc ae];rfl⟩,by rw [Qa,gY];omega,?_⟩
  rintro v H4 ⟨rfl,hv⟩
  have aT:=hv _ (Z4 gJ)
  rw[Qo,Qc ae]at aT
  have qJ:v=.str ws[i]:=(Qn aT).symm
  subst qJ
  have hzw:ws[i]∈ws:=Qs ae
  obtain⟨e,he,ph⟩:=Qj.mp (hwe _ hzw)
  have mZ:e.1=ws[i]:=ph
  have w4:=pW (k3.trans k4)
  have tk:ws.take QY=ws.take i++[ws[i]]:=Ql ae
  have hzf:ws[i]∉fs.map (·.1):=by
   rw[ik]
   have:(ws.take QY).Nodup:=Yx (Uk _ _) df
   rw[tk,Zd]at this
   exact λz=>this.2.2 _ z _ (Qd.mpr rfl) rfl
  have du:ZG ws[i]=e.2.1:=by rw[←mZ];exact zaw ay he
  have gr:=bw e he
  refine⟨W7,W7,x,dx,W7,w4.ob,rfl,W7,x,dx,d,es,e,by rw[mZ];rfl,w4,he,λl hl=>⟨l,rfl,⟨_,Z4 zac⟩,?_⟩⟩
  have k5:ZE H4 (ZW H4 l Z5):=Keep.new hl
  have cD:(ZW H4 l Z5) l=some (.lst Z5):=zac
  generalize upd H4 l (.lst Z5)=H5 at k5 cD
  have qG:=k5 _ _ gJ ZM
  refine ze4 (xs:=e.2.1.map V.str) (λ τ=>∃x0,τ=[x0,some (.ref wi)]) (λv=>match v with | .str z=>decide (z∈ws) | _=>false) (SqL.of cD) (by rw[Qa];omega) ⟨none,rfl⟩ ?_ (λq hq=>?_)
  ·rintro v hv τ ⟨x0,rfl⟩ q1 q0 h1 pF
   obtain⟨z,hz,rfl⟩:=Qj.mp hv
   refine⟨W7,W7,wi,W7,.inl (Z4 qG),rfl,zcj _,W7,?_⟩
   have e2:(if false=true then !inV (.str z) (ws.map V.str) else inV (.str z) (ws.map V.str))=decide (z∈ws):=ze7
   rw[e2]
   cases hb:decide (z∈ws) with
   |false=>exact iteF (pF hb _ ⟨_,rfl⟩)
   |true=>exact iteT ⟨_,rfl,h1 hb _ ⟨_,rfl⟩⟩
  ·have eq:(e.2.1.map V.str).filter (fun v=>match v with | .str z=>decide (z∈ws) | _=>false)=(e.2.1.filter fun z=>decide (z∈ws)).map V.str:=Ji
   rw[eq]
   refine⟨Sum.inr ws[i],rfl,ws.length-QY,ZO,rfl,ae,⟨W7⟩,(k4.trans k5).trans (QD hq),fs++[(ws[i],e.2.1.filter λz=>decide (z∈ws),q)],put_new (r:=e.2.1.filter λz=>decide (z∈ws)) hzf,?_,λe' br=>?_,λe' br=>?_⟩
   ·rw [tk,Qr,← cx,← du]
    unfold rsOf
    rw[Qr];rfl
   ·rcases Qk.mp br with z | z
    ·have:=k5 _ _ (eY e' z) ZM
     rw[zaf (zab this hq)];exact this
    ·rw[Qd.mp z];exact zac
   ·rcases Qk.mp br with z | z
    ·exact kG e' z
    ·rw[Qd.mp z];exact zav (k4.trans k5) hq ZM
 ·have e:i=ws.length:=by omega
  subst e
  rw[Qt QK]at cx ik
  refine .inl ⟨⟨_,Z4 gJ,W0 Qa⟩,λdd gu=>?_⟩
  have RF:RAt (upd H4 dd (.dK (eWV fs))) dd fs:=⟨zac,λe he=>by rw[zaf (zab (eY e he) gu)];exact eY e he,Z2 ik df⟩
  have kf:ZE H (upd H4 dd (.dK (eWV fs))):=(k3.trans k4).trans (QD gu)
  generalize upd H4 dd (.dK (eWV fs))=H6 at RF kf
  have hfz:∀z,row (rsOf fs) z=if z∈ws then(ZG z).filter λy=>decide (y∈ws) else[]:=λz=>by
   by_cases hz:z∈ws
   ·rw [if_pos hz]
    have hmem:(z,(ZG z).filter λy=>decide (y∈ws))∈rsOf fs:=by rw[cx];exact Qj.mpr ⟨z,hz,rfl⟩
    exact zfe (p:=(z,(ZG z).filter λy=>decide (y∈ws))) (by rw[zbi,ik];exact df) hmem
   ·rw [if_neg hz]
    exact zf9 (by rw[zbi,ik];exact hz)
  refine⟨W7,W7,dd,fs,s,rfl,RF,ZO,λz y hy=>?_,Z2 ik j',λl zs H7 bo cP cr cu fl k7=>k l zs H7 bo cP cr (λy=>(cu y).trans (conn_two gl fX j' hfz y)) (zav kf fl ZM) (kf.trans k7)⟩
  rw[hfz]at hy
  split at hy
  ·rw[ik];exact of_decide_eq_true (Zj.mp hy).2
  ·cases hy
end
end K21
namespace K21
open PySem L2 Wb
abbrev sExIn:Stmt:=top 18
def ex(zs:Nf)(a b:Int)(hs:List QJ):List QJ:=hs.map λe=>(e.1,if e.1∈zs then(if e.2=a then b else a) else e.2)
def ex_keys(zs:Nf)(a b:Int)(hs:List QJ):(ex zs a b hs).map (·.1)=hs.map (·.1):=by
 unfold ex;rw[List.map_map];rfl
def ex_nil(a b:Int)(hs:List QJ):ex [] a b hs=hs:=by
 unfold ex
 rw[Yb (g:=id) λe _=>by simp]
 exact List.map_id _
def ex_put(nd:(hs.map (·.1)).Nodup)(he:e∈hs) :
  putK ((ex zs a b hs).map λe=>Z3) (Sum.inr e.1) (W6 (if e.2=a then b else a))=(ex (zs++[e.1]) a b hs).map λe=>Z3:=by
 unfold putK
 rw[if_pos]
 ·unfold ex
  rw[Zk,Zk,Zk]
  refine Yb λq hq=>?_
  show(if(Sum.inr q.1:Key)=Sum.inr e.1 then((Sum.inr q.1:Key),V.int (if e.2=a then b else a)) else(Sum.inr q.1,V.int (if q.1∈zs then(if q.2=a then b else a) else q.2)))=(Sum.inr q.1,V.int (if q.1∈zs++[e.1] then(if q.2=a then b else a) else q.2))
  by_cases h:q.1=e.1
  ·have hqe:q=e:=by
    obtain⟨i,hi,rfl⟩:=Zv hq
    obtain⟨j,hj,rfl⟩:=Zv he
    have:i=j:=(Wa (h₀:=by rw[Qa];exact hi) (h₁:=by rw[Qa];exact hj) nd).mp (by rw[Zl,Zl];exact h)
    subst this;rfl
   subst hqe
   rw[if_pos rfl,if_pos (Qh _ Qb)]
  ·rw [if_neg fun z=>h (Wd z)]
   by_cases hz:q.1∈zs
   ·rw[if_pos hz,if_pos (Qp _ hz)]
   ·rw[if_neg hz,if_neg λz=>by
     rcases Qk.mp z with y | y
     ·exact hz y
     ·exact h (Qd.mp y)]
 ·rw [Yh]
  unfold ex
  rw[Zk]
  exact⟨_,Qj.mpr ⟨e,he,rfl⟩,ZM⟩
inductive IspExIn(vs:List V)(H:Hp)(Q:VK):Prop
 |mk (u l:Nb) (hs:List (Str×Int)) (zs:Nf) (a b:Int) (h0:vs=[.ref u,.ref l,.int a,.int b]) (h1:HF H u hs) (h2:H l=some (.lst (zs.map V.str))) (h3:∀z∈zs,z∈hs.map (·.1)) (h3':hs.length≤40)
  (h4:∀(t:Nb) (H':Hp),H t=none→HAt H' t (ex zs a b hs)→ZE H H'→Q (ZZ t) H'):IspExIn vs H Q
def spExIn:Sp:=λvs H Q _=>IspExIn vs H Q
section
variable{P:Ni}{w:Nk}{K:Na}{mg:Nd}{base:Nm}
def scExIn:zak ["hues", "places", "one", "other", "told", "place"] ["hues", "places", "one", "other"] (zag sExIn):=fsk
def ok_exin(F:Fun K "exchanged_in" "exchanged_in" sExIn f fd)(cj:mg "dict" = none):ZC 1 f fd ["hues", "places", "one", "other"] spExIn:=by
 refine F.okL scExIn Z1
 obtain⟨u,l,hs,zs,a,b,rfl,hh,hl,hzh,iq,k⟩:=h
 have hu:=zcd hr
 have aw  := sizeLine_eq
 refine⟨_,zad (zar 4 scExIn.nd (zbp zfl Q4 cj Xc (Z0 0)))
  (zad (zba Ze rfl (zao QQ) (zan 5 scExIn.nd)
   (zah (zb5 hu (pv 4) (pv 5) (pe_ifExp (zaq op_eq (zb1 hu QH (pv 5)) Q8 (zbe _)) (pv 3) Q8) rfl)))
  (zah (zau (pv 4)))),?_⟩
 refine⟨W7,u,W7,hh.dc,λt ht=>?_⟩
 have k1:ZE H (upd H t (.dK (hs.map λe=>Z3))):=Keep.new ht
 have dk:HAt (upd H t (.dK (hs.map λe=>Z3))) t (ex (zs.take 0) a b hs):=⟨by rw[zac,List.take_zero,ex_nil],by rw[ex_keys];exact hh.nd⟩
 generalize upd H t (.dK (hs.map λe=>Z3))=H1 at k1 dk
 refine⟨_,rfl,l,rfl,⟨_,Z4 (k1 _ _ hl ZM)⟩,zbf (xs:=zs.map V.str) (λi σ H'=>Aj3 (Ex1 λx5=>σ=[ZP u,ZP l,QB (W6 a),QB (W6 b),ZP t,x5]) (HAt H' t (ex (zs.take i) a b hs)) (ZE H H'))
  ⟨⟨_,rfl⟩,dk,k1⟩ (λi σ H' _ q=>SqL.of (q.3 _ _ hl ZM)) ?_ ?_⟩
 ·rintro i v σ H2 hv ⟨⟨x5,rfl⟩,bU,k2⟩
  have hi:i<zs.length:=by
   have:=(Qz.mp hv).1
   rwa[Qa]at this
  have qJ:v=.str zs[i]:=by
   rw[Qo,Qc hi]at hv
   exact(Qn hv).symm
  subst qJ
  obtain⟨e,he,ez⟩:=Qj.mp (hzh _ (Qs hi))
  have ez':e.1=zs[i]:=ez
  have tk:zs.take QY=zs.take i++[e.1]:=by rw[ez'];exact Ql hi
  have hg:=(hh.keep k2).get (Sum.inr e.1)
  rw[zd3 hh.nd he]at hg
  rw[←ez']
  have fin:∀v,v=(if e.2=a then b else a)→Aj3 (Ex1 λx5=>[QB (V.ref u),ZP l,QB (W6 a),QB (W6 b),ZP t,QB (.str e.1)]=[QB (V.ref u),ZP l,QB (W6 a),QB (W6 b),ZP t,x5]) (HAt (upd H2 t (.dK (putK ((ex (zs.take i) a b hs).map λe=>Z3) (Sum.inr e.1) (W6 v)))) t (ex (zs.take QY) a b hs)) (ZE H (upd H2 t (.dK (putK ((ex (zs.take i) a b hs).map λe=>Z3) (Sum.inr e.1) (W6 v))))):=λv hv=>by
   subst hv
   refine⟨⟨W7⟩,⟨by rw[zac,ex_put hh.nd he,tk],by rw[ex_keys];exact hh.nd⟩,λc w' ec _=>?_⟩
   rw[zaf (zab ec ht)];exact k2 c w' ec ZM
  have af:((ex (zs.take i) a b hs).map λe=>Z3).length<sizeLine:=by
   unfold ex;rw[List.length_map,List.length_map];omega
  refine⟨W7,W7,u,W7,hg,W7,rfl,W7,?_⟩
  by_cases pj:e.2=a
  ·rw [WW (congrArg V.int pj)]
   exact iteT ⟨_,rfl,_,rfl,_,rfl,t,_,rfl,DPut.k (k:=Sum.inr e.1) bU.dc af,fin b (by rw[if_pos pj])⟩
  ·rw [decide_eq_false (fun q=>pj (by injection q))]
   exact iteF ⟨_,rfl,_,rfl,_,rfl,t,_,rfl,DPut.k (k:=Sum.inr e.1) bU.dc af,fin a (by rw[if_neg pj])⟩
 ·rintro σ H2 ⟨⟨x5,rfl⟩,bU,k2⟩
  rw[Qa,Qt QK]at bU
  exact⟨W7,k t H2 ht bU k2⟩
end
end K21
end
section
namespace HT
open PySem PyProof.Rows
inductive Alike:List Value→List Value→Bool→Prop
 |nil:Alike [] [] false
 |int {a t c u vs ws b}:Alike vs ws b→Alike (.int a t::vs) (.int c u::ws) (if a=c then b else decide (a<c))
 |str {x y:Str} {t u vs ws b}:Alike vs ws b→Alike (.str x t::vs) (.str y u::ws) (if x=y then b else decide (x.cps.toList<y.cps.toList))
def Alike.length(h:Alike vs ws b):vs.length=ws.length:=by
 induction h with
 |nil=>rfl
 |int _ ih=>rw[Qv,Qv,ih]
 |str _ ih=>rw[Qv,Qv,ih]
section
open PySem.SeqAt
open PySem.AutoSeq1 (wpAny_loadPart')
open PySem.MeetsSeq PySem.MeetsSeq2 PySem.MeetsSeq3
def zgw(l b:Nb)(items items2:Array Value)(n n2:Nat)(dd u8:Option Addr)(sl q5:Array (Option Value))(B:Bool)(hi:Alike items.toList items2.toList B) :
  Meets (Builtin.«tuple.__lt__» ⟨[ZZ l,ZZ b],[]⟩) (λ_ R s=>s.heap.get? l=some {cls:=.type "tuple",dict:=dd,data:=.seq items n,slots:=sl}∧s.heap.get? b=some {cls:=.type "tuple",dict:=u8,data:=.seq items2 n2,slots:=q5}∧R (.ok (.ret (.bool B))) s) :=
 .of_wp λprog w A R s h=>by
  obtain⟨hp,g,d,tk,os⟩:=s;obtain⟨hl,hb,h⟩:=h
  have f2:=AutoSeq1.sub_tuple_tuple
  have z1:items.size=items2.size:=by have:=hi.length;simpa using this
  wp_walk using wpAny_loadPart' hl,wpAny_loadPart' hb,wpAny_forIn_list _ (λrest b s'=>b.1=none∧s'=⟨hp,g,d,tk,os⟩∧∃(vs ws:Nj) (B':Bool),rest=vs.zip ws∧Alike vs ws B'∧R (.ok (.ret (.bool B'))) ⟨hp,g,d,tk,os⟩) _
  case turn =>
   rintro⟨y,x⟩ rest b s' ⟨dJ,rfl,vs,ws,B',hz,ha,hR⟩
   cases ha with
   |nil=>rw[List.zip_nil_left]at hz;cases hz
   | @int a t c u vs ws B2 kO =>
    rw[Jj]at hz
    injection hz with bX hrest
    injection bX with hy hx
    subst hy hx
    obtain⟨e,he,mB⟩:=eqAt_int A.in1 ⟨hp,g,d,tk,os⟩ a t c u
    refine wpAny_bind (he prog w _ _ ?_)
    cases e with
    |true =>
     rw[if_pos (mB.mp rfl)]at hR
     wp_walk
     exact⟨rfl,rfl,_,_,_,hrest,kO,hR⟩
    |false =>
     rw[if_neg (λq=>absurd (mB.mpr q) Zh)]at hR
     have dW:=rcLt_int A.in1 ⟨hp,g,d,tk,os⟩ a t c u prog w
     wp_walk using dW
     exact⟨W7,ZR hR⟩
   | @str x' y' t u vs ws B2 kO =>
    rw[Jj]at hz
    injection hz with bX hrest
    injection bX with hy hx
    subst hy hx
    have he:=Uu (A:=A.in1) (s:=⟨hp,g,d,tk,os⟩) x' t y' u
    refine wpAny_bind (he prog w _ _ ?_)
    by_cases e:x'=y'
    ·rw [if_pos e] at hR
     rw[show(x'==y')=true from beq_iff_eq.mpr e]
     wp_walk
     exact⟨rfl,rfl,_,_,_,hrest,kO,hR⟩
    ·rw [if_neg e] at hR
     rw[show(x'==y')=false from beq_eq_false_iff_ne.mpr e]
     have dW:∀(E:Nc) (Q:Nc) (h:Q (.bool (decide (x'.cps.toList<y'.cps.toList))) ⟨hp,g,d,tk,os⟩),wpAny Z8 A.in1 (richCompare .Lt (.str x' t) (.str y' u)) Q E ⟨hp,g,d,tk,os⟩:=λE Q h=>(PyProof.Rows.lt_str h:wpAny Z8 A.in1 (compareOp .Lt (.str x' t) (.str y' u)) Q E ⟨hp,g,d,tk,os⟩)
     wp_walk using dW
     exact⟨W7,ZR hR⟩
  case fin =>
   rintro⟨b1,b2⟩ s' ⟨dJ,rfl,vs,ws,B',hz,ha,hR⟩
   simp only at dJ
   subst dJ
   have hv:B'=decide (items.size<items2.size):=by
    cases ha with
    |nil=>exact(decide_eq_false ZO).symm
    |int _=>rw[Jj]at hz;cases hz
    |str _=>rw[Jj]at hz;cases hz
   rw[hv]at hR
   wp_walk
   exact⟨W7,by simpa[Builtin.Tuple.tupleCompareSizes] using hR⟩
  case h =>
   exact⟨rfl,rfl,items.toList,items2.toList,B,rfl,hi,h⟩
end
section
variable{prog:Ni}{w:Nk}{A:No}{E:Nc}{s:Nh}
def lt_tupA(hl:IsTup s.heap l items)(hb:IsTup s.heap b items2)(hi:Alike items.toList items2.toList B)(hu:A.units<cLine)(h:Q (.bool B) s):ZF (compareOp .Lt (ZZ l) (ZZ b)) Q E s:=by
 obtain⟨⟨cls,dd,data,sl⟩,ho,hc,n,hd⟩:=id hl
 obtain⟨⟨cls2,u8,data2,q5⟩,ko,jB,n2,nr⟩:=id hb
 simp only at hc hd jB nr
 subst hc hd jB nr
 exact richCompare_meets_room (op:=.Lt) ⟨_,ho,rfl⟩ ⟨_,ko,rfl⟩ PySem.F.slot_tuple_lt PySem.F.entry_tuple_lt (PySem.F.args_tuple_lt_2 _ _) (zgw l b items items2 n n2 dd u8 sl q5 B hi)
  ⟨ho,ko,show Value.bool B≠Value.notImplemented∧Q (.bool B) s from⟨(λx=>nomatch x),h⟩⟩ hu
end
end HT
namespace PySem
section
variable{prog:Ni}{w:Nk}{A:No}{R:Nu}{I:Nb}{fp wr:Nl}{n:Nat}{P:Nat→Value→Prop}{St:Nat→Heap→Prop}
abbrev KpT(wr:Nl)(S:Nb)(h0 h:Nm):Prop:=∀b o,b∉wr→b≠S→h0.get? b=some o→h.get? b=some o
abbrev CmpT(prog:Ni)(w:Nk)(A:No)(wr:Nl)(S:Nb)(h0:Nm)(P:Nat→Value→Prop)(bt:Nat→Nat→Bool):Prop :=
 ∀i j vi vj (s:Nh) (Q E:Nc),KpT wr S h0 s.heap→P i vi→P j vj→Q (.bool (bt i j)) s→ZF (richCompare .Lt vi vj) Q E s
def minT_go(W:Walks prog w A.in1 I fp wr n P St)(bt:Nat→Nat→Bool)(h0:Nm)(S:Nb)(fW:CmpT prog w A.in1 wr S h0 P bt)(dM:S∉fp):∀ (k j:Nat) (s:Nh) (vb:Value) (c:Nat),n - (j+1)=k→j+1≤n→St (j+1) s.heap→P (argBest bt j) vb →
  s.heap.get? S=some {cls:=.type "list",dict:=none,data:=.seq #[vb,vb] c,slots:=#[]}→KpT wr S h0 s.heap→(∀v h' tk,P (argBest bt (n-1)) v→KpT wr S h0 h'→R (.ok (.ret v)) {s with heap:=h',toks:=tk}) →
  codeAny Z8 A (.builtin "min.loop" ⟨[ZZ I,.none,ZZ S],[]⟩) R s:=by
 have jH:S∉wr:=λh=>dM (W.sub _ h)
 have nm:(toString "min" ++ toString ".loop" : String) = "min.loop" := by decide
 intro k
 induction k with
 | zero =>
  intro j s vb c hk hj ap hb hS kp hR
  have e:j+1=n:=by omega
  refine codeAny_builtin F.entry_min_loop (by
   rw[Yu Uq _]
   refine(show wpAny _ _ (seqItems? (ZZ S) >>= _) _ _ _ from wpAny_bind (wpAny_seqItems hS rfl ?_))
   refine(show wpAny _ _ (tryCatch (pyNext (ZZ I)) _ >>= _) _ _ _ from wpAny_bind (wpAny_tryCatch (W.done s _ _ (e▸ap) λh' tk q=>?_)))
   refine(show wpAny _ _ (updateSeq S (λ_=>#[]) >>= _) _ _ _ from wpAny_bind (wpAny_updateSeq (q S _ jH hS) rfl (wpAny_bind (wpAny_letGo (wpAny_pure ?_)))))
   exact hR vb _ tk (by rw[←e];exact hb) λb o hw hs z=>(Yc _ _ (Zn hs)).trans (q b o hw (kp b o hw hs z)))
 | succ k ih =>
  intro j s vb c hk hj ap hb hS kp hR
  have lt:j+1<n:=by omega
  refine codeAny_builtin F.entry_min_loop (by
   rw[Yu Uq _]
   refine(show wpAny _ _ (seqItems? (ZZ S) >>= _) _ _ _ from wpAny_bind (wpAny_seqItems hS rfl ?_))
   refine(show wpAny _ _ (tryCatch (pyNext (ZZ I)) _ >>= _) _ _ _ from wpAny_bind (wpAny_tryCatch (W.item (j+1) s _ _ lt ap λv h' tk hP dl q=>?_)))
   have cM:=q S _ jH hS
   have li:KpT wr S h0 h':=λb o hw hs z=>q b o hw (kp b o hw hs z)
   refine(show wpAny _ _ (tryCatch (holding [v,v] (richCompare .Lt v vb >>= _)) _ >>= _) _ _ _ from wpAny_bind (wpAny_tryCatch (wpAny_holding (wpAny_bind (fW (j+1) (argBest bt j) v vb _ _ _ li hP hb ?_)))))
   refine wpAny_bind (wpAny_holding (wpAny_truthy_bool (wpAny_bind (wpAny_letGo (wpAny_pure ?_)))))
   cases hq:bt (j+1) (argBest bt j) with
   | true =>
    rw[if_pos rfl]
    refine wpAny_bind (wpAny_updateSeq cM rfl (wpAny_bind (wpAny_letGo ?_)))
    rw[nm]
    have fZ:argBest bt (j+1)=j+1:=if_pos hq
    exact wpAny_pure ⟨plainId_quiet Uq _,ih (j+1) _ v _ ZO lt (W.frame _ _ _ dl λb hf o z=>(Yc _ _ (λh:S=b=>dM (Z2 h hf))).trans z) (Z2 fZ hP) (Um _ cM rfl)
     (λb o hw hs z=>(Yc _ _ (Zn hs)).trans (li b o hw hs z)) λv' o0 eG p z=>hR v' o0 eG p z⟩
   |false =>
    rw[if_neg Zh]
    refine wpAny_bind (wpAny_letGo ?_)
    rw[nm]
    have fZ:argBest bt (j+1)=argBest bt j:=if_neg (by rw[hq];decide)
    exact wpAny_pure ⟨plainId_quiet Uq _,ih (j+1) _ vb c ZO lt dl (Z2 fZ hb) cM li λv' o0 eG p z=>hR v' o0 eG p z⟩)
def minT_first(W:Walks prog w A.in1 I fp wr n P St)(bt:Nat→Nat→Bool)(h0:Nm)(S:Nb)(fW:CmpT prog w A.in1 wr S h0 P bt)(dM:S∉fp)(hn:0<n)(ap:St 0 s.heap)(hS:s.heap.get? S=some {cls:=.type "list",dict:=none,data:=.seq #[] c,slots:=#[]})(kp:KpT wr S h0 s.heap)(hR:∀v h' tk,P (argBest bt (n-1)) v→KpT wr S h0 h'→R (.ok (.ret v)) {s with heap:=h',toks:=tk}) :
  codeAny Z8 A (.builtin "min.loop" ⟨[ZZ I,.none,ZZ S],[]⟩) R s:=by
 have jH:S∉wr:=λh=>dM (W.sub _ h)
 have nm:(toString "min" ++ toString ".loop" : String) = "min.loop" := by decide
 refine codeAny_builtin F.entry_min_loop (by
  rw[Yu Uq _]
  refine(show wpAny _ _ (seqItems? (ZZ S) >>= _) _ _ _ from wpAny_bind (wpAny_seqItems hS rfl ?_))
  refine(show wpAny _ _ (tryCatch (pyNext (ZZ I)) _ >>= _) _ _ _ from wpAny_bind (wpAny_tryCatch (W.item 0 s _ _ hn ap λv h' tk hP dl q=>?_)))
  have cM:=q S _ jH hS
  refine(show wpAny _ _ (updateSeq S (λ_=>#[v,v]) >>= _) _ _ _ from wpAny_bind (wpAny_updateSeq cM rfl ?_))
  rw[nm]
  exact wpAny_pure ⟨plainId_quiet Uq _,minT_go W bt h0 S fW dM _ 0 _ v _ rfl hn (W.frame _ _ _ dl λb hf o z=>(Yc _ _ (λh:S=b=>dM (Z2 h hf))).trans z) hP (Um _ cM rfl)
   (λb o hw hs z=>(Yc _ _ (Zn hs)).trans (q b o hw (kp b o hw hs z))) λv' o0 eG p z=>hR v' o0 eG p z⟩)
end
section
variable{prog:Ni}{w:Nk}{A:No}{E:Nc}{s:Nh}
def call_minT(h:wpAny Z8 A.in1 (pyIter x) (λit s₂=>∃I fp wr n P St bt,it=.ref I∧Walks prog w A.in1 I fp wr n P St∧St 0 s₂.heap∧(∀b∈fp,b<s₂.heap.objs.size)∧0<n ∧
   CmpT prog w A.in1 wr s₂.heap.objs.size s₂.heap P bt∧∀v h' tk,P (argBest bt (n-1)) v→(∀b o,b∉wr→s₂.heap.get? b=some o→h'.get? b=some o)→Q v {s₂ with heap:=h',toks:=tk}) E s) :
  wpAny Z8 A (call (.builtin "min") [x]) Q E s:=by
 have nm:(toString "min" ++ toString ".loop" : String) = "min.loop" := by decide
 refine call_function_tree F.kind_min F.plain_min F.entry_min (F.args_min1 _) (show wpAny _ _ (Builtin.Builtins.bindParams "min" ["key", "default"] 0 ⟨[],[]⟩ >>= _) _ _ _ from wpAny_bind (wpAny_of_eq (show Builtin.Builtins.bindParams "min" ["key", "default"] 0 ⟨[],[]⟩=pure [none,none] from rfl) (wpAny_bind (wpAny_pure ?_))))
 refine wpAny_bind (wpAny_mono h (λit s₂ ⟨I,fp,wr,n,P,St,bt,e,W,ap,hfp,hn,fW,hQ⟩=>?_) λ_ _ e=>e)
 subst e
 refine wpAny_bind (wpAny_newObj_type ?_)
 rw[nm]
 exact wpAny_pure ⟨plainId_quiet Uq _,minT_first W bt s₂.heap s₂.heap.objs.size fW (λhm=>Ys _ (hfp _ hm)) hn (W.frame _ _ _ ap λb _ o e=>Qi _ e) (Za _ rfl) (λb o _ _ z=>Qi _ z)
  λv h' tk hP hk=>hQ v h' tk hP λb o hw e=>hk b o hw (Zg (Qu e)) e⟩
end
end PySem
end
section
namespace L2
open PySem PySem.Spec PyProof.Rows
def ltK(k l:Nat×Str):Bool:=if(k.1:Int)=(l.1:Int) then(if k.2=l.2 then false else decide (k.2.cps.toList<l.2.cps.toList)) else decide ((k.1:Int)<(l.1:Int))
def leK(k l:Nat×Str):Prop:=k.1<l.1∨k.1=l.1∧leS k.2 l.2
def ltK_irrefl(k:Nat×Str):ltK k k=false:=by unfold ltK;rw[if_pos rfl,if_pos rfl]
def ltK_iff:ltK k l=true↔k.1<l.1∨k.1=l.1∧k.2.cps.toList<l.2.cps.toList:=by
 unfold ltK
 by_cases h:(k.1:Int)=(l.1:Int)
 ·have h':k.1=l.1:=by omega
  rw[if_pos h]
  by_cases h2:k.2=l.2
  ·rw [if_pos h2,h2]
   refine⟨λz=>(by cases z),λz=>?_⟩
   rcases z with z | z
   ·omega
   ·exact absurd z.2 (Wu _)
  ·rw [if_neg h2,decide_eq_true_eq]
   exact⟨λz=>.inr ⟨h',z⟩,λz=>z.elim (λy=>by omega) (·.2)⟩
 ·rw [if_neg h,decide_eq_true_eq]
  exact⟨λz=>.inl ZO,λz=>z.elim (λy=>by omega) λy=>absurd (congrArg Int.ofNat y.1) h⟩
def ltK_trans(h1:ltK a b=true)(h2:ltK b c=true):ltK a c=true:=by
 rw[ltK_iff]at h1 h2 ⊢
 rcases h1 with h1 | ⟨e1,h1⟩
 ·rcases h2 with h2 | ⟨e2,_⟩
  ·exact .inl (Wj h1 h2)
  ·exact .inl (e2▸h1)
 ·rcases h2 with h2 | ⟨e2,h2⟩
  ·exact .inl (e1▸h2)
  ·exact .inr ⟨e1.trans e2,List.lt_trans h1 h2⟩
def leK_of(h:¬ltK l k=true):leK k l:=by
 rw[ltK_iff]at h
 rcases Nat.lt_trichotomy k.1 l.1 with z | z | z
 ·exact .inl z
 ·exact .inr ⟨z,λy=>h (.inr ⟨z.symm,y⟩)⟩
 ·exact absurd (.inl z) h
def zfj(h1:leS x y)(h2:leS y x):x=y:=Tm.str_ext (List.le_antisymm (List.not_lt.mp h1) (List.not_lt.mp h2))
def leK_antisymm(h1:leK k l)(h2:leK l k):k=l:=by
 rcases h1 with h1 | ⟨e,h1⟩
 ·rcases h2 with h2 | ⟨e2,_⟩<;>omega
 ·rcases h2 with h2 | ⟨_,h2⟩
  ·omega
  ·exact Ue e (zfj h1 h2)
theorem zdr(bt:Nat→Nat→Bool)(hi:∀i,bt i i=false)(ht:∀i j k,bt i j=true→bt j k=true→bt i k=true):∀k j,j≤k→¬bt j (argBest bt k)=true
 |0,j,h=>by
  have:j=0:=by omega
  subst this
  show ¬bt 0 0=true
  rw[hi];decide
 | k+1,j,h=>by
  show ¬bt j (if bt (k+1) (argBest bt k)=true then k+1 else argBest bt k)=true
  by_cases ae:bt (k+1) (argBest bt k)=true
  ·rw [if_pos ae]
   by_cases hj:j=k+1
   ·subst hj;rw[hi];decide
   ·exact λz=>zdr bt hi ht k j ZO (ht _ _ _ z ae)
  ·rw [if_neg ae]
   by_cases hj:j=k+1
   ·subst hj;exact ae
   ·exact zdr bt hi ht k j ZO
section
variable{X:Cx}
abbrev KAt(H:Hp):List Addr→List (Nat×Str)→Prop:=Paired λa k=>H a=some (.tup [W6 (k.1:Int),.str k.2])
def kat_at(r:KAt H as ks)(hi:i<as.length):i<ks.length∧H as[i]=some (.tup [W6 ((ks.getD i (0,Str.empty)).1:Int),.str (ks.getD i (0,Str.empty)).2]):=by
 induction r generalizing i with
 |nil=>exact absurd hi (Xg _)
 | cons h t ih =>
  cases i with
  |zero=>exact⟨Nat.zero_lt_succ _,h⟩
  |succ j =>
   obtain⟨a,b⟩:=ih (i:=j) (Xd hi)
   exact⟨Nat.succ_lt_succ a,b⟩
def call_min_is(hc:X.calm=true)(hu:X.A.units+1<cLine):zck X (.builtin "min") (λxs H Q=>Ex3 λ(p:Nb) (as:Nl) (ks:List (Nat×Str))=>Aj5 (xs=[ZZ p]) (SqL X.K H p W4) (KAt H as ks) (ks≠[]) (∀a k,k∈ks→H a=some (.tup [W6 (k.1:Int),.str k.2])→(∀k'∈ks,leK k k')→Q (ZZ a) H)):=by
 intro a7 s σ H xs us Q I r h
 obtain⟨p,as,ks,rfl,hq,hk,av,q⟩:=h
 obtain⟨u,rfl,rx⟩:=vals1 r
 cases rx
 have dy:0<ks.length:=Uo.mpr av
 have ba:as.length=ks.length:=Ya hk
 refine call_minT (zfs hc I hq λa9 It h1 rv W st lt keep=>⟨It,_,_,_,_,_,λi j=>ltK (ks.getD i (0,Str.empty)) (ks.getD j (0,Str.empty)),rfl,W,st,lt,?_,λi j vi vj s' Q' E' kp hi hj dw=>?_,λv h' tk hv k=>?_⟩)
 ·have:=rv.length
  rw[Qa]at this
  rw[Qx];omega
 ·have hl:=rv.length
  rw[Qa]at hl
  have I':=keep s'.heap s'.toks λb o hb e=>kp b o hb (Zg (Qu e)) e
  have gs:∀(i:Nat) (v:Value),a9.toArray[i]?=some v→∃a n t y u,v=.ref a∧IsTup s'.heap a #[.int n t,.str y u]∧n=((ks.getD i (0,Str.empty)).1:Int)∧y=(ks.getD i (0,Str.empty)).2:=λi v e=>by
   have e':a9[i]?=some v:=by simpa using e
   have hi:i<a9.length:=(Qz.mp e').1
   have ao:i<as.length:=by omega
   obtain⟨u,e2,e3⟩:=rv.get (i:=i) (x:=.ref as[i]) (by simp[ao])
   rw[e']at e2
   cases e2
   cases e3
   obtain⟨_,aH,r2,o,e1,c,n,d⟩:=I'.hok _ _ (kat_at hk ao).2
   obtain⟨u1,u2,rfl,⟨t1,rfl⟩,⟨t2,rfl⟩⟩:=vals2 r2
   exact⟨_,_,t1,_,t2,rfl,⟨o,e1,c,n,d⟩,rfl,rfl⟩
  obtain⟨a,n,t,y,u,rfl,h1,rfl,rfl⟩:=gs i vi hi
  obtain⟨a',n',t',y',u',rfl,h2,rfl,rfl⟩:=gs j vj hj
  exact HT.lt_tupA h1 h2 (W6 (.str .nil)) hu dw
 ·have hl:=rv.length
  rw[Qa]at hl
  have gS:=argBest_lt (bt:=λi j=>ltK (ks.getD i (0,Str.empty)) (ks.getD j (0,Str.empty))) (a9.toArray.size-1)
  have least:=zdr (λi j=>ltK (ks.getD i (0,Str.empty)) (ks.getD j (0,Str.empty))) (λi=>ltK_irrefl _) (λi j k=>ltK_trans) (a9.toArray.size-1)
  generalize argBest (λi j=>ltK (ks.getD i (0,Str.empty)) (ks.getD j (0,Str.empty))) (a9.toArray.size-1)=b at hv gS least
  rw[Qx]at gS least
  have aZ:b<as.length:=by omega
  have aT:a9[b]?=some v:=by simpa using hv
  obtain⟨u,e2,e3⟩:=rv.get (i:=b) (x:=.ref as[b]) (by simp[aZ])
  rw[aT]at e2
  cases e2
  cases e3
  obtain⟨dI,dL⟩:=kat_at hk aZ
  have g1:ks.getD b (0,Str.empty)=ks[b]:=by simp[List.getD,dI]
  rw[g1]at dL
  refine⟨.ref as[b],H,keep h' tk k,rfl,q _ ks[b] (Qs dI) dL λk' mr=>?_⟩
  obtain⟨j,hj,rfl⟩:=Zv mr
  have:=least j ZO
  have g2:ks.getD j (0,Str.empty)=ks[j]:=by simp[List.getD,hj]
  rw[g1,g2]at this
  exact leK_of this
end
end L2
end
section
namespace Wb
open PySem L2
def dg(r:Nn)(D:Nf)(y:Str):Nat:=((r y).filter λz=>decide (z∉D)).length
structure Pre(ns:Nf)(r:Nn)(D:Nf):Prop where
 sub:∀x∈D,x∈ns
 nd:D.Nodup
 le:∀(i:Nat) (h:i<D.length),∀z∈ns,z∉D.take i→leK (dg r (D.take i) D[i],D[i]) (dg r (D.take i) z,z)
structure zeb(ns:Nf)(r:Nn)(T:Nf):Prop extends Pre ns r T where
 pm:T.Perm ns
variable{ns ou T T' D:Nf}{r r':Nn}
def zcr{l:Nf}(nd:l.Nodup){i:Nat}(h:i<l.length):l[i]∉l.take i:=λz=>by
 have h2:(l.take QY).Nodup:=Yx (Uk _ _) nd
 rw[Ql h,Zd]at h2
 exact h2.2.2 _ z _ (Qd.mpr rfl) rfl
def Pre.nil:Pre ns r []:=⟨λx hx=>(by cases hx),Zo,λi h=>absurd h (Xg _)⟩
def Pre.snoc(P:Pre ns r D){y:Str}(hy:y∈ns)(oF:y∉D)(hl:∀z∈ns,z∉D→leK (dg r D y,y) (dg r D z,z)):Pre ns r (D++[y]):=by
 refine⟨λx hx=>?_,?_,λi h=>?_⟩
 ·rcases Qk.mp hx with z | z
  ·exact P.sub x z
  ·rw[Qd.mp z];exact hy
 ·rw [Zd]
  exact⟨P.nd,Kx _ _,λa ha b hb e=>oF (by rw[←Qd.mp hb,←e];exact ha)⟩
 ·rw [Qy,Ur] at h
  by_cases hi:i<D.length
  ·rw [List.take_append_of_le_length (Wt hi),List.getElem_append_left hi]
   exact P.le i hi
  ·have hi:i=D.length:=by omega
   subst hi
   rw[List.take_append_of_le_length QK,Qt QK,List.getElem_append_right QK]
   simp only[Kb,List.getElem_singleton]
   exact hl
def Pre.order(P:Pre ns r D)(nd:ns.Nodup)(all:∀x∈ns,x∈D):zeb ns r D:=⟨P,(Ux P.nd nd).mpr λx=>⟨P.sub x,all x⟩⟩
def zeb.one(a:zeb ns r T)(b:zeb ns r T'):T=T':=by
 have hl:T.length=T'.length:=a.pm.length_eq.trans b.pm.length_eq.symm
 have key:∀i,i≤T.length→T.take i=T'.take i:=by
  intro i
  induction i with
  |zero=>intro _;rfl
  |succ i ih =>
   intro h
   have e:=ih (Nat.le_of_succ_le h)
   have hi:i<T.length:=h
   have aK:i<T'.length:=hl▸h
   have h1:=a.le i hi T'[i] (b.sub _ (Qs aK)) (by rw[e];exact zcr b.nd aK)
   have h2:=b.le i aK T[i] (a.sub _ (Qs hi)) (by rw[←e];exact zcr a.nd hi)
   rw[←e]at h2
   have e3:T[i]=T'[i]:=congrArg Prod.snd (leK_antisymm h1 h2)
   rw[Ql hi,Ql aK,e,e3]
 have:=key T.length QK
 rwa[Qt QK,Qt (Xe hl.symm)]at this
def dg_snoc(rn:∀x,(r x).Nodup)(sy:∀x y,y∈r x→x∈r y){x:Str}(hx:x∉D)(y:Str):(dg r D y:Int)-(if y∈r x then 1 else 0)=(dg r (D++[x]) y:Int):=by
 have e:(r y).filter (λz=>decide (z∉D++[x]))=((r y).filter λz=>decide (z∉D)).erase x:=by
  rw[List.Nodup.erase_eq_filter ((rn y).filter _),List.filter_filter]
  apply Kl
  intro z _
  rw[Yy]
  simp only[decide_eq_true_eq,Qk,Qd,not_or,Ju,bne_iff_ne]
  exact⟨λh=>⟨h.2,h.1⟩,λh=>⟨h.2,h.1⟩⟩
 unfold dg
 rw[e]
 by_cases h:y∈r x
 ·have hm:x∈(r y).filter fun z=>decide (z∉D):=Zj.mpr ⟨sy _ _ h,ZR hx⟩
  have hp:=Yd hm
  rw[if_pos h,Yf hm]
  omega
 ·have hm:x∉(r y).filter fun z=>decide (z∉D):=fun z=>h (sy _ _ (Zj.mp z).1)
  rw[if_neg h,List.erase_of_not_mem hm]
  omega
def dg_nil(r:Nn)(y:Str):dg r [] y=(r y).length:=by
 unfold dg
 rw[List.filter_eq_self.mpr λz _=>by simp]
def sorted_one:∀ {l m:Nf},l.Perm m→l.Pairwise leS→m.Pairwise leS→l=m:=by
 intro l
 induction l with
 |nil=>intro m h _ _;exact(List.Perm.nil_eq h)
 | cons a t ih =>
  intro m h p q
  cases m with
  |nil=>exact absurd h.length_eq ZM
  | cons b u =>
   rw[Jk]at p q
   have e:a=b:=by
    have h1:b∈a::t:=h.mem_iff.mpr Qb
    have h2:a∈b::u:=h.mem_iff.mp Qb
    rcases Qg.mp h1 with z | z
    ·exact z.symm
    ·rcases Qg.mp h2 with y | y
     ·exact y
     ·exact zfj (p.1 b z) (q.1 a y)
   subst e
   rw[ih ((List.perm_cons a).mp h) p.2 q.2]
end Wb
namespace K21
open PySem L2 Wb
abbrev zej:Stmt:=top 20
def cnt(ks:Nf)(F:Str→Int):List (Key×V):=ks.map λy=>((Sum.inr y:Key),V.int (F y))
def cnt_out{ks:Nf}{F:Str→Int}{x:Str}(h:x∉ks):valV (cnt ks F) (Sum.inr x)=none:=by
 unfold cnt
 induction ks with
 |nil=>rfl
 |cons a t ih =>
  rw[Qg,not_or]at h
  rw[Qm,zbh]
  ·exact ih h.2
  ·intro q;exact h.1 (Wd q).symm
def cnt_in{ks:Nf}{F:Str→Int}{x:Str}(h:x∈ks):valV (cnt ks F) (Sum.inr x)=some (W6 (F x)):=by
 unfold cnt
 induction ks with
 |nil=>cases h
 | cons a t ih =>
  rw[Qm]
  by_cases e:a=x
  ·rw[zce (by rw[e]),e]
  ·rw [zbh (fun q=>e (Wd q))]
   rcases Qg.mp h with z | z
   ·exact absurd z.symm e
   ·exact ih z
def cnt_new{ks:Nf}{F:Str→Int}{x:Str}(h:x∉ks):putK (cnt ks F) (Sum.inr x) (W6 (F x))=cnt (ks++[x]) F:=by
 rw[zdw _ (cnt_out h)];unfold cnt;rw[List.map_append];rfl
def cnt_put{ks:Nf}{F:Str→Int}{x:Str}(h:x∈ks)(v:Int):putK (cnt ks F) (Sum.inr x) (W6 v)=cnt ks λy=>if y=x then v else F y:=by
 unfold putK cnt
 rw[if_pos]
 ·rw [Zk]
  refine Yb λz _=>?_
  show(if(Sum.inr z:Key)=Sum.inr x then((Sum.inr z:Key),V.int v) else(Sum.inr z,V.int (F z)))=(Sum.inr z,V.int (if z=x then v else F z))
  by_cases e:z=x
  ·rw[if_pos (by rw[e]),if_pos e]
  ·rw[if_neg (λq=>e (Wd q)),if_neg e]
 ·exact Yh.mpr ⟨_,Qj.mpr ⟨x,h,rfl⟩,ZM⟩
def cnt_drop(ks:Nf)(F:Str→Int)(x:Str):dropK (cnt ks F) (Sum.inr x)=cnt (ks.filter λy=>decide (y≠x)) F:=by
 unfold dropK cnt
 rw[Ji]
 congr 1
 apply Kl
 intro y _
 show decide ((Sum.inr y:Key)≠Sum.inr x)=decide (y≠x)
 rw[Yy,decide_eq_true_eq,decide_eq_true_eq]
 exact⟨λh e=>h (by rw[e]),λh e=>h (Wd e)⟩
def zgq{ks:Nf}{F G:Str→Int}(h:∀y∈ks,F y=G y):cnt ks F=cnt ks G:=Yb λy hy=>by rw[h y hy]
def Keep.fr{H H':Hp}{a:Nb}{o:HO}(k:ZE H H')(h:H a=none):ZE H (upd H' a o):=λc u ec hc=>by rw[zaf (zab ec h)];exact k c u ec hc
end K21
namespace K21
open PySem L2 Wb
def wOf:Stmt→List Stmt
 |.While _ b _ _=>b
 |_=>[]
def subOf:Expr→Expr
 |.Subscript a _ _=>a
 |e=>e
abbrev wAt(s:Stmt)(i:Nat):Stmt:=(wOf s).getD i (.Pass ⟨0,0,0,0⟩)
abbrev csOrA:Scope:=scOf (eOf (sAt zej 0))
abbrev csOrB:Scope:=scOf (aOf 0 (subOf (eOf (wAt (sAt zej 2) 0))))
def csOrA_f:∀y∈csOrA.names,y.2=.free→(zag zej).names.lookup y.1=some .cell∨(zag zej).names.lookup y.1=some .free:=by decide +kernel
def csOrA_l:csOrA.names.lookup ("web" : Str)=some NameKind.free:=by decide +kernel
def ndOA:(["place", "web"]:List Str).Nodup:=by decide +kernel
def csOrB_f:∀y∈csOrB.names,y.2=.free→(zag zej).names.lookup y.1=some .cell∨(zag zej).names.lookup y.1=some .free:=by decide +kernel
def csOrB_l:csOrB.names.lookup ("many" : Str)=some NameKind.free:=by decide +kernel
def ndOB:(["place", "many"]:List Str).Nodup:=by decide +kernel
inductive IspOrder(C:Nb)(vs:List V)(H:Hp)(Q:VK):Prop
 |mk (x dx d:Nb) (es:List Ent) (h0:vs=[.ref x]) (h1:WAt H C x dx d es) (h2:es.length≤100) (h3:∀y,(row (rsOf es) y).Nodup) (h4:∀a b,b∈row (rsOf es) a→a∈row (rsOf es) b) (h5:∀(l:Nb) (T:Nf) (H':Hp),H' l=some (.lst (T.map V.str))→zeb (es.map (·.1)) (row (rsOf es)) T→H l=none→Keep [] H H'→Q (.ref l) H'):IspOrder C vs H Q
def spOrder(C:Nb):Sp:=λvs H Q _=>IspOrder C vs H Q
section
variable{P:Ni}{w:Nk}{K:Na}{mg:Nd}{base:Nm}
def zf8:zak ["web", "many", "taken", "least", "other"] ["web"] (zag zej):=fsk
def ok_order{f C fp fr:Nb}{fd fdp fdr:Nr}(F:Fun K "order" "order" zej f fd)(cW:Cls K C)(mP:Meth K C "places" fp)(bP:Binds K fdp ["self"] [])(GP:ZC 1 fp fdp ["self"] (zhy C))(mR:Meth K C "round_of" fr)(bR:Binds K fdr ["self", "place"] [])(GR:ZC 1 fr fdr ["self", "place"] (zdh C))(af:mg "len" = none)(jl:mg "min" = none):ZC 2 f fd ["web"] (spOrder C):=by
 refine F.okL zf8 Z1
 obtain⟨x,dx,d,es,rfl,wt,aO,rn,sy,k⟩:=h
 have hu:=zcd hr
 have aw:sizeLine=16777216:=sizeLine_eq
 refine⟨_,zad (zff (i:=1) zf8.nd rfl (Or.inr rfl) (pe_dc (M:=["place", "web"]) (ix:=[none,QB 0]) ⟨by rfl,by decide +kernel,by decide +kernel,csOrA_f,rfl,by decide +kernel,λj i x h1 h2=>by
     match j,h1,h2 with
     |0,_,h2=>cases h2
     |1,h1,h2=>cases h1;cases h2;exact⟨rfl,csOrA_l⟩
     |n+2,h1,_=>cases h1⟩ rfl (zao (pe_meth0 (pl:=_) QH cW mP GP hr bP .nil zc9)) (λC a7 ex s H=>zan 0 ndOA)
    (λC a7 ex s H=>zc0) (λC a7 ex s H=>pv 0)
    (λC' a7 ex s H=>zal (zew (K:=K) rfl) Q4 (by exact af) Yj (zaa (zgc (pl:=_) QQ (by exact cW) (by exact mR) GR (by exact hr) bR .nil zc9 (Z0 0)) zae))))
  (zad (zar 2 zf8.nd (zbk zae))
  (zad (zem Ze (zel QQ (fun _=>rfl))
   (zad (zar 3 zf8.nd (za2 zbr (zal (call_min_is rfl hu) Q4 jl PyProof.Rows.boot_min (zaa (pe_thaw (zgd (M:=["place", "many"]) (ix:=[none,QB 1]) ⟨by rfl,by decide +kernel,by decide +kernel,csOrB_f,rfl,by decide +kernel,fun j i x h1 h2=>by
     match j,h1,h2 with
     |0,_,h2=>cases h2
     |1,h1,h2=>cases h1;cases h2;exact⟨rfl,csOrB_l⟩
     |n+2,h1,_=>cases h1⟩ rfl (ze2 QQ) (λC a7 ex s H=>zan 0 ndOB)
    (λC a7 ex s H=>zc0) (λC a7 ex s H=>zbo (zaa (zb1 (by exact hu) QQ QH) (Z0 0))))) zae)) zai QC))
   (zad (zbj (zfn Zy Yr Yq zb8 Q8 (Z0 3)))
   (zad (ps_ddel QQ (pv 3))
   (zah (zba Ze rfl (zao (zgc (pl:=_) QH cW mR GR hr bR .nil zc9 (Z0 3))) (zan 4 zf8.nd)
    (zah (zb0 (zcm (pc_din hu (pv 4) QQ)) (zah (ps_daug hu QQ (pv 4) zai in_sub (λ_ _ _=>rfl))) zas))))))))
  (zah (zau Q8)))),?_⟩
 have ay:(es.map (·.1)).Nodup:=wt.ta.nd
 have ax:∀e∈es,ZG e.1=e.2.1:=λe he=>zaw ay he
 generalize gR:es.map (·.1)=ns at ay k
 have kr:ns.length=es.length:=by rw[←gR,Qa]
 refine⟨W7,x,dx,W7,wt.ob,rfl,x,dx,d,es,rfl,wt,λl hl=>?_⟩
 rw[gR]
 have k1:ZE H (ZW H l (ns.map V.str)):=Keep.new hl
 have aJ:(ZW H l (ns.map V.str)) l=some (QZ (ns.map V.str)):=zac
 generalize upd H l (QZ (ns.map V.str))=H1 at k1 aJ
 refine⟨l,rfl,⟨_,Z4 aJ⟩,λi m ys τ H'=>Aj5 (m=es.length-i) (i≤es.length) (Ex1 λx0=>τ=[x0,ZP x]) (ZE H1 H') (ys=cnt (ns.take i) λy=>((dg ZQ [] y:Nat):Int)),
  ⟨es.length,rfl,Zc _,⟨none,rfl⟩,Keep.refl,rfl⟩,?_⟩
 rintro i m ys τ H2 ⟨rfl,hi,⟨x0,rfl⟩,k2,rfl⟩
 have aA:=k2 _ _ aJ ZM
 by_cases ae:i<es.length
 ·have ao:i < ns.length:=kr ▸ ae
  have bG:es[i]∈es:=Qs ae
  have hni:ns[i]=es[i].1:=by simp[←gR]
  refine .inr ⟨⟨_,.str ns[i],Z4 aA,by rw[Qo,Qc ao];rfl⟩,by unfold cnt;rw[List.length_map,List.length_take];lia,?_⟩
  rintro v H3 ⟨rfl,hv⟩
  have aT:=hv _ (Z4 aA)
  rw[Qo,Qc ao]at aT
  obtain rfl:V.str ns[i]=v:=Qn aT
  have wt3:WAt H3 C x dx d es:=wt.keep (k1.trans k2) ZM ZM WR
  refine⟨W7,W7,x,dx,W7,wt3.ob,rfl,W7,x,dx,d,es,es[i],by rw[hni];rfl,wt3,bG,λq hq=>?_⟩
  refine⟨q,W7,.inl (Z4 zac),Sum.inr ns[i],rfl,es.length-QY,QP,rfl,ae,⟨W7⟩,k2.trans (QD hq),?_⟩
  have hF:(((es[i].2.1.map V.str).length:Nat):Int)=((dg ZQ [] ns[i]:Nat):Int):=by rw[dg_nil,hni,ax _ bG,Qa]
  rw[hF,Ql ao]
  exact cnt_new (F:=λy=>((dg ZQ [] y:Nat):Int)) (zcr ay ao)
 ·have cg:i=es.length:=by exact zar3 ‹_› ‹_›
  subst cg
  refine .inl ⟨⟨_,Z4 aA,by rw[Qa,kr];exact Qf _⟩,λmm hmm=>?_⟩
  rw[Qt (Xe kr)]
  generalize row (rsOf es)=r at rn sy k ax
  have kH2:ZE H H2:=k1.trans k2
  have fmm:H mm=none:=zav kH2 hmm ZM
  have k3:ZE H (upd H2 mm (.dK (cnt ns λy=>((dg r [] y:Nat):Int)))):=kH2.fr fmm
  have rY:(upd H2 mm (.dK (cnt ns λy=>((dg r [] y:Nat):Int)))) mm=some (.dK (cnt ns λy=>((dg r [] y:Nat):Int))):=zac
  generalize upd H2 mm (.dK (cnt ns λy=>((dg r [] y:Nat):Int)))=H3 at k3 rY
  refine⟨(ZS 0),λtk htk=>?_⟩
  have ftk:H tk=none:=zav k3 htk ZM
  have nmt:mm≠tk:=zab rY htk
  refine⟨λm σ H'=>Ex2 λ(D ks:Nf)=>Aj8 (m=ks.length) (Ex2 λx3 x4=>σ=[ZP x,ZP mm,ZP tk,x3,x4]) (H' mm=some (QI ks)) (H' tk=some (QZ (D.map V.str))) (Pre ns r D) ks.Nodup (∀y,y∈ks↔y∈ns∧y∉D) (ZE H H'),
   ⟨ns.length,[],ns,rfl,⟨none,none,rfl⟩,QF nmt rY,zac,Pre.nil,ay,λy=>⟨λh=>⟨h,ZM⟩,λh=>h.1⟩,k3.fr ftk⟩,?_⟩
  rintro m σ H4 ⟨D,ks,rfl,⟨x3,x4,rfl⟩,hm4,ht4,PD,dZ,bp,k4⟩
  refine⟨W7,_,.inr (.inr ⟨_,hm4,rfl⟩),?_⟩
  by_cases sj:ks=[]
  ·subst sj
   refine zbl rfl ⟨_,rfl,k tk D H4 ht4 (PD.order ay λy hy=>?_) ftk k4⟩
   by_cases h:y∈D
   ·exact h
   ·exact absurd ((bp y).mpr ⟨hy,h⟩) ZM
  ·refine zbs (by cases ks with
    |nil=>exact absurd rfl sj
    |cons _ _=>rfl) ?_
   refine⟨_,λ σ' H' zz=>zz,?_⟩
   have il:ks.length≤ns.length:=zcs dZ λy hy=>((bp y).mp hy).1
   have gv:(cnt ks λy=>((dg r D y:Nat):Int)).length=ks.length:=Qa ..
   refine⟨_,rfl,mm,_,rfl,hm4,λo=>⟨λi m ys τ H'=>Aj6 (m=ks.length-i) (i≤ks.length) (Ex1 λx0=>τ=[x0,ZP mm]) (H' mm=some (.frz o (QI ks))) (Keep [mm] H4 H') (Ex1 λ(as:Nl)=>Aj3 (ys=as.map V.ref) (as.length=i) (KAt H' as ((ks.take i).map λy=>(dg r D y,y)))),
    ⟨ks.length,rfl,Zc _,⟨none,rfl⟩,zac,Keep.wr Qb,[],rfl,rfl,.nil⟩,?_⟩⟩
   rintro i m ys τ H5 ⟨rfl,hi,⟨x0,rfl⟩,hz,k5,as,rfl,ba,ka⟩
   by_cases ae:i<ks.length
   ·refine .inr ⟨⟨hz,by rw [gv];exact ae⟩,by rw [Qa];lia,?_⟩
    rintro v H6 ⟨rfl,pr,e1,rfl⟩
    have g1:pr=((Sum.inr ks[i]:Key),V.int ((dg r D ks[i]:Nat):Int)):=by
     unfold cnt at e1
     rw[Qo,Qc ae]at e1
     exact(Qn e1).symm
    subst g1
    refine⟨W7,W7,mm,W7,.inl ⟨_,Sum.inr ks[i],.inr ⟨o,hz⟩,rfl,(cnt_in (Qs ae)).symm⟩,W7,(ZS 2),λt ht=>⟨ks.length-QY,QP,rfl,ae,⟨_,rfl⟩,?_,k5.trans (QD ht),as++[t],?_,?_,?_⟩⟩
    ·rw[zaf (zab hz ht)];exact hz
    ·rw[Qr];rfl
    ·rw[Qy,ba];rfl
    ·rw [Ql ae,Qr]
     refine za5 (Paired.imp' (λa k h=>?_) ka) (.cons zac .nil)
     rw[zaf (zab h ht)];exact h
   ·have cg:i=ks.length:=by exact zar3 ‹_› ‹_›
    subst cg
    rw[Qt QK]at ka
    refine .inl ⟨⟨hz,W0 gv⟩,λL hL=>?_⟩
    have nmL:mm≠L:=zab hz hL
    have nfz:∀o' u',H mm≠some (.frz o' u'):=λo' u' z=>by rw[fmm]at z;cases z
    refine⟨mm,o,_,QF nmL hz,nfz,?_⟩
    have k6:Keep [mm] H4 (upd (ZW H5 L W4) mm (QI ks)):=(k5.trans (QD hL)).trans (Keep.wr Qb)
    have hm6:(upd (ZW H5 L W4) mm (QI ks)) mm=some (QI ks):=zac
    have hL6:(upd (ZW H5 L W4) mm (QI ks)) L=some (QZ W4):=by rw[zaf (Zn nmL)];exact zac
    have ka6:KAt (upd (ZW H5 L W4) mm (QI ks)) as (ks.map λy=>(dg r D y,y)):=Paired.imp' (λa k h=>by
     rw[zaf (za3 h hz ZX),zaf (zab h hL)];exact h) ka
    generalize upd (ZW H5 L W4) mm (QI ks)=H6 at k6 hm6 hL6 ka6
    have kH6:ZE H H6:=λc u ec _=>k6 c u (k4 c u ec ZM) (by simpa using zab ec fmm)
    have lF:=k6 _ _ ht4 (by simpa using Zn nmt)
    refine⟨L,as,W7,Z4 hL6,ka6,ZR sj,λa kk kE ha fm=>?_⟩
    obtain⟨y,hy,rfl⟩:=Qj.mp kE
    obtain⟨hyn,oF⟩:=(bp y).mp hy
    have sh:∀z∈ns,z∉D→leK (dg r D y,y) (dg r D z,z):=λz h1 h2=>fm _ (Qj.mpr ⟨z,(bp z).mpr ⟨h1,h2⟩,rfl⟩)
    have PD':=PD.snoc hyn oF sh
    have hDl:D.length≤ns.length:=zcs PD.nd PD.sub
    refine⟨a,_,1,W7,rfl,WV ha,rfl,?_⟩
    refine⟨W7,.inl ⟨rfl,_,Z4 lF⟩,W7,tk,_,W7,rfl,lF,by rw[Qa];lia,?_⟩
    have k7:ZE H (ZW H6 tk (D.map V.str++[V.str y])):=kH6.fr ftk
    have oM:(ZW H6 tk (D.map V.str++[V.str y])) tk=some (QZ ((D++[y]).map V.str)):=by rw[zac,Qr];rfl
    have hm7:(ZW H6 tk (D.map V.str++[V.str y])) mm=some (QI ks):=by rw[zaf nmt];exact hm6
    generalize upd H6 tk (QZ (D.map V.str++[V.str y]))=H7 at k7 oM hm7
    refine⟨W7,W7,mm,_,Sum.inr y,rfl,hm7,rfl,by rw[cnt_in hy];rfl,?_⟩
    rw[cnt_drop]
    have hkf:∀z,z∈ks.filter (λz=>decide (z≠y))↔z∈ns∧z∉D++[y]:=λz=>by
     rw[Zj,bp z,decide_eq_true_eq,Qk,Qd,not_or]
     exact⟨λh=>⟨h.1.1,h.1.2,h.2⟩,λh=>⟨⟨h.1,h.2.1⟩,h.2.2⟩⟩
    have mj:(ks.filter λz=>decide (z≠y)).Nodup:=dZ.filter _
    have ml:(ks.filter λz=>decide (z≠y)).length<ks.length:=List.length_filter_lt_length_iff_exists.mpr ⟨y,hy,ZM⟩
    generalize ks.filter (λz=>decide (z≠y))=kf at hkf mj ml
    have k8:ZE H (upd H7 mm (QI kf)):=k7.fr fmm
    have rX:(upd H7 mm (QI kf)) mm=some (QI kf):=zac
    have gm:(upd H7 mm (QI kf)) tk=some (QZ ((D++[y]).map V.str)):=by rw[zaf (Zn nmt)];exact oM
    generalize upd H7 mm (QI kf)=H8 at k8 rX gm
    obtain⟨en,bq,tq⟩:=Qj.mp (by rw[gR];exact hyn:y∈es.map (·.1))
    have iy:en.1=y:=tq
    have hry:r y=en.2.1:=by rw[←iy];exact ax en bq
    have wt8:WAt H8 C x dx d es:=wt.keep k8 ZM ZM WR
    refine⟨W7,x,dx,W7,wt8.ob,rfl,W7,x,dx,d,es,en,by rw[iy];rfl,wt8,bq,λq hq=>?_⟩
    have nqm:mm≠q:=zab rX hq
    have nqt:tk≠q:=zab gm hq
    have fq:H q=none:=zav k8 hq ZM
    refine⟨q,rfl,⟨_,Z4 zac⟩,zbf (xs:=en.2.1.map V.str) (λj σ H'=>Aj5 (Ex1 λx4=>σ=[ZP x,ZP mm,ZP tk,QB (.str y),x4]) (H' q=some (QZ (en.2.1.map V.str))) (H' tk=some (QZ ((D++[y]).map V.str))) (H' mm=some (.dK (cnt kf λz=>((dg r D z:Nat):Int)-if z∈en.2.1.take j then 1 else 0))) (ZE H H'))
     ⟨⟨_,rfl⟩,zac,QF nqt gm,?_,k8.fr fq⟩ (λj σ H' _ hh=>SqL.of hh.2) ?_ ?_⟩
    ·rw [zaf nqm,rX]
     congr 2
    ·rintro j v σ H9 qE ⟨⟨x4,rfl⟩,rF,ic,mh,k9⟩
     have hj:j<en.2.1.length:=by
      have:=(Qz.mp qE).1
      rwa[Qa]at this
     have gG:v=.str en.2.1[j]:=by
      rw[Qo,Qc hj]at qE
      exact(Qn qE).symm
     subst gG
     have cz:en.2.1.Nodup:=hry▸rn y
     have lV:=zcr cz hj
     have g9:=DGet.k (k:=Sum.inr en.2.1[j]) mh
     by_cases dS:en.2.1[j]∈kf
     ·rw [cnt_in dS,if_neg lV] at g9
      refine⟨W7,W7,mm,W7,g9,W7,zbs rfl ?_⟩
      refine⟨W7,W7,mm,W7,g9,_,W7,rfl,_,DPut.k (k:=Sum.inr en.2.1[j]) mh (by unfold cnt;rw[List.length_map];lia),⟨W7⟩,?_,?_,?_,k9.fr fmm⟩
      ·rw[zaf (Zn nqm)];exact rF
      ·rw[zaf (Zn nmt)];exact ic
      ·rw [zac,cnt_put dS]
       congr 2
       refine zgq λz _=>?_
       rw[Ql hj]
       by_cases hz:z=en.2.1[j]
       ·rw [if_pos hz,hz,if_pos (Qh _ Qb)]
        lia
       ·rw [if_neg hz]
        by_cases bW:z∈en.2.1.take j
        ·rw[if_pos bW,if_pos (Qp _ bW)]
        ·rw[if_neg bW,if_neg (λh=>(Qk.mp h).elim bW λh=>hz (Qd.mp h))]
     ·rw [cnt_out dS] at g9
      refine⟨W7,W7,mm,W7,g9,W7,zbl rfl ⟨⟨W7⟩,rF,ic,?_,k9⟩⟩
      rw[mh]
      congr 2
      refine zgq λz hz=>?_
      rw[Ql hj]
      have av:z≠en.2.1[j]:=λe=>dS (e▸hz)
      by_cases bW:z∈en.2.1.take j
      ·rw[if_pos bW,if_pos (Qp _ bW)]
      ·rw[if_neg bW,if_neg (λh=>(Qk.mp h).elim bW λh=>av (Qd.mp h))]
    ·rintro σ H9 ⟨⟨x4,rfl⟩,rF,ic,mh,k9⟩
     refine⟨_,ml,D++[y],kf,rfl,⟨_,W7⟩,?_,ic,PD',mj,hkf,k9⟩
     rw[mh]
     congr 2
     refine zgq λz _=>?_
     rw[Qa,Qt QK,←hry]
     exact dg_snoc rn sy oF z
end
end K21
end
section
namespace Wb
open PySem L2
def IsMex(us:List Int)(n:Nat):Prop:=(n:Int)∉us∧∀m:Nat,m<n→(m:Int)∈us
def IsMex.one{us us':List Int}{n m:Nat}(h:∀z,z∈us↔z∈us')(a:IsMex us n)(b:IsMex us' m):n=m:=by
 rcases Nat.lt_trichotomy n m with z | z | z
 ·exact absurd ((h _).mpr (b.2 n z)) a.1
 ·exact z
 ·exact absurd ((h _).mp (a.2 m z)) b.1
def mex_ex(us:List Int):∃n,n≤us.length∧IsMex us n:=by
 have h1:∃n,n≤us.length∧(n:Int)∉us:=by
  refine Ki λh=>?_
  have all:∀n,n≤us.length→(n:Int)∈us:=λn hn=>Ki λz=>h ⟨n,hn,z⟩
  have nd:((List.range (us.length+1)).map λn:Nat=>(n:Int)).Nodup:=Ul.mpr (List.nodup_range.imp λh e=>h (Int.ofNat.inj e))
  have:=nd.length_le_of_subset (l₂:=us) λz hz=>by
   obtain⟨n,hn,rfl⟩:=Qj.mp hz
   exact all n (Nat.le_of_lt_succ (Wh.mp hn))
  rw[Qa,Yi]at this
  exact absurd this (Nat.not_succ_le_self _)
 obtain⟨n,hn⟩:=h1
 induction n using Nat.strongRecOn with
 | ind n ih =>
  by_cases h:∃m,m<n∧(m:Int)∉us
  ·obtain ⟨m,hm,hmu⟩:=h
   exact ih m hm ⟨Zi (Wt hm) hn.1,hmu⟩
  ·exact⟨n,hn.1,hn.2,λm hm=>Ki λz=>h ⟨m,hm,z⟩⟩
noncomputable def mex(us:List Int):Nat:=Classical.choose (mex_ex us)
def mex_is(us:List Int):IsMex us (mex us):=(Jt (mex_ex us)).2
end Wb
namespace K21
open PySem L2 Wb
abbrev sFree:Stmt:=top 2
abbrev csFree:Scope:=scOf (eOf (sAt sFree 0))
def csFree_f:∀y∈csFree.names,y.2=.free→(zag sFree).names.lookup y.1=some .cell∨(zag sFree).names.lookup y.1=some .free:=by decide +kernel
def csFree_l:csFree.names.lookup ("hues" : Str)=some NameKind.free:=by decide +kernel
def ndFr:(["other", "hues"]:List Str).Nodup:=by decide +kernel
def inV_int{x:Int}{zs:List Int}:inV (W6 x) (zs.map V.int)=decide (x∈zs):=by
 unfold inV
 rw[Yy,Yh,decide_eq_true_iff]
 constructor
 ·rintro ⟨v,hv,e⟩
  obtain⟨y,hy,rfl⟩:=Qj.mp hv
  have e':y=x:=eq_of_beq e
  rw[←e'];exact hy
 ·exact λh=>⟨_,Qj.mpr ⟨x,h,rfl⟩,beq_self_eq_true x⟩
def flat_ints(zs:List Int):(zs.map V.int).all zdf=true:=Ja.mpr λv hv=>by
 obtain⟨y,_,rfl⟩:=Qj.mp hv
 rfl
noncomputable def frV(us:List Int)(many:Nat):V:=if mex us<many then .int (mex us:Nat) else .non
inductive IspFree(C:Nb)(vs:List V)(H:Hp)(Q:VK):Prop
 |mk (x dx d u:Nb) (es:List Ent) (e:Ent) (D:Nf) (F:Str→Int) (many:Nat) (h0:vs=[.ref x,.ref u,.str e.1,.int many]) (h1:WAt H C x dx d es) (h2:H u=some (.dK (cnt D F))) (h3:e∈es) (h4:e.2.1.length≤100) (h5:many≤100)
  (h7:∀H',ZE H H'→Q (frV ((e.2.1.filter λz=>decide (z∈D)).map F) many) H'):IspFree C vs H Q
def spFree(C:Nb):Sp:=λvs H Q _=>IspFree C vs H Q
section
variable{P:Ni}{w:Nk}{K:Na}{mg:Nd}{base:Nm}
def scFree:zak ["web", "hues", "place", "many", "around", "hue"] ["web", "hues", "place", "many"] (zag sFree):=fsk
def ok_free{f C fr:Nb}{fd fdr:Nr}(F:Fun K "free_hue" "free_hue" sFree f fd)(cW:Cls K C)(mR:Meth K C "round_of" fr)(bR:Binds K fdr ["self", "place"] [])(GR:ZC 1 fr fdr ["self", "place"] (zdh C))(aR:mg "range" = none):ZC 2 f fd ["web", "hues", "place", "many"] (spFree C):=by
 refine F.okL scFree Z1
 obtain⟨x,dx,d,u,es,e,D,G,many,rfl,wt,hd,he,gr,hmy,k⟩:=h
 have hu:=zcd hr
 have aw:sizeLine=16777216:=sizeLine_eq
 refine⟨_,zad (ps_lc (i:=4) (M:=["other", "hues"]) (ix:=[none,QB 1]) scFree.nd rfl rfl ⟨by rfl,by decide +kernel,by decide +kernel,csFree_f,rfl,by decide +kernel,λj i x h1 h2=>by
     match j,h1,h2 with
     |0,_,h2=>cases h2
     |1,h1,h2=>cases h1;cases h2;exact⟨rfl,csFree_l⟩
     |n+2,h1,_=>cases h1⟩ rfl (zao (zgc (pl:=_) QH cW mR GR hr bR .nil zc9 (Z0 2))) (λC a7 ex s H=>zan 0 ndFr)
    (λC a7 ex s H=>zco (zcm (pc_din (by exact hu) QH QQ))) (λC a7 ex s H=>zb1 (by exact hu) QQ QH) rfl)
  (zad (zba Ze rfl (zci rfl aR (Z0 3)) (zan 5 scFree.nd)
   (zah (zb0 (zaq zcw (pv 5) (pv 4) rfl) (zah (zau (pv 5))) zas)))
  (zah (zau zgb))),?_⟩
 refine⟨W7,x,dx,W7,wt.ob,rfl,W7,x,dx,d,es,e,rfl,wt,he,λq hq=>?_⟩
 have k1:ZE H (ZW H q Z5):=Keep.new hq
 have cQ:(ZW H q Z5) q=some (.lst Z5):=zac
 generalize upd H q (.lst Z5)=H1 at k1 cQ
 have kK:=k1 _ _ hd ZM
 refine⟨q,rfl,⟨_,Z4 cQ⟩,λi m ys τ H'=>Aj5 (m=e.2.1.length-i) (i≤e.2.1.length) (Ex1 λx0=>τ=[x0,ZP u]) (H'=H1) (ys=(((e.2.1.take i).filter λz=>decide (z∈D)).map G).map V.int),
  ⟨e.2.1.length,rfl,Zc _,⟨none,rfl⟩,rfl,rfl⟩,?_⟩
 rintro i m ys τ H' ⟨rfl,hi,⟨x0,rfl⟩,rfl,rfl⟩
 by_cases ae:i<e.2.1.length
 ·have gY:=Wg (fun z=>decide (z∈D)) (e.2.1.take i)
  rw[Zt]at gY
  refine .inr ⟨⟨_,.str e.2.1[i],Z4 cQ,by rw[Qo,Qc ae];rfl⟩,by rw[Qa,Qa];lia,?_⟩
  rintro v H3 ⟨rfl,hv⟩
  have aT:=hv _ (Z4 cQ)
  rw[Qo,Qc ae]at aT
  obtain rfl:V.str e.2.1[i]=v:=Qn aT
  have g:=DGet.k (k:=Sum.inr e.2.1[i]) kK
  by_cases hz:e.2.1[i]∈D
  ·rw [cnt_in hz] at g
   refine⟨W7,W7,u,W7,g,W7,zbs rfl ⟨W7,W7,u,W7,g,e.2.1.length-QY,QP,rfl,ae,⟨W7⟩,rfl,?_⟩⟩
   rw[Ql ae,Yw,Zq (ZR hz),Wn,Qr,Qr];rfl
  ·rw [cnt_out hz] at g
   refine⟨W7,W7,u,W7,g,W7,zbl rfl ⟨e.2.1.length-QY,QP,rfl,ae,⟨W7⟩,rfl,?_⟩⟩
   rw[Ql ae,Yw,Zr (ZR hz),Wn,Zw]
 ·have cg:i=e.2.1.length:=by exact zar3 ‹_› ‹_›
  subst cg
  refine .inl ⟨⟨_,Z4 cQ,W0 Qa⟩,λL hL=>?_⟩
  rw[Qt QK]
  generalize hus:(e.2.1.filter λz=>decide (z∈D)).map G=us at k
  have k2:ZE H (ZW H' L (us.map V.int)):=k1.trans (QD hL)
  have hL2:(ZW H' L (us.map V.int)) L=some (QZ (us.map V.int)):=zac
  generalize upd H' L (QZ (us.map V.int))=H2 at k2 hL2
  have pd:=mex_is us
  refine⟨W7,many,rfl,QL,QL,zct (λi σ H'=>Aj3 (H'=H2) (Ex1 λx5=>σ=[ZP x,ZP u,QB (.str e.1),QB (.int many),ZP L,x5]) (∀m:Nat,m<i→(m:Int)∈us)) ⟨rfl,⟨_,rfl⟩,λm hm=>absurd hm (Xg _)⟩ ?_ ?_⟩
  ·rintro i σ H3 hi ⟨rfl,⟨x5,rfl⟩,aI⟩
   have ei:(0:Int)+(i:Int)=(i:Int):=by lia
   rw[ei]
   refine⟨W7,W7,L,W7,.inl (Z4 hL2),rfl,flat_ints us,W7,?_⟩
   by_cases aB:(i:Int)∈us
   ·refine zbl (by rw [if_pos rfl,inV_int,WW aB];rfl) ⟨rfl,⟨_,rfl⟩,fun m hm=>?_⟩
    rcases Nat.lt_succ_iff_lt_or_eq.mp hm with z | z
    ·exact aI m z
    ·rw[z];exact aB
   ·refine zbs (by rw [if_pos rfl,inV_int,decide_eq_false aB];rfl) ⟨_,rfl,?_⟩
    have:mex us=i:=pd.one (λ_=>Iff.rfl) ⟨aB,aI⟩
    unfold frV at k
    rw[this,if_pos (show i<many by omega)]at k
    exact k _ k2
  ·rintro σ H3 ⟨rfl,⟨x5,rfl⟩,aI⟩
   unfold frV at k
   rw[if_neg λz=>pd.1 (aI _ ZO)]at k
   exact k _ k2
end
end K21
end
section
namespace Wb
open PySem L2
section
variable{α β:Type}
structure Bud(f:Nat→Option α×Nat)(R:Option α)(N b:Nat):Prop where
 le:N≤b
 is:∀m,f m=if N≤m then(R,N) else(none,m)
def goB:List (Nat→Option α×Nat)→Nat→Nat→Option α×Nat
 |[],_,s=>(none,s)
 |g::t,m,s=>if s=m then(none,s) else match g (m-s-1) with
  |(some a,n)=>(QB a,s+1+n)
  |(none,n)=>goB t m (s+1+n)
theorem goB_end:∀(t:List (Nat→Option α×Nat)) (m:Nat),goB t m m=(none,m)
 |[],_=>rfl
 |_::_,_=>if_pos rfl
theorem goB_bud{b:Nat}:∀{gs:List (Nat→Option α×Nat)},(∀g∈gs,∃R N,Bud g R N b)→∃R N,N≤gs.length*(b+1)∧∀m s,s≤m→goB gs m s=if s+N≤m then(R,s+N) else(none,m)
 |[],_=>⟨none,0,Zc _,λm s h=>by
  show(none,s)=_
  rw[if_pos ZO];rfl⟩
 | g::t,h=>by
  obtain⟨R1,N1,l1,e1⟩:=h g Qb
  obtain⟨R2,N2,l2,e2⟩:=goB_bud λg hg=>h g (Qe _ hg)
  have hl:(g::t).length*(b+1)=t.length*(b+1)+(b+1):=by rw[Qv,Nat.add_mul,Nat.one_mul]
  cases R1 with
  | some a =>
   refine⟨QB a,1+N1,QS hl,λm s hs=>?_⟩
   show(if s=m then(none,s) else match g (m-s-1) with | (some a,n)=>(some a,s+1+n) | (none,n)=>goB t m (s+1+n))=_
   by_cases hm:s=m
   ·rw[if_pos hm,if_neg ZO,hm]
   ·rw [if_neg hm,e1]
    by_cases hn:N1≤m-s-1
    ·rw [if_pos hn,if_pos ZO]
     show(QB a,s+1+N1)=(QB a,s+(1+N1))
     rw[Nat.add_assoc]
    ·rw [if_neg hn,if_neg ZO]
     show goB t m (s+1+(m-s-1))=_
     rw[show s+1+(m-s-1)=m by omega,goB_end]
  | none =>
   refine⟨R2,1+N1+N2,QS hl,λm s hs=>?_⟩
   show(if s=m then(none,s) else match g (m-s-1) with | (some a,n)=>(some a,s+1+n) | (none,n)=>goB t m (s+1+n))=_
   by_cases hm:s=m
   ·rw[if_pos hm,if_neg ZO,hm]
   ·rw [if_neg hm,e1]
    by_cases hn:N1≤m-s-1
    ·rw [if_pos hn]
     show goB t m (s+1+N1)=_
     rw[e2 _ _ ZO]
     by_cases h2:s+1+N1+N2≤m
     ·rw[if_pos h2,if_pos ZO,show s+1+N1+N2=s+(1+N1+N2) by omega]
     ·rw[if_neg h2,if_neg ZO]
    ·rw [if_neg hn,if_neg ZO]
     show goB t m (s+1+(m-s-1))=_
     rw[show s+1+(m-s-1)=m by omega,goB_end]
end
noncomputable def chH(c:Str→Prop):List Str:=open Classical in if h:∃L:List Str,L.Nodup∧L.Pairwise leS∧∀y,y∈L↔c y then Classical.choose h else[]
def chH_eq{c:Str→Prop}{zs:Nf}(nd:zs.Nodup)(so:zs.Pairwise leS)(hm:∀y,y∈zs↔c y):zs=chH c:=by
 have h:∃L:List Str,L.Nodup∧L.Pairwise leS∧∀y,y∈L↔c y:=⟨zs,nd,so,hm⟩
 unfold chH
 rw[dif_pos h]
 obtain⟨h1,h2,h3⟩:=Jt h
 exact sorted_one ((Ux nd h1).mpr λy=>(hm y).trans (h3 y).symm) so h2
def chH_nd(c:Str→Prop):(chH c).Nodup:=by
 unfold chH
 split
 ·rename_i h;exact(Jt h).1
 ·exact Zo
def chH_mem{c:Str→Prop}{y:Str}(h:y∈chH c):c y:=by
 unfold chH at h
 split at h
 ·rename_i z;exact((Jt z).2.2 y).mp h
 ·cases h
end Wb
namespace K21
open PySem L2 Wb
def hu(hs:List (Str×Int))(z:Str):Int:=match hueV hs z with
 |.int n=>n
 |_=>0
abbrev Swap:=Str×Int×List Str
noncomputable def chN(r:Nn)(hs:List QJ)(q:Str×Int):List Str:=chH (Conn (λz=>(r z).filter (tw hs (hu hs q.1) q.2)) q.1)
noncomputable def swN(r:Nn)(hs:List QJ)(q:Str×Int):Swap:=(q.1,q.2,chN r hs q)
def exN(hs:List QJ)(w:Swap):List QJ:=ex w.2.2 (hu hs w.1) w.2.1 hs
def usN(r:Nn)(hs:List QJ)(x:Str):List Int:=((r x).filter λz=>decide (z∈hs.map (·.1))).map (hu hs)
noncomputable def trN(r:Nn)(hs:List QJ)(x:Str):List QJ:=((chH (·∈r x)).filter λs=>decide (s∈hs.map (·.1))).flatMap λs=>(([0,1,2,3]:List Int).filter λo=>!decide (o=hu hs s)).map λo=>(s,o)
noncomputable def onN(r:Nn)(hs:List QJ)(x:Str)(m:Nat):Option (List Swap)×Nat:=goB ((trN r hs x).map λq _=>(if mex (usN r (exN hs (swN r hs q)) x)<4 then some [swN r hs q] else none,0)) m 0
noncomputable def twN(r:Nn)(hs:List QJ)(x:Str)(m:Nat):Option (List Swap)×Nat:=goB ((trN r hs x).map λq b=>((onN r (exN hs (swN r hs q)) x b).1.map (swN r hs q::·),(onN r (exN hs (swN r hs q)) x b).2)) m 0
noncomputable def fsN(r:Nn)(hs:List QJ)(x:Str)(m:Nat):Option (List Swap)×Nat :=
 if mex (usN r hs x)<4 then(some [],0) else match onN r hs x m with
  |(some L,n)=>(QB L,n)
  |(none,n)=>((twN r hs x (m-n)).1,n+(twN r hs x (m-n)).2)
abbrev Step:=Str×Int×List Swap
noncomputable def cbN(r:Nn)(hs:List QJ)(x:Str)(L:List Swap):List QJ:=L.foldl exN hs++[(x,(mex (usN r (L.foldl exN hs) x):Int))]
noncomputable def fpN(r:Nn):List Str→List QJ→Nat→Nat→Option (List Step)×Nat
 |[],_,_,s=>(some [],s)
 |x::t,hs,m,s=>match fsN r hs x (m-s) with
  |(none,n)=>(none,s+n)
  |(some L,n)=>((fpN r t (cbN r hs x L) m (s+n)).1.map ((x,(mex (usN r (L.foldl exN hs) x):Int),L)::·),(fpN r t (cbN r hs x L) m (s+n)).2)
def tr_len{r:Nn}{hs:List QJ}{x:Str}{d:Nat}(h:(r x).length≤d):(trN r hs x).length≤d*4:=by
 unfold trN
 have h1:((chH (·∈r x)).filter λs=>decide (s∈hs.map (·.1))).length≤d:=by
  refine Zi (Wg _ _) (Zi (zcs (chH_nd _) λy hy=>?_) h)
  exact chH_mem hy
 generalize(chH (·∈r x)).filter (λs=>decide (s∈hs.map (·.1)))=l at h1
 refine Zi ?_ (Nat.mul_le_mul_right 4 h1)
 clear h1
 induction l with
 |nil=>exact Zc _
 |cons a t ih =>
  rw[List.flatMap_cons,Qy,Qa,Qv,Nat.add_mul,Nat.one_mul]
  have:=Wg (λo=>!decide (o=hu hs a)) ([0,1,2,3]:List Int)
  have h4:([0,1,2,3]:List Int).length=4:=rfl
  omega
def on_bud{r:Nn}{hs:List QJ}{x:Str}(h:(r x).length≤16):∃R N,Bud (onN r hs x) R N 64:=by
 obtain⟨R,N,l,e⟩:=goB_bud (b:=0) (gs:=(trN r hs x).map λq _=>(if mex (usN r (exN hs (swN r hs q)) x)<4 then some [swN r hs q] else none,0)) λg hg=>by
  obtain⟨q,_,rfl⟩:=Qj.mp hg
  exact⟨_,0,QK,λm=>by rw[if_pos (Zc _)]⟩
 have:=tr_len (hs:=hs) h
 rw[Qa]at l
 refine⟨R,N,ZO,λm=>?_⟩
 have:=e m 0 (Zc _)
 rw[Nat.zero_add]at this
 exact this
def tw_bud{r:Nn}{hs:List QJ}{x:Str}(h:(r x).length≤16):∃R N,Bud (twN r hs x) R N 4160:=by
 obtain⟨R,N,l,e⟩:=goB_bud (b:=64) (gs:=(trN r hs x).map λq b=>((onN r (exN hs (swN r hs q)) x b).1.map (swN r hs q::·),(onN r (exN hs (swN r hs q)) x b).2)) λg hg=>by
  obtain⟨q,_,rfl⟩:=Qj.mp hg
  obtain⟨R,N,l,e⟩:=on_bud (r:=r) (hs:=exN hs (swN r hs q)) h
  refine⟨R.map (swN r hs q::·),N,l,λm=>?_⟩
  show((onN r (exN hs (swN r hs q)) x m).1.map (swN r hs q::·),(onN r (exN hs (swN r hs q)) x m).2)=_
  rw[e]
  by_cases h:N≤m
  ·rw[if_pos h,if_pos h]
  ·rw[if_neg h,if_neg h];rfl
 have:=tr_len (hs:=hs) h
 rw[Qa]at l
 refine⟨R,N,ZO,λm=>?_⟩
 have:=e m 0 (Zc _)
 rw[Nat.zero_add]at this
 exact this
def tw_zero(r:Nn)(hs:List QJ)(x:Str):twN r hs x 0=(none,0):=goB_end _ 0
def fs_bud{r:Nn}{hs:List QJ}{x:Str}(h:(r x).length≤16):∃ R N,Bud (fsN r hs x) R N 4224:=by
 by_cases h0:mex (usN r hs x)<4
 ·exact⟨some [],0,ZU,λm=>by unfold fsN;rw[if_pos h0,if_pos (Nat.zero_le _)]⟩
 obtain⟨R1,N1,l1,e1⟩:=on_bud (hs:=hs) h
 obtain⟨R2,N2,l2,e2⟩:=tw_bud (hs:=hs) h
 cases R1 with
 | some L =>
  refine⟨QB L,N1,ZO,λm=>?_⟩
  unfold fsN
  rw[if_neg h0,e1]
  by_cases hm:N1≤m
  ·rw[if_pos hm]
  ·rw [if_neg hm]
   show((twN r hs x (m-m)).1,m+(twN r hs x (m-m)).2)=_
   rw[Kb,tw_zero];rfl
 | none =>
  refine⟨R2,N1+N2,ZO,λm=>?_⟩
  unfold fsN
  rw[if_neg h0,e1]
  by_cases hm:N1≤m
  ·rw [if_pos hm]
   show((twN r hs x (m-N1)).1,N1+(twN r hs x (m-N1)).2)=_
   rw[e2]
   by_cases h2:N2≤m-N1
   ·rw[if_pos h2,if_pos ZO]
   ·rw [if_neg h2,if_neg ZO]
    show(none,N1+(m-N1))=(none,m)
    rw[show N1+(m-N1)=m by omega]
  ·rw [if_neg hm,if_neg ZO]
   show((twN r hs x (m-m)).1,m+(twN r hs x (m-m)).2)=_
   rw[Kb,tw_zero];rfl
theorem fp_bud{r:Nn}:∀{xs:Nf} {hs:List QJ},(∀x∈xs,(r x).length≤16)→∃R N,N≤4224*xs.length∧∀m s,s≤m→fpN r xs hs m s=if s+N≤m then(R,s+N) else(none,m)
 |[],hs,_=>⟨some [],0,Zc _,λm s h=>by
  show(some [],s)=_
  rw[if_pos ZO];rfl⟩
 | x::t,hs,h=>by
  obtain⟨R1,N1,l1,e1⟩:=fs_bud (hs:=hs) (h x Qb)
  have hl:4224*(x::t).length=4224*t.length+4224:=by rw[Qv,Nat.mul_add]
  cases R1 with
  | none =>
   refine⟨none,N1,ZO,λm s bf=>?_⟩
   show(match fsN r hs x (m-s) with | (none,n)=>(none,s+n) | (some L,n)=>_)=_
   rw[e1]
   by_cases hm:N1≤m-s
   ·rw[if_pos hm,if_pos ZO]
   ·rw [if_neg hm,if_neg ZO]
    show(none,s+(m-s))=_
    rw[show s+(m-s)=m by omega]
  | some L =>
   obtain⟨R2,N2,l2,e2⟩:=fp_bud (hs:=cbN r hs x L) λy hy=>h y (Qe _ hy)
   refine⟨R2.map ((x,(mex (usN r (L.foldl exN hs) x):Int),L)::·),N1+N2,ZO,λm s bf=>?_⟩
   show(match fsN r hs x (m-s) with | (none,n)=>(none,s+n) | (some L,n)=>((fpN r t (cbN r hs x L) m (s+n)).1.map ((x,(mex (usN r (L.foldl exN hs) x):Int),L)::·),(fpN r t (cbN r hs x L) m (s+n)).2))=_
   rw[e1]
   by_cases hm:N1≤m-s
   ·rw [if_pos hm]
    show((fpN r t (cbN r hs x L) m (s+N1)).1.map ((x,(mex (usN r (L.foldl exN hs) x):Int),L)::·),(fpN r t (cbN r hs x L) m (s+N1)).2)=_
    rw[e2 _ _ ZO]
    by_cases h2:s+N1+N2≤m
    ·rw[if_pos h2,if_pos ZO,show s+(N1+N2)=s+N1+N2 by omega]
    ·rw[if_neg h2,if_neg ZO];rfl
   ·rw [if_neg hm,if_neg ZO]
    show(none,s+(m-s))=_
    rw[show s+(m-s)=m by omega]
end K21
end
section
namespace K21
open PySem L2 Wb
abbrev sSwapOf:Stmt:=top 22
abbrev zh2:Stmt:=top 23
structure WOk(es:List Ent):Prop where
 few:es.length≤16
 rl:∀e∈es,e.2.1.length≤16
 cl:∀z y,y∈ZG z→y∈es.map (·.1)
 rn:∀y,(ZG y).Nodup
 sy:∀a b,b∈ZG a→a∈ZG b
inductive SwAt(B H:Hp)(a:Nb)(w:Swap):Prop
 |mk (l:Nb) (h0:B l=none) (h1:H a=some (.tup [.str w.1,.int w.2.1,.ref l])) (h2:H l=some (.lst (w.2.2.map V.str))):SwAt B H a w
def SwAt.keep(h:SwAt B H a w)(k:ZE H H'):SwAt B H' a w:=by
 obtain⟨l,h0,h1,h2⟩:=h
 exact⟨l,h0,k _ _ h1 ZM,k _ _ h2 ZM⟩
def SwAt.old(h:SwAt B H a w)(k:ZE B' B):SwAt B' H a w:=by
 obtain⟨l,h0,h1,h2⟩:=h
 exact⟨l,zav k h0 ZM,h1,h2⟩
def HAt.hf(h:HAt H u hs):HF H u hs:=⟨.inl h.dc,h.nd⟩
def hu_in{hs:List QJ}(nd:(hs.map (·.1)).Nodup){e:Str×Int}(h:e∈hs):hu hs e.1=e.2:=by
 unfold hu hueV
 rw[zd3 nd h];rfl
def hu_at{hs:List QJ}(nd:(hs.map (·.1)).Nodup){s:Str}(h:s∈hs.map (·.1)):(s,hu hs s)∈hs:=by
 obtain⟨e,he,rfl⟩:=Qj.mp h
 rw[hu_in nd he];exact he
def tw_key{hs:List QJ}{a b:Int}{y:Str}(h:tw hs a b y=true):y∈hs.map (·.1):=by
 refine Jb λz=>?_
 unfold tw hueV at h
 rw[zht z]at h
 cases h
def ch_key{r:Nn}{hs:List QJ}{q:Str×Int}(hq:q.1∈hs.map (·.1)){y:Str}(h:y∈chN r hs q):y∈hs.map (·.1):=by
 have c:=chH_mem h
 induction c with
 |refl=>exact hq
 |step _ hz _=>exact tw_key (Zj.mp hz).2
def zil(hs:List QJ)(w:Swap):(exN hs w).map (·.1)=hs.map (·.1):=ex_keys ..
inductive IspSwapOf(C:Nb)(vs:List V)(H:Hp)(Q:VK):Prop
 |mk (x dx d u:Nb) (es:List Ent) (hs:List (Str×Int)) (s:Str) (o:Int) (h0:vs=[.ref x,.ref u,.str s,.int o]) (h1:WAt H C x dx d es) (h2:WOk es) (h3:HAt H u hs) (h4:∀x∈hs.map (·.1),x∈es.map (·.1)) (h5:s∈hs.map (·.1)) (h6:o≠hu hs s) (h7:0≤o)
  (h8:∀(a:Nb) (H':Hp),SwAt H H' a (ZL (s,o))→H a=none→ZE H H'→Q (ZZ a) H'):IspSwapOf C vs H Q
def zhw(C:Nb):Sp:=λvs H Q _=>IspSwapOf C vs H Q
inductive zhn(vs:List V)(H:Hp)(Q:VK):Prop
 |mk (B:Hp) (u a:Nb) (hs:List (Str×Int)) (w:Swap) (h0:vs=[.ref u,.ref a]) (h1:HAt H u hs) (h2:SwAt B H a w) (h3:w.1∈hs.map (·.1)) (h4:∀y∈w.2.2,y∈hs.map (·.1)) (h5:hs.length≤16)
  (h8:∀(t:Nb) (H':Hp),H t=none→HAt H' t (exN hs w)→ZE H H'→Q (ZZ t) H'):zhn vs H Q
def zec:Sp:=λvs H Q _=>zhn vs H Q
section
variable{P:Ni}{w:Nk}{K:Na}{mg:Nd}{base:Nm}
def scSwapOf:zak ["web", "hues", "start", "other"] ["web", "hues", "start", "other"] (zag sSwapOf):=fsk
def ok_swapof(F:Fun K "swap_of" "swap_of" sSwapOf f fd)(GC:ZI "chain" ["web", "hues", "start", "other"] 2 (spChain C)) :
  FnOk P w K mg base CX0 3 f fd ["web", "hues", "start", "other"] (zhw C):=by
 refine F.okL scSwapOf QG
 obtain⟨x,dx,d,u,es,hs,s,o,rfl,wt,W,hh,hk,hsk,ho,ho0,kq⟩:=h
 refine⟨_,zah (zau (zbo (zaa Q8 (zaa (pv 3) (zaa (pcl GC hr (zaa QH (zaa QQ (ZV 2 (pv 3))))) zae))))),?_⟩
 refine⟨W7,W7,W7,W7,W7,W7,x,dx,d,u,es,hs,s,hu hs s,o,rfl,wt,Zi W.few ZU,λe he=>Zi (W.rl e he) ZU,W.cl,hh.hf,hu_at hh.nd hsk,hk _ hsk,ho,ho0,λl zs H1 hl cP cr cu fl k1=>⟨(ZS 3),λt ht=>?_⟩⟩
 have e:zs=chN ZQ hs (s,o):=chH_eq cP cr cu
 refine kq t _ ⟨l,fl,zac,?_⟩ (zav k1 ht ZM) (k1.trans (QD ht))
 rw[zaf (zab hl ht),hl,e];rfl
def zef:zak ["hues", "swap", "start", "other", "places"] ["hues", "swap"] (zag zh2):=fsk
def ok_swapped(F:Fun K "swapped" "swapped" zh2 f fd)(GE:ZI "exchanged_in" ["hues", "places", "one", "other"] 1 spExIn) :
  FnOk P w K mg base CX0 2 f fd ["hues", "swap"] zec:=by
 refine F.okL zef QG
 obtain⟨_,u,a,hs,w',rfl,hh,⟨l,_,ha,hl⟩,hw1,hw2,iq,kq⟩:=h
 have gM:=zcd hr
 refine⟨_,zad (zd1 QQ (zcp rfl (zaj (zan 2 zef.nd) (zaj (zan 3 zef.nd) (zaj (zan 4 zef.nd) zbq)))))
  (zah (zau (pcl GE hr (zaa QH (zaa (pv 4) (zaa (zb1 gM QH Q8) (Z0 3))))))),?_⟩
 refine⟨W7,a,W7,WV ha,rfl,_,W7,_,W7,_,W7,rfl,?_⟩
 have g:=hh.hf.get (Sum.inr w'.1)
 rw[zd3 hh.nd (e:=(w'.1,hu hs w'.1)) (hu_at hh.nd hw1)]at g
 exact⟨W7,W7,W7,W7,u,W7,g,W7,u,l,hs,w'.2.2,hu hs w'.1,w'.2.1,rfl,hh.hf,hl,hw2,Zi iq ZU,λt H' ht h' k'=>kq t H' ht h' k'⟩
end
abbrev zei:Stmt:=top 27
abbrev PSI(H:Hp):List Addr→List QJ→Prop:=Paired λa q=>H a=some (.tup [.str q.1,.int q.2])
def PSI.keep(h:PSI H as qs)(k:ZE H H'):PSI H' as qs:=Paired.imp' (λ_ _ z=>k _ _ z ZM) h
def four_take{j:Nat}(h:j<4):([0,1,2,3]:List Int).take (j+1)=([0,1,2,3]:List Int).take j++[(0:Int)+(j:Int)]:=by
 match j,h with
 |0,_=>rfl
 |1,_=>rfl
 |2,_=>rfl
 |3,_=>rfl
abbrev csTa:Scope:=scOf (eOf (sAt zei 0))
abbrev csTb:Scope:=scOf (eOf (sAt zei 1))
def csTa_f:∀y∈csTa.names,y.2=.free→(zag zei).names.lookup y.1=some .cell∨(zag zei).names.lookup y.1=some .free:=by decide +kernel
def csTa_l:csTa.names.lookup ("hues" : Str)=some NameKind.free:=by decide +kernel
def ndTa:(["start", "hues"]:List Str).Nodup:=by decide +kernel
def csTb_f:∀y∈csTb.names,y.2=.free→(zag zei).names.lookup y.1=some .cell∨(zag zei).names.lookup y.1=some .free:=by decide +kernel
def csTb_l:csTb.names.lookup ("hues" : Str)=some NameKind.free:=by decide +kernel
def ndTb:(["start", "other", "hues"]:List Str).Nodup:=by decide +kernel
inductive IspTries(C:Nb)(vs:List V)(H:Hp)(Q:VK):Prop
 |mk (x dx d u:Nb) (es:List Ent) (hs:List (Str×Int)) (e:Ent) (h0:vs=[.ref x,.ref u,.str e.1]) (h1:WAt H C x dx d es) (h2:WOk es) (h3:HAt H u hs) (h4:e∈es)
  (h8:∀(l:Nb) (as:Nl) (H':Hp),H' l=some (QZ W4)→PSI H' as (trN ZQ hs e.1)→ZE H H'→Q (ZZ l) H'):IspTries C vs H Q
def spTries(C:Nb):Sp:=λvs H Q _=>IspTries C vs H Q
section
variable{P:Ni}{w:Nk}{K:Na}{mg:Nd}{base:Nm}
def scTries:zak ["web", "hues", "place", "starts"] ["web", "hues", "place"] (zag zei):=fsk
def ok_tries{tk:Tok}(F:Fun K "tries" "tries" zei f fd)(cW:Cls K C)(mR:Meth K C "round_of" fr)(bR:Binds K fdr ["self", "place"] [])(GR:ZC 1 fr fdr ["self", "place"] (zdh C))(aN:mg "sorted" = none)(aR:mg "range" = none)(hF:mg "FOUR" = some (.int 4 tk)):ZC 2 f fd ["web", "hues", "place"] (spTries C):=by
 refine F.okL scTries QG
 obtain⟨x,dx,d,u,es,hs,e,rfl,wt,W,hh,he,kq⟩:=h
 have gM:=zcd hr
 have aw:=sizeLine_eq
 refine⟨_,zad (ps_lc (i:=3) (M:=["start", "hues"]) (ix:=[none,QB 1]) scTries.nd rfl rfl ⟨by rfl,by decide +kernel,by decide +kernel,csTa_f,rfl,ndTa,λj i x h1 h2=>by
     match j,h1,h2 with
     |0,_,h2=>cases h2
     |1,h1,h2=>cases h1;cases h2;exact⟨rfl,csTa_l⟩
     |n+2,h1,_=>cases h1⟩ rfl (zao (zal zfo Q4 aN Ws (zaa (zgc (pl:=_) QH cW mR GR hr bR .nil zc9 (Z0 2)) zae))) (λC a7 ex s H=>zan 0 ndTa)
    (λC a7 ex s H=>zco (zcm (pc_din (by exact gM) QH QQ))) (λC a7 ex s H=>pv 0) rfl)
  (zah (zau (pe_lc2 (M:=["start", "other", "hues"]) (ix:=[none,none,QB 1]) ⟨by rfl,by decide +kernel,by decide +kernel,csTb_f,rfl,ndTb,λj i x h1 h2=>by
     match j,h1,h2 with
     |0,_,h2=>cases h2
     |1,_,h2=>cases h2
     |2,h1,h2=>cases h1;cases h2;exact⟨rfl,csTb_l⟩
     |n+3,h1,_=>cases h1⟩ rfl (zao (pv 3)) (λC a7 ex s H=>zan 0 ndTb)
    (λC a7 ex s H=>zci rfl (by exact aR) (zaa (zge (v:=.int 4) rfl (by exact hF) ⟨tk,rfl⟩) zae)) (λC a7 ex s H=>zan 1 ndTb)
    (λC a7 ex s H=>zco (zaq op_ne QQ (zb1 (by exact gM) Q8 QH) (zbe _))) (λC a7 ex s H=>zbo (ZV 0 QQ))))),?_⟩
 have du:ZG e.1=e.2.1:=zaw wt.ta.nd he
 have gr:=W.rl e he
 refine⟨W7,x,dx,W7,wt.ob,rfl,W7,x,dx,d,es,e,rfl,wt,he,λq hq=>?_⟩
 refine⟨q,e.2.1,rfl,Z4 zac,λl1 ws aJ aj aL=>?_⟩
 have ay:ws.Nodup:=aj.nodup_iff.mpr (du▸W.rn e.1)
 have ews:ws=chH (·∈ZG e.1):=chH_eq ay (aL ZO) λy=>by rw[du];exact aj.mem_iff
 have dh:ws.length≤16:=by rw[aj.length_eq];exact gr
 have k1:ZE H (upd (ZW H q Z5) l1 (QZ (ws.map V.str))):=(QD hq).trans (QD aJ)
 have g1:(upd (ZW H q Z5) l1 (QZ (ws.map V.str))) l1=some (QZ (ws.map V.str)):=zac
 generalize upd (ZW H q Z5) l1 (QZ (ws.map V.str))=H1 at k1 g1
 have mE:HAt H1 u hs:=hh.keep k1 ZM
 refine⟨l1,rfl,⟨_,SqL.of g1⟩,ze4 (xs:=ws.map V.str) (λ τ=>∃x0,τ=[x0,some (.ref u)]) (λv=>match v with | .str z=>decide (z∈hs.map (·.1)) | _=>false) (SqL.of g1) (by rw[Qa];omega) ⟨none,rfl⟩ ?_ (λsl oQ=>?_)⟩
 ·rintro v hv τ ⟨x0,rfl⟩ q1 q0 h1 h0
  obtain⟨z,hz,rfl⟩:=Qj.mp hv
  have gz:=mE.hf.get (Sum.inr z)
  refine⟨W7,W7,u,W7,gz,W7,?_⟩
  by_cases hk:z∈hs.map (·.1)
  ·rw [zd3 hh.nd (e:=(z,hu hs z)) (hu_at hh.nd hk)]
   exact iteT ⟨_,rfl,h1 (WW hk) _ ⟨_,rfl⟩⟩
  ·rw [zht hk]
   exact iteF (h0 (decide_eq_false hk) _ ⟨_,rfl⟩)
 have ef:(ws.map V.str).filter (λv=>match v with | .str z=>decide (z∈hs.map (·.1)) | _=>false)=(ws.filter λz=>decide (z∈hs.map (·.1))).map V.str:=Ji
 rw[ef]
 have etr:trN ZQ hs e.1=(ws.filter λz=>decide (z∈hs.map (·.1))).flatMap λs=>(([0,1,2,3]:List Int).filter λo=>!decide (o=hu hs s)).map λo=>(s,o):=by unfold trN;rw[←ews]
 rw[etr]at kq
 have ap:∀y∈ws.filter (λz=>decide (z∈hs.map (·.1))),y∈hs.map (·.1):=λy hy=>of_decide_eq_true (Zj.mp hy).2
 have r8:(ws.filter λz=>decide (z∈hs.map (·.1))).length≤16:=Zi (Wg _ _) dh
 generalize ws.filter (λz=>decide (z∈hs.map (·.1)))=S at kq ap r8
 have k2:ZE H (ZW H1 sl (S.map V.str)):=k1.trans (QD oQ)
 have g2:(ZW H1 sl (S.map V.str)) sl=some (QZ (S.map V.str)):=zac
 generalize upd H1 sl (QZ (S.map V.str))=H2 at k2 g2
 have sr:HAt H2 u hs:=hh.keep k2 ZM
 refine⟨_,rfl,sl,rfl,⟨_,Z4 g2⟩,λi m ys τ H'=>Aj5 (m=S.length-i) (i≤S.length) (Ex2 λx0 x1=>τ=[x0,x1,ZP u]) (ZE H2 H') (Ex1 λas:List Addr=>Aj3 (ys=as.map V.ref) (as.length≤4*i) (PSI H' as ((S.take i).flatMap λs=>(([0,1,2,3]:List Int).filter λo=>!decide (o=hu hs s)).map λo=>(s,o)))),
  ⟨S.length,rfl,Zc _,⟨none,none,rfl⟩,Keep.refl,[],rfl,Zc _,.nil⟩,?_⟩
 rintro i m ys τ H3 ⟨rfl,hi,⟨x0,x1,rfl⟩,k3,as,rfl,ba,pa⟩
 have g3:=k3 _ _ g2 ZM
 by_cases ae:i<S.length
 ·refine .inr ⟨⟨_,.str S[i],Z4 g3,by rw [Qo,Qc ae];rfl⟩,?_⟩
  rintro v H4 ⟨rfl,hv⟩
  have aT:=hv _ (Z4 g3)
  rw[Qo,Qc ae]at aT
  obtain rfl:V.str S[i]=v:=Qn aT
  have oR:=ap _ (Qs ae)
  have tk:S.take QY=S.take i++[S[i]]:=Ql ae
  generalize S[i]=s at oR tk
  refine⟨(4:Int),rfl,ZU,ZO,?_⟩
  refine⟨λj m2 ys τ H2'=>Aj5 (m2=4-j) (j≤4) (Ex1 λx1=>τ=[QB (.str s),x1,ZP u]) (ZE H2 H2') (Ex1 λas:List Addr=>Aj3 (ys=as.map V.ref) (as.length≤4*i+j) (PSI H2' as (((S.take i).flatMap λs=>(([0,1,2,3]:List Int).filter λo=>!decide (o=hu hs s)).map λo=>(s,o))++((([0,1,2,3]:List Int).take j).filter λo=>!decide (o=hu hs s)).map λo=>(s,o)))),
   ⟨4,rfl,Zc _,⟨_,rfl⟩,k3,as,rfl,ba,ZR pa⟩,?_⟩
  rintro j m2 ys τ H5 ⟨rfl,hj,⟨x1',rfl⟩,k5,cZ,rfl,nK,qf⟩
  by_cases cc:j<4
  ·refine .inr ⟨cc,by rw [Qa];omega,?_⟩
   rintro y H6 ⟨rfl,rfl⟩
   have gs:=(sr.keep k5 ZM).hf.get (Sum.inr s)
   rw[zd3 hh.nd (e:=(s,hu hs s)) (hu_at hh.nd oR)]at gs
   have aQ:=four_take cc
   refine⟨W7,W7,W7,u,W7,gs,rfl,W7,?_⟩
   by_cases hb:(0:Int)+(j:Int)=hu hs s
   ·refine zbl (by show (!decide (V.int _=V.int _))=false;rw [WW (congrArg V.int hb)];rfl) ⟨_,QP,rfl,cc,⟨_,rfl⟩,k5,cZ,rfl,ZO,?_⟩
    rw[aQ,Yw,Zr (by rw[decide_eq_true hb];decide),Wn,Zw];exact qf
   ·refine zbs (by show (!decide (V.int _=V.int _))=true;rw [decide_eq_false (fun z=>hb (by injection z))];rfl) ⟨_,rfl,_,rfl,(ZS 2),fun t ht=>⟨_,QP,rfl,cc,⟨_,rfl⟩,k5.trans (QD ht),cZ++[t],by rw [Qr];rfl,by rw [Qy];show _+1≤_;omega,?_⟩⟩
    rw[aQ,Yw,Zq (by rw[decide_eq_false hb];rfl),Wn,Qr,←Qw]
    exact za5 (PSI.keep qf (QD ht)) (.cons zac .nil)
  ·have ej:j=4:=by omega
   subst ej
   refine .inl ⟨QK,_,QP,rfl,ae,⟨_,_,rfl⟩,k5,cZ,rfl,ZO,?_⟩
   rw[tk,List.flatMap_append,List.flatMap_cons,List.flatMap_nil,Zw]
   exact qf
 ·have cg:i=S.length:=by exact zar3 ‹_› ‹_›
  subst cg
  refine .inl ⟨⟨_,Z4 g3,W0 Qa⟩,λD hD=>?_⟩
  rw[Qt QK]at pa
  exact kq D as _ zac (PSI.keep pa (QD hD)) ((k2.trans k3).trans (QD hD))
end
abbrev sOne:Stmt:=top 28
inductive zdg(B H:Hp)(l:Nb)(L:List Swap):Prop
 |mk (as:Nl) (h0:B l=none) (h1:H l=some (.lst (as.map V.ref))) (h2:Paired (SwAt B H) as L):zdg B H l L
def zdg.keep(h:zdg B H l L)(k:ZE H H'):zdg B H' l L:=by
 obtain⟨as,h0,h1,h2⟩:=h
 exact⟨as,h0,k _ _ h1 ZM,Paired.imp' (λ_ _ z=>z.keep k) h2⟩
def zdg.old(h:zdg B H l L)(k:ZE B' B):zdg B' H l L:=by
 obtain⟨as,h0,h1,h2⟩:=h
 exact⟨as,zav k h0 ZM,h1,Paired.imp' (λ_ _ z=>z.old k) h2⟩
inductive ResAt(B H:Hp)(t:Nb)(p:Option (List Swap)×Nat):Prop
 |no (h0:p.1=none) (h1:H t=some (.tup [.non,.int (p.2:Nat)])):ResAt B H t p
 |yes (l:Nb) (L:List Swap) (h0:p.1=some L) (h1:H t=some (.tup [.ref l,.int (p.2:Nat)])) (h2:zdg B H l L):ResAt B H t p
inductive IspOne(C:Nb)(vs:List V)(H:Hp)(Q:VK):Prop
 |mk (x dx d u:Nb) (es:List Ent) (hs:List (Str×Int)) (e:Ent) (m:Nat) (h0:vs=[.ref x,.ref u,.str e.1,.int (m:Int)]) (h1:WAt H C x dx d es) (h2:WOk es) (h3:HAt H u hs) (h4:e∈es) (h5:∀x∈hs.map (·.1),x∈es.map (·.1))
  (h8:∀(t:Nb) (H':Hp),ResAt H H' t (onN ZQ hs e.1 m)→ZE H H'→Q (ZZ t) H'):IspOne C vs H Q
def spOne(C:Nb):Sp:=λvs H Q _=>IspOne C vs H Q
def hs_cnt{hs:List QJ}(nd:(hs.map (·.1)).Nodup):(hs.map λe=>Z3)=cnt (hs.map (·.1)) (hu hs):=by
 unfold cnt
 rw[Zk]
 refine Yb λe he=>?_
 show((Sum.inr e.1:Key),V.int e.2)=(Sum.inr e.1,V.int (hu hs e.1))
 rw[hu_in nd he]
def tr_mem{r:Nn}{hs:List QJ}{x:Str}{q:Str×Int}(h:q∈trN r hs x):q.1∈hs.map (·.1)∧q.2≠hu hs q.1∧0≤q.2∧q.1∈r x:=by
 unfold trN at h
 obtain⟨s,h1,h2⟩:=List.mem_flatMap.mp h
 obtain⟨o,h3,rfl⟩:=Qj.mp h2
 have h4:=Zj.mp h1
 have h5:=Zj.mp h3
 refine⟨of_decide_eq_true h4.2,λz=>?_,?_,chH_mem h4.1⟩
 ·have h6:(!decide (o=hu hs s))=true:=h5.2
  rw[decide_eq_true z]at h6;cases h6
 ·have h7:=h5.1
  simp at h7
  show 0≤o
  omega
def zii{α:Type}{g:Nat→Option α×Nat}{t:List (Nat→Option α×Nat)}{m s n:Nat}{a:α}(h:s≠m)(hg:g (m-s-1)=(QB a,n)):goB (g::t) m s=(QB a,s+1+n):=by
 show(if s=m then(none,s) else _)=_
 rw[if_neg h,hg]
def zij{α:Type}{g:Nat→Option α×Nat}{t:List (Nat→Option α×Nat)}{m s n:Nat}(h:s≠m)(hg:g (m-s-1)=(none,n)):goB (g::t) m s=goB t m (s+1+n):=by
 show(if s=m then(none,s) else _)=_
 rw[if_neg h,hg]
def hs_len{es:List Ent}{hs:List QJ}(W:WOk es)(nd:(hs.map (·.1)).Nodup)(h:∀x∈hs.map (·.1),x∈es.map (·.1)):hs.length≤16:=by
 have:=zcs nd h
 rw[Qa,Qa]at this
 exact Zi this W.few
def us_is{es:List Ent}{e:Ent}(nd:(es.map (·.1)).Nodup)(he:e∈es)(hs:List QJ):(e.2.1.filter λz=>decide (z∈hs.map (·.1))).map (hu hs)=usN ZQ hs e.1:=by
 unfold usN
 rw[zaw nd he]
section
variable{P:Ni}{w:Nk}{K:Na}{mg:Nd}{base:Nm}
def scOne:zak ["web", "hues", "place", "most", "steps", "start", "other", "swap"] ["web", "hues", "place", "most"] (zag sOne):=fsk
def ok_one{tk:Tok}(F:Fun K "by_one" "by_one" sOne f fd)(GT:ZI "tries" ["web", "hues", "place"] 2 (spTries C))(GS:ZI "swap_of" ["web", "hues", "start", "other"] 3 (zhw C))(GX:ZI "swapped" ["hues", "swap"] 2 zec)(GH:ZI "free_hue" ["web", "hues", "place", "many"] 2 (spFree C))(hF:mg "FOUR" = some (.int 4 tk)):ZC 4 f fd ["web", "hues", "place", "most"] (spOne C):=by
 refine F.okL scOne QG
 obtain⟨x,dx,d,u,es,hs,e,m,rfl,wt,W,hh,he,hk,kq⟩:=h
 have bh:Room 2 _:=hr.mono ZU
 have aw:=sizeLine_eq
 refine⟨_,zad (zar 4 scOne.nd zai)
  (zad (zba Ze rfl (zao (pcl GT bh (zaa QH (ZV 1 Q8)))) (zcp rfl (zaj (zan 5 scOne.nd) (zaj (zan 6 scOne.nd) zbq)))
   (zad (zb0 (zaq op_eq (pv 4) (pv 3) (zbe _)) (zah ps_break) zas)
   (zad (ps_aug (i:=4) scOne.nd rfl (Or.inl rfl) zai ip_add)
   (zad (zar 7 scOne.nd (pcl GS hr (zaa QH (zaa QQ (ZV 5 (pv 6))))))
   (zah (zb0 (zcm (zgf (pcl GH bh (zaa QH (zaa (pcl GX bh (ZV 1 (pv 7))) (ZV 2 (zge (v:=.int 4) rfl hF ⟨tk,rfl⟩)))))))
    (zah (zau (zbo (zaa (zbk (Z0 7)) (Z0 4))))) zas))))))
  (zah (zau (zbo (zaa zgb (Z0 4)))))),?_⟩
 have iq:=hs_len W hh.nd hk
 show tSeq (tAsg (tC (V.int 0)) (ze9 4)) _ _ _ _
 refine zie (λ σ' H'=>Aj2 (σ'=[ZP x,ZP u,QB (.str e.1),QB (.int (m:Int)),QB (W6 ((0:Nat):Int)),none,none,none]) (H=H')) (λD' bK=>bK _ _ ⟨rfl,rfl⟩) ?_
 rintro σ' H' ⟨rfl,rfl⟩
 dsimp only
 refine⟨W7,W7,W7,x,dx,d,u,es,hs,e,rfl,wt,W,hh,he,λl as H1 aJ iJ k1=>?_⟩
 have tm:=@tr_mem ZQ hs e.1
 have e0:onN ZQ hs e.1 m=goB ((trN ZQ hs e.1).map λq _=>(if mex (usN ZQ (exN hs (ZL q)) e.1)<4 then some [ZL q] else none,0)) m 0:=rfl
 generalize hT:trN ZQ hs e.1=T at iJ e0 tm
 have pq:as.length=T.length:=Ya iJ
 refine⟨l,rfl,⟨_,Z4 aJ⟩,zbf (xs:=as.map V.ref) (λi σ H'=>Aj3 (Ex3 λx5 x6 x7=>σ=[ZP x,ZP u,QB (.str e.1),QB (.int (m:Int)),QB (W6 ((i:Nat):Int)),x5,x6,x7]) (ZE H1 H') (onN ZQ hs e.1 m=goB ((T.drop i).map λq _=>(if mex (usN ZQ (exN hs (ZL q)) e.1)<4 then some [ZL q] else none,0)) m i))
  ⟨⟨_,_,_,rfl⟩,Keep.refl,e0⟩ (λi σ H' _ hh=>SqL.of (hh.2 _ _ aJ ZM)) ?_ ?_⟩
 ·rintro i v σ H2 hv ⟨⟨x5,x6,x7,rfl⟩,k2,ei⟩
  have hi:i<as.length:=by have:=(Qz.mp hv).1;rwa[Qa]at this
  rw[Qo,Qc hi]at hv
  cases hv
  obtain⟨aK,cQ⟩:=zaz iJ hi
  rw[Yo aK,Qm]at ei
  obtain⟨t1,t2,t3,t4⟩:=tm (Qs aK)
  have bZ:=k2 _ _ cQ ZM
  generalize T[i]=q at bZ ei t1 t2 t3 t4
  have bM:=k1.trans k2
  refine⟨as[i],W7,WV bZ,rfl,_,W7,_,W7,rfl,?_⟩
  refine⟨W7,W7,rfl,W7,?_⟩
  by_cases hm:i=m
  ·refine zbs (WW (by rw [hm])) ⟨_,rfl,(ZS 2),fun t ht=>?_⟩
   have e1:onN ZQ hs e.1 m=(none,i):=by rw[ei];exact if_pos hm
   refine kq t _ (.no (by rw[e1]) (Z2 e1 zac)) (bM.trans (QD ht))
  refine zbl (decide_eq_false (λz=>hm (by injection z with z;omega))) ⟨_,rfl,_,_,rfl,rfl,?_⟩
  have wk:∀{H':Hp},ZE H H'→WAt H' C x dx d es:=λkk=>wt.keep kk ZM ZM λ_ _=>by simp
  refine⟨W7,W7,W7,W7,x,dx,d,u,es,hs,q.1,q.2,rfl,wk bM,W,hh.keep bM ZM,hk,t1,t2,t3,λa H3 l4 fa k3=>?_⟩
  have gh:=bM.trans k3
  refine⟨W7,W7,W7,H2,u,a,hs,ZL q,rfl,hh.keep gh ZM,l4,t1,λy hy=>ch_key t1 hy,iq,λu4 H4 fu h4 k4=>?_⟩
  have jX:=gh.trans k4
  refine⟨W7,x,dx,d,u4,es,e,(exN hs (ZL q)).map (·.1),hu (exN hs (ZL q)),4,rfl,wk jX,by rw[←hs_cnt h4.nd];exact h4.dc,he,Zi (W.rl e he) ZU,ZU,λH5 k5=>⟨_,rfl,?_⟩⟩
  rw[us_is wt.ta.nd he]
  have lj:=jX.trans k5
  have pZ:=(l4.keep (k4.trans k5)).old bM
  have da:(((i+1:Nat):Nat):Int)=(i:Int)+1:=by omega
  unfold frV
  by_cases hx:mex (usN ZQ (exN hs (ZL q)) e.1)<4
  ·have pN:onN ZQ hs e.1 m=(some [ZL q],i+1):=by
    exact ei.trans (zii (a:=[ZL q]) (n:=0) hm (by show(if _ then _ else _,0)=_;rw[if_pos hx]))
   rw[if_pos hx]
   refine zbs rfl ⟨_,rfl,(ZS 1),λl6 h6=>?_⟩
   have k6:ZE H5 (upd H5 l6 (.lst [ZZ a])):=Keep.new h6
   have g6:(upd H5 l6 (.lst [ZZ a])) l6=some (QZ ([a].map V.ref)):=zac
   generalize upd H5 l6 (.lst [ZZ a])=H6 at k6 g6
   refine⟨W7,(ZS 2),λt7 h7=>?_⟩
   have k7:ZE H6 (upd H6 t7 (.tup [ZZ l6,W6 ((i:Int)+1)])):=Keep.new h7
   refine kq t7 _ (.yes l6 [ZL q] (by rw[pN]) (by rw[pN,zac];rfl) ⟨[a],zav lj h6 ZM,k7 _ _ g6 ZM,.cons (pZ.keep (k6.trans k7)) .nil⟩) ((lj.trans k6).trans k7)
  ·have pN:=ei.trans (zij hm (n:=0) (by show (if _ then _ else _,0)=_;rw [if_neg hx]))
   rw[if_neg hx]
   refine zbl rfl ⟨⟨_,_,_,by rw[da];rfl⟩,((k2.trans k3).trans k4).trans k5,pN⟩
 ·rintro σ H2 ⟨⟨x5,x6,x7,rfl⟩,k2,ei⟩
  rw[Qa,pq,Ua QK]at ei
  have e1:onN ZQ hs e.1 m=(none,T.length):=ei
  refine⟨W7,(ZS 2),λt ht=>?_⟩
  exact kq t _ (.no (by rw[e1]) (by rw[e1,zac,Qa,pq])) ((k1.trans k2).trans (QD ht))
end
abbrev sTwo:Stmt:=top 29
theorem goB_mem{α:Type}{a:α}{k:Nat}:∀{gs:List (Nat→Option α×Nat)} {m s:Nat},goB gs m s=(QB a,k)→∃g∈gs,∃b n,g b=(QB a,n)
 |[],m,s,h=>by cases h
 | g::t,m,s,h=>by
  by_cases hm:s=m
  ·have:goB (g::t) m s=(none,s):=if_pos hm
   rw[this]at h;cases h
  ·rcases hg:g (m - s - 1) with ⟨_ | a',n⟩
   ·rw [zij hm hg] at h
    obtain⟨g',h1,h2⟩:=goB_mem h
    exact⟨g',Qe _ h1,h2⟩
   ·rw [zii hm hg] at h
    cases h
    exact⟨g,Qb,_,n,hg⟩
def on_one{r:Nn}{hs:List QJ}{x:Str}{m:Nat}{L:List Swap}(h:(onN r hs x m).1=some L):∃q∈trN r hs x,L=[swN r hs q]∧mex (usN r (exN hs (swN r hs q)) x)<4:=by
 have h':onN r hs x m=(QB L,(onN r hs x m).2):=Ue h rfl
 unfold onN at h'
 obtain⟨g,hg,b,n,e⟩:=goB_mem h'
 obtain⟨q,hq,rfl⟩:=Qj.mp hg
 have e1:(if mex (usN r (exN hs (swN r hs q)) x)<4 then some [swN r hs q] else none)=some L:=congrArg Prod.fst e
 split at e1
 ·rename_i z
  exact⟨q,hq,(Qn e1).symm,z⟩
 ·cases e1
def on_le{r:Nn}{hs:List QJ}{x:Str}{m:Nat}(h:(r x).length≤16):(onN r hs x m).2≤m:=by
 obtain⟨R,N,_,e⟩:=on_bud (hs:=hs) h
 rw[e]
 split
 ·assumption
 ·exact Qf _
inductive IspTwo(C:Nb)(vs:List V)(H:Hp)(Q:VK):Prop
 |mk (x dx d u:Nb) (es:List Ent) (hs:List (Str×Int)) (e:Ent) (m:Nat) (h0:vs=[.ref x,.ref u,.str e.1,.int (m:Int)]) (h1:WAt H C x dx d es) (h2:WOk es) (h3:HAt H u hs) (h4:e∈es) (h5:∀x∈hs.map (·.1),x∈es.map (·.1))
  (h8:∀(t:Nb) (H':Hp),ResAt H H' t (twN ZQ hs e.1 m)→ZE H H'→Q (ZZ t) H'):IspTwo C vs H Q
def spTwo(C:Nb):Sp:=λvs H Q _=>IspTwo C vs H Q
section
variable{P:Ni}{w:Nk}{K:Na}{mg:Nd}{base:Nm}
def scTwo:zak ["web", "hues", "place", "most", "steps", "start", "other", "first", "second", "more"] ["web", "hues", "place", "most"] (zag sTwo):=fsk
def ok_two(F:Fun K "by_two" "by_two" sTwo f fd)(GT:ZI "tries" ["web", "hues", "place"] 2 (spTries C))(GS:ZI "swap_of" ["web", "hues", "start", "other"] 3 (zhw C))(GX:ZI "swapped" ["hues", "swap"] 2 zec)(GO:ZI "by_one" ["web", "hues", "place", "most"] 4 (spOne C)) :
  FnOk P w K mg base CX0 5 f fd ["web", "hues", "place", "most"] (spTwo C):=by
 refine F.okL scTwo QG
 obtain⟨x,dx,d,u,es,hs,e,m,rfl,wt,W,hh,he,hk,kq⟩:=h
 have bh:Room 2 _:=hr.mono ZU
 have lO:Room 3 _:=hr.mono ZU
 have aw:=sizeLine_eq
 refine⟨_,zad (zar 4 scTwo.nd zai)
  (zad (zba Ze rfl (zao (pcl GT bh (zaa QH (ZV 1 Q8)))) (zcp rfl (zaj (zan 5 scTwo.nd) (zaj (zan 6 scTwo.nd) zbq)))
   (zad (zb0 (zaq op_eq (pv 4) (pv 3) (zbe _)) (zah ps_break) zas)
   (zad (zar 7 scTwo.nd (pcl GS lO (zaa QH (zaa QQ (ZV 5 (pv 6))))))
   (zad (zd1 (pcl GO hr (zaa QH (zaa (pcl GX bh (ZV 1 (pv 7))) (ZV 2 (za1 zdl (za1 zdl (pv 3) (pv 4)) zai))))) (zcp rfl (zaj (zan 8 scTwo.nd) (zaj (zan 9 scTwo.nd) zbq))))
   (zad (ps_aug (i:=4) scTwo.nd rfl (Or.inl rfl) (za1 zb7 zai (pv 9)) ip_add)
   (zah (zb0 (zcm (zgf (pv 8)))
    (zah (zau (zbo (zaa (za1 zhb (zbk (Z0 7)) (pv 8)) (Z0 4))))) zas)))))))
  (zah (zau (zbo (zaa zgb (Z0 4)))))),?_⟩
 have iq:=hs_len W hh.nd hk
 have bw:(ZG e.1).length≤16:=by rw[zaw wt.ta.nd he];exact W.rl e he
 show tSeq (tAsg (tC (V.int 0)) (ze9 4)) _ _ _ _
 refine zie (λ σ' H'=>Aj2 (σ'=[ZP x,ZP u,QB (.str e.1),QB (.int (m:Int)),QB (W6 ((0:Nat):Int)),none,none,none,none,none]) (H=H')) (λD' bK=>bK _ _ ⟨rfl,rfl⟩) ?_
 rintro σ' H' ⟨rfl,rfl⟩
 dsimp only
 refine⟨W7,W7,W7,x,dx,d,u,es,hs,e,rfl,wt,W,hh,he,λl as H1 aJ iJ k1=>?_⟩
 have tm:=@tr_mem ZQ hs e.1
 obtain⟨G,hG⟩:∃G:Str×Int→Nat→Option (List Swap)×Nat,G=λq b=>((onN ZQ (exN hs (ZL q)) e.1 b).1.map (ZL q::·),(onN ZQ (exN hs (ZL q)) e.1 b).2):=⟨_,rfl⟩
 have e0:twN ZQ hs e.1 m=goB ((trN ZQ hs e.1).map G) m 0:=by rw[hG];rfl
 generalize hT:trN ZQ hs e.1=T at iJ e0 tm
 have pq:as.length=T.length:=Ya iJ
 refine⟨l,rfl,⟨_,Z4 aJ⟩,zbf (xs:=as.map V.ref) (λi σ H'=>Ex1 λs:Nat=>Aj4 (Ex5 λx5 x6 x7 x8 x9=>σ=[ZP x,ZP u,QB (.str e.1),QB (.int (m:Int)),QB (W6 ((s:Nat):Int)),x5,x6,x7,x8,x9]) (ZE H1 H') (s≤m) (twN ZQ hs e.1 m=goB ((T.drop i).map G) m s))
  ⟨0,⟨_,_,_,_,_,rfl⟩,Keep.refl,Zc _,e0⟩ (λi σ H' _ hh=>SqL.of (by obtain⟨_,_,z,_,_⟩:=hh;exact z _ _ aJ ZM)) ?_ ?_⟩
 ·rintro i v σ H2 hv ⟨s,⟨x5,x6,x7,x8,x9,rfl⟩,k2,r6,ei⟩
  have hi:i<as.length:=by have:=(Qz.mp hv).1;rwa[Qa]at this
  rw[Qo,Qc hi]at hv
  cases hv
  obtain⟨aK,cQ⟩:=zaz iJ hi
  rw[Yo aK,Qm]at ei
  obtain⟨t1,t2,t3,t4⟩:=tm (Qs aK)
  have bZ:=k2 _ _ cQ ZM
  generalize T[i]=q at bZ ei t1 t2 t3 t4
  have bM:=k1.trans k2
  refine⟨as[i],W7,WV bZ,rfl,_,W7,_,W7,rfl,?_⟩
  refine⟨W7,W7,rfl,W7,?_⟩
  by_cases hm:s=m
  ·refine zbs (WW (by rw [hm])) ⟨_,rfl,(ZS 2),fun t ht=>?_⟩
   have e1:twN ZQ hs e.1 m=(none,s):=by rw[ei];exact if_pos hm
   refine kq t _ (.no (by rw[e1]) (Z2 e1 zac)) (bM.trans (QD ht))
  refine zbl (decide_eq_false (λz=>hm (by injection z with z;omega))) ?_
  have wk:∀{H':Hp},ZE H H'→WAt H' C x dx d es:=λkk=>wt.keep kk ZM ZM λ_ _=>by simp
  refine⟨W7,W7,W7,W7,x,dx,d,u,es,hs,q.1,q.2,rfl,wk bM,W,hh.keep bM ZM,hk,t1,t2,t3,λa H3 l4 fa k3=>?_⟩
  have gh:=bM.trans k3
  refine⟨W7,W7,W7,H2,u,a,hs,ZL q,rfl,hh.keep gh ZM,l4,t1,λy hy=>ch_key t1 hy,iq,λu4 H4 fu h4 k4=>?_⟩
  have jX:=gh.trans k4
  have em:(m:Int)-(s:Int)-1=((m-s-1:Nat):Int):=by omega
  refine⟨W7,W7,W7,_,W7,rfl,_,W7,rfl,x,dx,d,u4,es,exN hs (ZL q),e,m-s-1,by rw[em];rfl,wk jX,W,h4,he,Z2 zil hk,λt5 H5 r5 k5=>?_⟩
  have lj:=jX.trans k5
  have pZ:=(l4.keep (k4.trans k5)).old bM
  have fm:=on_le (hs:=exN hs (ZL q)) (m:=m-s-1) bw
  have mG:G q (m-s-1)=((onN ZQ (exN hs (ZL q)) e.1 (m-s-1)).1.map (ZL q::·),(onN ZQ (exN hs (ZL q)) e.1 (m-s-1)).2):=by rw[hG]
  have h1L:=@on_one ZQ (exN hs (ZL q)) e.1 (m-s-1)
  generalize onN ZQ (exN hs (ZL q)) e.1 (m-s-1)=p5 at r5 fm mG h1L
  have da:(s:Int)+(1+(p5.2:Int))=((s+1+p5.2:Nat):Int):=by omega
  rcases r5 with⟨r0,r1⟩ | ⟨l5,L,r0,r1,r2⟩
  ·refine ⟨t5,_,rfl,WV r1,rfl,_,_,rfl,_,_,rfl,rfl,?_⟩
   refine⟨W7,W7,_,W7,rfl,_,W7,rfl,?_⟩
   refine⟨W7,W7,zbl rfl ?_⟩
   rw[r0]at mG
   exact⟨s+1+p5.2,⟨_,_,_,_,_,by rw[←da];rfl⟩,((k2.trans k3).trans k4).trans k5,ZO,ei.trans (zij hm mG)⟩
  ·refine ⟨t5,_,rfl,WV r1,rfl,_,_,rfl,_,_,rfl,rfl,?_⟩
   refine⟨W7,W7,_,W7,rfl,_,W7,rfl,?_⟩
   refine⟨W7,W7,zbs rfl ?_⟩
   rw[r0]at mG
   have eo:twN ZQ hs e.1 m=(some (ZL q::L),s+1+p5.2):=ei.trans (zii hm mG)
   obtain⟨kY,_,g5,jT⟩:=r2.old jX
   obtain⟨q',_,eL,_⟩:=h1L r0
   have ba:kY.length=1:=by rw[Ya jT,eL];rfl
   refine⟨W7,(ZS 1),λl6 h6=>?_⟩
   have k6:ZE H5 (upd H5 l6 (.lst [ZZ a])):=Keep.new h6
   have g6:(upd H5 l6 (.lst [ZZ a])) l6=some (.lst [ZZ a]):=zac
   generalize upd H5 l6 (.lst [ZZ a])=H6 at k6 g6
   refine⟨W7,l6,l5,_,W7,rfl,g6,k6 _ _ g5 ZM,by rw[Qa,ba];show 1+1≤_;omega,λl7 h7=>?_⟩
   have k7:ZE H6 (ZW H6 l7 ([V.ref a]++kY.map V.ref)):=Keep.new h7
   have g7:(ZW H6 l7 ([V.ref a]++kY.map V.ref)) l7=some (QZ ((a::kY).map V.ref)):=zac
   generalize upd H6 l7 (QZ ([V.ref a]++kY.map V.ref))=H7 at k7 g7
   refine⟨W7,(ZS 2),λt8 h8=>?_⟩
   have k8:ZE H7 (upd H7 t8 (.tup [ZZ l7,W6 ((s:Int)+(1+(p5.2:Int)))])):=Keep.new h8
   have qt:=(k6.trans k7).trans k8
   refine kq t8 _ (.yes l7 (ZL q::L) (by rw[eo]) (by rw[eo,zac];exact congrArg (λz=>some (HO.tup [V.ref l7,V.int z])) da) ⟨a::kY,zav (lj.trans k6) h7 ZM,k8 _ _ g7 ZM,.cons (pZ.keep qt) (Paired.imp' (λ_ _ z=>z.keep qt) jT)⟩) (lj.trans qt)
 ·rintro σ H2 ⟨s,⟨x5,x6,x7,x8,x9,rfl⟩,k2,r6,ei⟩
  rw[Qa,pq,Ua QK]at ei
  have e1:twN ZQ hs e.1 m=(none,s):=ei
  refine⟨W7,(ZS 2),λt ht=>?_⟩
  exact kq t _ (.no (by rw[e1]) (by rw[e1,zac])) ((k1.trans k2).trans (QD ht))
end
abbrev sFs:Stmt:=top 30
abbrev sBack:Stmt:=top 24
def WOf(hs:List QJ)(w:Swap):Prop:=w.1∈hs.map (·.1)∧∀y∈w.2.2,y∈hs.map (·.1)
def wof_sw{r:Nn}{hs:List QJ}{q:Str×Int}(h:q.1∈hs.map (·.1)):WOf hs (swN r hs q):=⟨h,λy hy=>ch_key h hy⟩
def fs_some{r:Nn}{hs:List QJ}{x:Str}{m:Nat}{L:List Swap}(h:(fsN r hs x m).1=some L):(∀ w∈L,WOf hs w)∧mex (usN r (L.foldl exN hs) x) < 4:=by
 unfold fsN at h
 split at h
 ·rename_i z
  cases h
  exact⟨λw hw=>(by cases hw),z⟩
 ·rcases ho:onN r hs x m with ⟨_ | L1,n⟩
  ·rw [ho] at h
   have h':(twN r hs x (m-n)).1=some L:=h
   have h2:twN r hs x (m-n)=(QB L,(twN r hs x (m-n)).2):=Ue h' rfl
   unfold twN at h2
   obtain⟨g,hg,b,k,e⟩:=goB_mem h2
   obtain⟨q,hq,rfl⟩:=Qj.mp hg
   have e1:(onN r (exN hs (swN r hs q)) x b).1.map (swN r hs q::·)=some L:=congrArg Prod.fst e
   cases ko:(onN r (exN hs (swN r hs q)) x b).1 with
   |none=>rw[ko]at e1;cases e1
   | some L2 =>
    rw[ko]at e1
    obtain⟨q',dw,rfl,hm⟩:=on_one ko
    cases e1
    refine⟨λw hw=>?_,hm⟩
    rcases Qg.mp hw with z | z
    ·rw[z];exact wof_sw (tr_mem hq).1
    ·rw [Qd.mp z]
     have:=wof_sw (r:=r) (tr_mem dw).1
     unfold WOf at this ⊢
     rw[zil]at this
     exact this
  ·rw [ho] at h
   have h1:some L1=some L:=h
   cases h1
   obtain⟨q,hq,rfl,hm⟩:=on_one (L:=L) (show(onN r hs x m).1=some L by rw[ho])
   refine⟨λw hw=>?_,hm⟩
   rw[Qd.mp hw]
   exact wof_sw (tr_mem hq).1
theorem zc7:∀(L:List Swap) (hs:List QJ),(L.foldl exN hs).map (·.1)=hs.map (·.1)
 |[],_=>rfl
 |w::t,hs=>by rw[Jg,zc7 t,zil]
inductive IspFs(C:Nb)(vs:List V)(H:Hp)(Q:VK):Prop
 |mk (x dx d u:Nb) (es:List Ent) (hs:List (Str×Int)) (e:Ent) (m:Nat) (h0:vs=[.ref x,.ref u,.str e.1,.int (m:Int)]) (h1:WAt H C x dx d es) (h2:WOk es) (h3:HAt H u hs) (h4:e∈es) (h5:∀x∈hs.map (·.1),x∈es.map (·.1))
  (h8:∀(t:Nb) (H':Hp),ResAt H H' t (fsN ZQ hs e.1 m)→ZE H H'→Q (ZZ t) H'):IspFs C vs H Q
def spFs(C:Nb):Sp:=λvs H Q _=>IspFs C vs H Q
inductive IspBack(C:Nb)(vs:List V)(H:Hp)(Q:VK):Prop
 |mk (B:Hp) (x dx d u l:Nb) (es:List Ent) (hs:List (Str×Int)) (e:Ent) (L:List Swap) (h0:vs=[.ref x,.ref u,.str e.1,.ref l,.int 4]) (h1:WAt H C x dx d es) (h2:WOk es) (h3:HAt H u hs) (h4:e∈es) (h5:∀x∈hs.map (·.1),x∈es.map (·.1)) (h6:e.1∉hs.map (·.1)) (h7:zdg B H l L) (h7':∀w∈L,WOf hs w) (h7'':mex (usN (row (rsOf es)) (L.foldl exN hs) e.1)<4)
  (h8:∀(t a b:Nb) (H':Hp),H' t=some (.tup [ZZ a,ZZ b])→H' a=some (.tup [.str e.1,.int (mex QV:Nat),ZZ l])→HAt H' b (cbN ZQ hs e.1 L)→ZE H H'→Q (ZZ t) H'):IspBack C vs H Q
def spBack(C:Nb):Sp:=λvs H Q _=>IspBack C vs H Q
section
variable{P:Ni}{w:Nk}{K:Na}{mg:Nd}{base:Nm}
def scFs:zak ["web", "hues", "place", "most", "swaps", "steps", "more"] ["web", "hues", "place", "most"] (zag sFs):=fsk
def ok_fs{tk:Tok}(F:Fun K "four_swaps" "four_swaps" sFs f fd)(GH:ZI "free_hue" ["web", "hues", "place", "many"] 2 (spFree C))(GO:ZI "by_one" ["web", "hues", "place", "most"] 4 (spOne C))(GT:ZI "by_two" ["web", "hues", "place", "most"] 5 (spTwo C))(hF:mg "FOUR" = some (.int 4 tk)):ZC 6 f fd ["web", "hues", "place", "most"] (spFs C):=by
 refine F.okL scFs QG
 obtain⟨x,dx,d,u,es,hs,e,m,rfl,wt,W,hh,he,hk,kq⟩:=h
 have bh:Room 2 _:=hr.mono ZU
 have lN:Room 4 _:=hr.mono ZU
 have aw:=sizeLine_eq
 refine⟨_,zad (zb0 (zcm (zgf (pcl GH bh (zaa QH (zaa QQ (ZV 2 (zge (v:=.int 4) rfl hF ⟨tk,rfl⟩)))))))
   (zah (zau (zbo (zaa (zbk zae) (zaa zai zae))))) zas)
  (zad (zd1 (pcl GO lN (zaa QH (zaa QQ (ZV 2 (pv 3))))) (zcp rfl (zaj (zan 4 scFs.nd) (zaj (zan 5 scFs.nd) zbq))))
  (zad (zb0 (zcm (zgf (pv 4))) (zah (zau (zbo (ZV 4 (pv 5))))) zas)
  (zad (zd1 (pcl GT hr (zaa QH (zaa QQ (ZV 2 (za1 zdl (pv 3) (pv 5)))))) (zcp rfl (zaj (zan 4 scFs.nd) (zaj (zan 6 scFs.nd) zbq))))
  (zah (zau (zbo (ZV 4 (za1 zb7 (pv 5) (pv 6))))))))),?_⟩
 have iq:=hs_len W hh.nd hk
 have bw:(ZG e.1).length≤16:=by rw[zaw wt.ta.nd he];exact W.rl e he
 have wk:∀{H':Hp},ZE H H'→WAt H' C x dx d es:=λkk=>wt.keep kk ZM ZM λ_ _=>by simp
 refine⟨W7,W7,W7,x,dx,d,u,es,e,hs.map (·.1),hu hs,4,rfl,wt,by rw[←hs_cnt hh.nd];exact hh.dc,he,Zi (W.rl e he) ZU,ZU,λH1 k1=>⟨_,rfl,?_⟩⟩
 rw[us_is wt.ta.nd he]
 unfold frV
 by_cases hx:mex (usN ZQ hs e.1)<4
 ·rw [if_pos hx]
  have ef:fsN ZQ hs e.1 m=(some [],0):=by unfold fsN;rw[if_pos hx]
  refine zbs rfl ⟨(ZS 0),λl2 h2=>⟨(ZS 2),λt3 h3=>?_⟩⟩
  refine kq t3 _ (.yes l2 [] (by rw[ef]) (by rw[ef,zac];rfl) ⟨[],zav k1 h2 ZM,?_,.nil⟩) ((k1.trans (QD h2)).trans (QD h3))
  rw[zaf (zab (o:=_) zac h3)];exact zac
 rw[if_neg hx]
 have ef:fsN (row (rsOf es)) hs e.1 m=match onN (row (rsOf es)) hs e.1 m with
  |(some L,n)=>(QB L,n)
  |(none,n)=>((twN ZQ hs e.1 (m-n)).1,n+(twN ZQ hs e.1 (m-n)).2):=by
  show(if _ then _ else _)=_
  rw[if_neg hx]
  try(rcases onN ZQ hs e.1 m with⟨_ | _,_⟩<;>rfl)
 refine zbl rfl ?_
 refine⟨W7,W7,W7,W7,x,dx,d,u,es,hs,e,m,rfl,wk k1,W,hh.keep k1 ZM,he,hk,λt2 H2 r2 k2=>?_⟩
 have bM:=k1.trans k2
 have fm:=on_le (hs:=hs) (m:=m) bw
 generalize onN ZQ hs e.1 m=p2 at r2 fm ef
 rcases r2 with⟨r0,r1⟩ | ⟨l2,L,r0,r1,r2⟩
 ·refine ⟨t2,_,rfl,WV r1,rfl,_,_,rfl,_,_,rfl,rfl,?_⟩
  refine⟨W7,W7,zbl rfl ?_⟩
  have em:(m:Int)-(p2.2:Int)=((m-p2.2:Nat):Int):=by omega
  have iF:fsN ZQ hs e.1 m=((twN ZQ hs e.1 (m-p2.2)).1,p2.2+(twN ZQ hs e.1 (m-p2.2)).2):=by
   rw[ef]
   rcases p2 with⟨_ | _,n⟩
   ·rfl
   ·cases r0
  refine⟨W7,W7,W7,W7,W7,_,W7,rfl,x,dx,d,u,es,hs,e,m-p2.2,by rw[em];rfl,wk bM,W,hh.keep bM ZM,he,hk,λt3 H3 r3 k3=>?_⟩
  generalize twN ZQ hs e.1 (m-p2.2)=p3 at r3 iF
  have jK:(p2.2:Int)+(p3.2:Int)=((p2.2+p3.2:Nat):Int):=by omega
  rcases r3 with⟨qb,jR⟩ | ⟨l3,L3,qb,jR,jP⟩
  ·refine ⟨t3,_,rfl,WV jR,rfl,_,_,rfl,_,_,rfl,rfl,?_⟩
   refine⟨W7,W7,W7,_,W7,rfl,(ZS 2),λt4 h4=>?_⟩
   exact kq t4 _ (.no (Z2 iF qb) (by rw[iF,zac,jK])) ((bM.trans k3).trans (QD h4))
  ·refine ⟨t3,_,rfl,WV jR,rfl,_,_,rfl,_,_,rfl,rfl,?_⟩
   refine⟨W7,W7,W7,_,W7,rfl,(ZS 2),λt4 h4=>?_⟩
   exact kq t4 _ (.yes l3 L3 (Z2 iF qb) (by rw[iF,zac,jK]) ((jP.keep (QD h4)).old bM)) ((bM.trans k3).trans (QD h4))
 ·refine ⟨t2,_,rfl,WV r1,rfl,_,_,rfl,_,_,rfl,rfl,?_⟩
  refine⟨W7,W7,zbs rfl ?_⟩
  have iF:fsN ZQ hs e.1 m=(QB L,p2.2):=by
   rw[ef]
   rcases p2 with⟨_ | _,n⟩
   ·cases r0
   ·cases r0;rfl
  refine⟨W7,W7,(ZS 2),λt4 h4=>?_⟩
  exact kq t4 _ (.yes l2 L (by rw[iF]) (by rw[iF,zac]) ((r2.keep (QD h4)).old k1)) (bM.trans (QD h4))
end
end K21
end
section
namespace L2
open PySem PySem.Spec PyProof.Rows
section
variable{X:Cx}
theorem fm_some{β γ:Type}{f:β→Option γ}{g:β→γ}:∀{l:List β},(∀x∈l,f x=some (g x))→l.filterMap f=l.map g
 |[],_=>rfl
 |a::t,h=>by rw[List.filterMap_cons,h a Qb,Qm,fm_some λx hx=>h x (Qe _ hx)]
def pick_sr(a9:Nj):slicePick a9.toArray none none (QB (-1))=a9.reverse.toArray:=by
 unfold slicePick sliceBounds
 simp only[Option.getD_some,show ¬((-1:Int)>0) by decide,if_false,Qx]
 congr 1
 unfold sliceRange
 simp only[show ¬((-1:Int)>0) by decide,if_false]
 have hc:(if((a9.length:Int)-1) > -1 then(((a9.length:Int)-1) - -1 - -1-1)/(- -1) else 0).toNat=a9.length:=by
  split
  ·rw[show(- (-1:Int))=1 from rfl,Int.ediv_one];omega
  ·omega
 rw[hc,List.filterMap_map]
 have hk:∀k∈List.range a9.length,((a9.toArray[·]?)∘λ(k:Nat)=>(((a9.length:Int)-1)+-1*(k:Int)).toNat) k=some (a9.reverse.getD k .none):=λk hk=>by
  have hk:=Wh.mp hk
  have e:(((a9.length:Int)-1)+-1*(k:Int)).toNat=a9.length-1-k:=by omega
  show a9.toArray[(((a9.length:Int)-1)+-1*(k:Int)).toNat]?=_
  rw[e,List.getElem?_toArray,Zb,List.getElem?_reverse hk]
  rw[Qc ZO]
  rfl
 rw[fm_some hk]
 apply Kz
 ·simp
 ·intro i h1 h2
  have h3:i<a9.reverse.length:=h2
  rw[Zl,Uf,Zb,Qc h3]
  rfl
def pe_sr(he:PE X e te):PE X (.Subscript e (.Slice none none (QB (.UnaryOp .USub (.Constant (W6 1) k p4) p3)) p2) pos) (λ σ H Q=>te σ H λx H1=>Ex2 λa xs=>Aj3 (x=.ref a) (SqL X.K H1 a xs) (∀p,H1 p=none→Q (ZZ p) (upd H1 p (.lst xs.reverse)))):=by
 intro a7 s σ H Q I h
 refine Subscript_ (thn (he a7 s σ H _ I h) λv s1 ⟨x,H1,I1,r1,a,xs,ex,hx,q⟩=>?_)
 subst ex
 cases r1
 refine wpAny_Slice (thn (zc8 (X:=X) a7 s1 σ H1 (λo H'=>o=none∧H'=H1) I1 ⟨rfl,rfl⟩) λvl s2 ⟨l,H2,I2,pl,el,eh⟩=>?_)
 subst el;subst eh
 refine thn (zc8 (X:=X) a7 s2 σ H2 (λo H'=>o=none∧H'=H2) I2 ⟨rfl,rfl⟩) λvu s3 ⟨l,H3,I3,pu,el,eh⟩=>?_
 subst el;subst eh
 refine thn (zb6 (X:=X) (pe_un un_neg (zai (X:=X))) a7 s3 σ H3 (λo H'=>o=some (-1)∧H'=H3) I3 ⟨_,rfl,_,rfl,rfl,rfl⟩) λvs s4 ⟨l,H4,I4,ps,el,eh⟩=>?_
 subst el;subst eh
 have I5:ZA H4 {s4 with heap:=s4.heap.push {cls:=.type "slice",data:=.fields #[vl,vu,vs]}}:=I4.kept (t':=s4.toks) λb ob q=>Qi _ q
 obtain⟨a9,r,ht,hz⟩:=I5.list hx
 have af:=r.length
 show ZD (subscriptTail e (.Slice none none (QB (.UnaryOp .USub (.Constant (W6 1) k p4) p3)) p2) (ZZ a) (.ref s4.heap.objs.size)) WY X.xe {s4 with heap:=s4.heap.push {cls:=.type "slice",data:=.fields #[vl,vu,vs]}}
 refine tail_any (ops:=[ZZ a,.ref s4.heap.objs.size]) ht.isList.typeIs slot_list_getitem.lookup ?_ (by with_unfolding_all rfl)
 refine wpAny_getItem_list_slice ht.isList (Heap.IsSliceOf.new ..) pl pu ps ZU ?_ (by rw[Qx]<;>exact zex ‹_› ‹_›)
 rw[pick_sr]
 refine⟨ZZ _,_,I5.laid (t':=s4.toks) (o:=.lst xs.reverse) (λb ob q=>Qi _ q) QK ?_,rfl,q _ (I5.hok.fresh QK)⟩
 exact⟨Z2 Ka hz,_,0,r.reverse,Za _ rfl⟩
end
end L2
end
section
namespace K21
open PySem L2 Wb
abbrev sFp:Stmt:=top 31
section
variable{P:Ni}{w:Nk}{K:Na}{mg:Nd}{base:Nm}
def scBack:zak ["web", "hues", "place", "swaps", "many", "swap", "behind"] ["web", "hues", "place", "swaps", "many"] (zag sBack):=fsk
def ok_back(F:Fun K "come_back" "come_back" sBack f fd)(GX:ZI "swapped" ["hues", "swap"] 2 zec)(GH:ZI "free_hue" ["web", "hues", "place", "many"] 2 (spFree C))(cj:mg "dict" = none):ZC 3 f fd ["web", "hues", "place", "swaps", "many"] (spBack C):=by
 refine F.okL scBack QG
 obtain⟨B,x,dx,d,u,l,es,hs,e,L,rfl,wt,W,hh,he,hk,hek,⟨as,_,hl,pa⟩,hL,pd,kq⟩:=h
 have gM:=zcd hr
 have aw:=sizeLine_eq
 refine⟨_,zad (zba Ze rfl (zao (pv 3)) (zan 5 scBack.nd)
   (zah (zar 1 scBack.nd (pcl GX hr (ZV 1 (pv 5))))))
  (zad (zar 6 scBack.nd (zbp zfl Q4 cj Xc (Z0 1)))
  (zad (zb5 gM (pv 6) Q8 (pcl GH hr (zaa QH (zaa QQ (ZV 2 (pv 4))))) rfl)
  (zah (zau (zbo (zaa (zbo (zaa Q8 (zaa (zb1 gM (pv 6) Q8) (Z0 3)))) (Z0 6))))))),?_⟩
 have iq:=hs_len W hh.nd hk
 have wk:∀{H':Hp},ZE H H'→WAt H' C x dx d es:=λkk=>wt.keep kk ZM ZM λ_ _=>by simp
 have kQ:as.length=L.length:=Ya pa
 refine⟨_,rfl,l,rfl,⟨_,Z4 hl⟩,zbf (xs:=as.map V.ref) (λi σ H'=>Ex1 λu':Addr=>Aj3 (Ex1 λx5=>σ=[ZP x,ZP u',QB (.str e.1),ZP l,QB (W6 4),x5,none]) (ZE H H') (HAt H' u' ((L.take i).foldl exN hs)))
  ⟨u,⟨_,rfl⟩,Keep.refl,hh⟩ (λi σ H' _ hh=>SqL.of (by obtain⟨_,_,z,_⟩:=hh;exact z _ _ hl ZM)) ?_ ?_⟩
 ·rintro i v σ H2 hv ⟨u2,⟨x5,rfl⟩,k2,h2⟩
  have hi:i<as.length:=by have:=(Qz.mp hv).1;rwa[Qa]at this
  rw[Qo,Qc hi]at hv
  cases hv
  obtain⟨aK,hq⟩:=zaz pa hi
  have tk:L.take QY=L.take i++[L[i]]:=Ql aK
  have hw:=hL _ (Qs aK)
  generalize L[i]=w' at hq tk hw
  refine⟨W7,W7,B,u2,as[i],_,w',rfl,h2,hq.keep k2,by rw[zc7];exact hw.1,by rw[zc7];exact hw.2,?_,λu3 H3 fu h3 k3=>⟨u3,⟨_,rfl⟩,k2.trans k3,by rw[tk,List.foldl_append];exact h3⟩⟩
  have:=congrArg List.length (zc7 (L.take i) hs)
  rw[Qa,Qa]at this
  omega
 ·rintro σ H2 ⟨u2,⟨x5,rfl⟩,k2,h2⟩
  rw[Qa,kQ,Qt QK]at h2
  have hfk:=zc7 L hs
  have gY:(L.foldl exN hs).length≤16:=by
   have:=congrArg List.length hfk
   rw[Qa,Qa]at this
   omega
  refine⟨W7,u2,W7,h2.hf.dc,λb hb=>?_⟩
  have k3:ZE H2 (upd H2 b (.dK ((L.foldl exN hs).map λe=>Z3))):=Keep.new hb
  have dI:HAt (upd H2 b (.dK ((L.foldl exN hs).map λe=>Z3))) b (L.foldl exN hs):=⟨zac,h2.nd⟩
  generalize upd H2 b (.dK ((L.foldl exN hs).map λe=>Z3))=H3 at k3 dI
  have gh:=k2.trans k3
  have h23:=h2.keep k3 ZM
  refine⟨W7,W7,W7,W7,x,dx,d,u2,es,e,(L.foldl exN hs).map (·.1),hu (L.foldl exN hs),4,rfl,wk gh,by rw[←hs_cnt h23.nd];exact h23.dc,he,Zi (W.rl e he) ZU,ZU,λH4 k4=>?_⟩
  rw[us_is wt.ta.nd he]
  have efr:frV QV 4=.int (mex QV:Nat):=by unfold frV;rw[if_pos pd]
  rw[efr]
  have nH:=dI.keep k4 ZM
  have oZ:e.1∉(L.foldl exN hs).map (·.1):=by rw[hfk];exact hek
  refine⟨W7,W7,b,W7,DPut.k (k:=Sum.inr e.1) nH.dc (QS Qa),?_⟩
  have iE:=nH.new (mex QV:Int) oZ
  have fb:H b=none:=zav k2 hb ZM
  have k5:ZE H (upd H4 b (.dK (putK ((L.foldl exN hs).map λe=>Z3) (Sum.inr e.1) (.int (mex QV:Nat))))):=(gh.trans k4).fr fb
  generalize upd H4 b (.dK (putK ((L.foldl exN hs).map λe=>Z3) (Sum.inr e.1) (.int (mex QV:Nat))))=H5 at iE k5
  have g5:=iE.hf.get (Sum.inr e.1)
  rw[zd3 iE.nd (e:=(e.1,(mex QV:Int))) (Qh _ Qb)]at g5
  refine⟨W7,W7,W7,b,W7,g5,W7,(ZS 3),λa6 h6=>?_⟩
  have k6:ZE H5 (upd H5 a6 (.tup [.str e.1,.int (mex QV:Nat),ZZ l])):=Keep.new h6
  have g6:(upd H5 a6 (.tup [.str e.1,.int (mex QV:Nat),ZZ l])) a6=some (.tup [.str e.1,.int (mex QV:Nat),ZZ l]):=zac
  generalize upd H5 a6 (.tup [.str e.1,.int (mex QV:Nat),ZZ l])=H6 at k6 g6
  refine⟨W7,(ZS 2),λt7 h7=>?_⟩
  have k7:ZE H6 (upd H6 t7 (.tup [ZZ a6,ZZ b])):=Keep.new h7
  exact kq t7 a6 b _ zac (k7 _ _ g6 ZM) (iE.keep (k6.trans k7) ZM) ((k5.trans k6).trans k7)
end
inductive StAt(B H:Hp)(a:Nb)(sp:Step):Prop
 |mk (l:Nb) (h1:H a=some (.tup [.str sp.1,.int sp.2.1,.ref l])) (h2:zdg B H l sp.2.2):StAt B H a sp
def SwAt.kb(h:SwAt B H a w)(k:Keep [p] H H')(hB:B p=some o)(hp:H p=some (QZ xs)):SwAt B H' a w:=by
 obtain⟨l,h0,h1,h2⟩:=h
 exact⟨l,h0,k _ _ h1 (by simpa using za3 h1 hp ZX),k _ _ h2 (by simpa using λz:l=p=>(by rw[z,hB]at h0;cases h0))⟩
def zdg.kb(h:zdg B H l L)(k:Keep [p] H H')(hB:B p=some o)(hp:H p=some (QZ xs)):zdg B H' l L:=by
 obtain⟨as,h0,h1,h2⟩:=h
 exact⟨as,h0,k _ _ h1 (by simpa using λz:l=p=>(by rw[z,hB]at h0;cases h0)),Paired.imp' (λ_ _ z=>z.kb k hB hp) h2⟩
def StAt.kb(h:StAt B H a sp)(k:Keep [p] H H')(hB:B p=some o)(hp:H p=some (QZ xs)):StAt B H' a sp:=by
 obtain⟨l,h1,h2⟩:=h
 exact⟨l,k _ _ h1 (by simpa using za3 h1 hp ZX),h2.kb k hB hp⟩
def StAt.keep(h:StAt B H a sp)(k:ZE H H'):StAt B H' a sp:=by
 obtain⟨l,h1,h2⟩:=h
 exact⟨l,k _ _ h1 ZM,h2.keep k⟩
def SwAt.ol(h:SwAt B H a w)(k:∀c,B c=none→B' c=none):SwAt B' H a w:=by
 obtain⟨l,h0,h1,h2⟩:=h
 exact⟨l,k _ h0,h1,h2⟩
def zdg.ol(h:zdg B H l L)(k:∀c,B c=none→B' c=none):zdg B' H l L:=by
 obtain⟨as,h0,h1,h2⟩:=h
 exact⟨as,k _ h0,h1,Paired.imp' (λ_ _ z=>z.ol k) h2⟩
inductive zfr(H:Hp)(t:Nb)(p:Option (List Step)×Nat):Prop
 |no (h0:p.1=none) (h1:H t=some (.tup [.non,.int (p.2:Nat)])):zfr H t p
 |yes (l:Nb) (as:Nl) (B:Hp) (L:List Step) (h0:p.1=some L) (h1:H t=some (.tup [.ref l,.int (p.2:Nat)])) (h2:H l=some (.lst (as.map V.ref))) (h3:Paired (StAt B H) as L):zfr H t p
def zfr.keep(h:zfr H t p)(k:ZE H H'):zfr H' t p:=by
 rcases h with⟨h0,h1⟩ | ⟨l,as,B,L,h0,h1,h2,h3⟩
 ·exact .no h0 (k _ _ h1 ZM)
 ·exact .yes l as B L h0 (k _ _ h1 ZM) (k _ _ h2 ZM) (Paired.imp' (λ_ _ z=>z.keep k) h3)
def fp_none{r:Nn}{x:Str}{t:Nf}{hs:List QJ}{m s n:Nat}(h:fsN r hs x (m-s)=(none,n)):fpN r (x::t) hs m s=(none,s+n):=by
 show(match fsN r hs x (m-s) with | (none,n)=>(none,s+n) | (some L,n)=>_)=_
 rw[h]
def fp_some{r:Nn}{x:Str}{t:Nf}{hs:List QJ}{m s n:Nat}{L:List Swap}(h:fsN r hs x (m-s)=(QB L,n)):fpN r (x::t) hs m s=((fpN r t (cbN r hs x L) m (s+n)).1.map ((x,(mex (usN r (L.foldl exN hs) x):Int),L)::·),(fpN r t (cbN r hs x L) m (s+n)).2):=by
 show(match fsN r hs x (m-s) with | (none,n)=>(none,s+n) | (some L,n)=>((fpN r t (cbN r hs x L) m (s+n)).1.map ((x,(mex (usN r (L.foldl exN hs) x):Int),L)::·),(fpN r t (cbN r hs x L) m (s+n)).2))=_
 rw[h]
def fs_le{r:Nn}{hs:List QJ}{x:Str}{m:Nat}(h:(r x).length≤16):(fsN r hs x m).2≤m:=by
 obtain⟨R,N,_,e⟩:=fs_bud (hs:=hs) h
 rw[e]
 split
 ·assumption
 ·exact Qf _
inductive IspFp(C:Nb)(vs:List V)(H:Hp)(Q:VK):Prop
 |mk (x dx d:Nb) (es:List Ent) (m:Nat) (h0:vs=[.ref x,.int (m:Int)]) (h1:WAt H C x dx d es) (h2:WOk es)
  (h8:∀(t:Nb) (T:Nf) (H':Hp),zeb (es.map (·.1)) ZQ T→zfr H' t (fpN ZQ T.reverse [] m 0)→ZE H H'→Q (ZZ t) H'):IspFp C vs H Q
def spFp(C:Nb):Sp:=λvs H Q _=>IspFp C vs H Q
section
variable{P:Ni}{w:Nk}{K:Na}{mg:Nd}{base:Nm}
def scFp:zak ["web", "most", "paper", "hues", "steps", "place", "swaps", "more", "step"] ["web", "most"] (zag sFp):=fsk
def ok_fp{tk:Tok}(F:Fun K "four_paper" "four_paper" sFp f fd)(GO:ZI "order" ["web"] 2 (spOrder C))(GS:ZI "four_swaps" ["web", "hues", "place", "most"] 6 (spFs C))(GB:ZI "come_back" ["web", "hues", "place", "swaps", "many"] 3 (spBack C))(hF:mg "FOUR" = some (.int 4 tk)):ZC 7 f fd ["web", "most"] (spFp C):=by
 refine F.okL scFp QG
 obtain⟨x,dx,d,es,m,rfl,wt,W,kq⟩:=h
 have bh:Room 2 _:=hr.mono ZU
 have lO:Room 3 _:=hr.mono ZU
 have aw:=sizeLine_eq
 refine⟨_,zad (zar 2 scFp.nd (zbk zae))
  (zad (zar 3 scFp.nd zfx)
  (zad (zar 4 scFp.nd zai)
  (zad (zba Ze rfl (zao (pe_sr (pcl GO bh (Z0 0)))) (zan 5 scFp.nd)
   (zad (zd1 (pcl GS hr (zaa QH (zaa (pv 3) (ZV 5 (za1 zdl QQ (pv 4)))))) (zcp rfl (zaj (zan 6 scFp.nd) (zaj (zan 7 scFp.nd) zbq))))
   (zad (ps_aug (i:=4) scFp.nd rfl (Or.inl rfl) (pv 7) ip_add)
   (zad (zb0 (zcm (pc_isN (pv 6))) (zah (zau (zbo (zaa zgb (Z0 4))))) zas)
   (zad (zd1 (pcl GB lO (zaa QH (zaa (pv 3) (zaa (pv 5) (ZV 6 (zge (v:=.int 4) rfl hF ⟨tk,rfl⟩)))))) (zcp rfl (zaj (zan 8 scFp.nd) (zaj (zan 3 scFp.nd) zbq))))
   (zah (zbj (zfn Zy Yr Yq zb8 Q8 (Z0 8)))))))))
  (zah (zau (zbo (ZV 2 (pv 4)))))))),?_⟩
 refine⟨(ZS 0),λpl bd=>λu0 lD=>?_⟩
 have k1:ZE H (upd (upd H pl WQ) u0 (.dK [])):=(QD bd).trans (QD lD)
 have npu:pl≠u0:=zab (o:=_) zac lD
 have g1:(upd (upd H pl WQ) u0 (.dK [])) pl=some (QZ (([]:List Addr).map V.ref)):=by rw[zaf npu];exact zac
 have h1:HAt (upd (upd H pl WQ) u0 (.dK [])) u0 []:=⟨zac,Zo⟩
 generalize upd (upd H pl WQ) u0 (.dK [])=H1 at k1 g1 h1
 have wk:∀{H':Hp},ZE H H'→WAt H' C x dx d es:=λkk=>wt.keep kk ZM ZM λ_ _=>by simp
 show tSeq (tAsg (tC (V.int 0)) (ze9 4)) _ _ _ _
 refine zie (λ σ' H'=>Aj2 (σ'=[ZP x,QB (.int (m:Int)),ZP pl,ZP u0,QB (W6 ((0:Nat):Int)),none,none,none,none]) (H1=H')) (λD' bK=>bK _ _ ⟨rfl,rfl⟩) ?_
 rintro σ' H' ⟨rfl,rfl⟩
 dsimp only
 refine⟨W7,x,dx,d,es,rfl,wk k1,Zi W.few ZU,W.rn,W.sy,λol T H2 oV O fol k2=>?_⟩
 refine⟨ol,W7,Z4 oV,λrl bw=>?_⟩
 rw[←List.map_reverse]
 have k3:ZE H1 (ZW H2 rl (T.reverse.map V.str)):=k2.trans (QD bw)
 have g3:(ZW H2 rl (T.reverse.map V.str)) rl=some (QZ (T.reverse.map V.str)):=zac
 have nrp:rl≠pl:=Zn (zab (k2 _ _ g1 ZM) bw)
 generalize upd H2 rl (QZ (T.reverse.map V.str))=H3 at k3 g3
 have hRn:T.reverse.Nodup:=(Jo T).nodup_iff.mpr O.nd
 have tO:∀y∈T.reverse,y∈es.map (·.1):=λy hy=>O.pm.mem_iff.mp (List.mem_reverse.mp hy)
 have tP:T.reverse.length≤16:=by
  rw[Ka,O.pm.length_eq,Qa];exact W.few
 have kq':=kq
 clear kq
 obtain⟨R,hR⟩:∃R,R=T.reverse:=⟨_,rfl⟩
 rw[←hR]at g3 hRn tO tP
 have fin:∀(t:Nb) (H':Hp),zfr H' t (fpN ZQ R [] m 0)→ZE H H'→Q (ZZ t) H':=λt H' p k=>kq' t T H' O (hR▸p) k
 have kH:∀{H':Hp},Keep [pl] H3 H'→ZE H H':=λkk c o ec _=>kk c o (k3 _ _ (k1 c o ec ZM) ZM) (by simpa using zab ec bd)
 refine⟨rl,rfl,⟨_,Z4 g3⟩,zes (zs:=R) (λi σ H'=>Ex5 λ(u:Nb) (s:Nat) (hs:List QJ) (as:Nl) (Pd:List Step)=>Aj9 (as.length=i) (Ex4 λx5 x6 x7 x8=>σ=[ZP x,QB (.int (m:Int)),ZP pl,ZP u,QB (W6 ((s:Nat):Int)),x5,x6,x7,x8]) (Keep [pl] H3 H') (s≤m) (HAt H' u hs) (hs.map (·.1)=R.take i) (H' pl=some (QZ W4)) (Paired (StAt H3 H') as Pd) (fpN ZQ R [] m 0=((fpN ZQ (R.drop i) hs m s).1.map (Pd++·),(fpN ZQ (R.drop i) hs m s).2)))
  ⟨u0,0,[],[],[],rfl,⟨_,_,_,_,rfl⟩,Keep.refl,Zc _,h1.keep k3 ZM,rfl,k3 _ _ g1 ZM,.nil,?_⟩ (λi σ H' _ hh=>SqL.of (by obtain⟨_,_,_,_,_,_,_,z,_⟩:=hh;exact z _ _ g3 (ZR nrp))) ?_ ?_⟩
 ·rw [List.drop_zero]
  refine Ue ?_ rfl
  show _=Option.map (λx=>[]++x) _
  cases(fpN ZQ R [] m 0).1<;>rfl
 ·rintro i hi σ H4 ⟨u,s,hs,as,Pd,ba,⟨x5,x6,x7,x8,rfl⟩,k4,r6,h4,bp,gO,qe,ei⟩
  have hx:R[i]∉hs.map (·.1):=by rw[bp];exact zcr hRn hi
  have hkm:∀y∈hs.map (·.1),y∈es.map (·.1):=λy hy=>tO y (Uy (bp▸hy))
  have tk:R.take QY=R.take i++[R[i]]:=Ql hi
  rw[Yo hi]at ei
  obtain⟨e,he,ee⟩:=Qj.mp (tO _ (Qs hi))
  have ee':e.1=R[i]:=ee
  rw[←ee']at hx tk ei ⊢
  have bw:(ZG e.1).length≤16:=by rw[zaw wt.ta.nd he];exact W.rl e he
  have em:(m:Int)-(s:Int)=((m-s:Nat):Int):=by omega
  refine⟨W7,W7,W7,W7,W7,_,W7,rfl,x,dx,d,u,es,hs,e,m-s,by rw[em];rfl,wk (kH k4),W,h4,he,hkm,λt5 H5 r5 k5=>?_⟩
  have fm:=fs_le (hs:=hs) (m:=m-s) bw
  have ie:=@fs_some ZQ hs e.1 (m-s)
  have sv:fsN ZQ hs e.1 (m-s)=((fsN ZQ hs e.1 (m-s)).1,(fsN ZQ hs e.1 (m-s)).2):=rfl
  generalize aP:fsN ZQ hs e.1 (m-s)=p5 at r5 fm ie sv
  have da:(s:Int)+(p5.2:Int)=((s+p5.2:Nat):Int):=by omega
  rcases r5 with⟨r0,r1⟩ | ⟨l5,L,r0,r1,r2⟩
  ·refine ⟨t5,_,rfl,WV r1,rfl,_,_,rfl,_,_,rfl,rfl,?_⟩
   refine⟨W7,W7,_,W7,rfl,?_⟩
   refine⟨W7,W7,zbs rfl ?_⟩
   have e1:fpN ZQ R [] m 0=(none,s+p5.2):=by
    rw[ei,fp_none (n:=p5.2) (by rw[aP,sv,r0])];rfl
   refine⟨W7,(ZS 2),λt6 h6=>?_⟩
   exact fin t6 _ (.no (by rw[e1]) (by rw[e1,zac];exact congrArg (λz=>some (HO.tup [V.non,V.int z])) da)) (((kH k4).trans k5).trans (QD h6))
  ·refine ⟨t5,_,rfl,WV r1,rfl,_,_,rfl,_,_,rfl,rfl,?_⟩
   refine⟨W7,W7,_,W7,rfl,?_⟩
   refine⟨W7,W7,zbl rfl ?_⟩
   obtain⟨cw,cv⟩:=ie r0
   refine⟨W7,W7,W7,W7,H4,x,dx,d,u,l5,es,hs,e,L,rfl,wk ((kH k4).trans k5),W,h4.keep k5 ZM,he,hkm,hx,r2,cw,cv,λt6 a6 b6 H6 g6 ga6 jD k6=>?_⟩
   refine⟨t6,W7,WV g6,rfl,_,W7,_,W7,rfl,?_⟩
   have qu:=k5.trans k6
   have fg:=qu _ _ gO ZM
   have hB:H3 pl=some (QZ (([]:List Addr).map V.ref)):=k3 _ _ g1 ZM
   refine⟨W7,.inl ⟨rfl,_,Z4 fg⟩,W7,pl,_,W7,rfl,fg,QS Qa,?_⟩
   have k7:Keep [pl] H6 (ZW H6 pl (as.map V.ref++[V.ref a6])):=Keep.wr Qb
   have g7:(ZW H6 pl (as.map V.ref++[V.ref a6])) pl=some (QZ ((as++[a6]).map V.ref)):=by rw[zac,Qr];rfl
   generalize upd H6 pl (QZ (as.map V.ref++[V.ref a6]))=H7 at k7 g7
   have old:∀c,H4 c=none→H3 c=none:=λc hc=>zav k4 hc (by simpa using λz:c=pl=>(by rw[z,gO]at hc;cases hc))
   have st6:StAt H3 H6 a6 (e.1,(mex QV:Int),L):=⟨l5,ga6,(r2.keep k6).ol old⟩
   refine⟨b6,s+p5.2,cbN ZQ hs e.1 L,as++[a6],Pd++[(e.1,(mex QV:Int),L)],by rw[Qy,ba];rfl,⟨_,_,_,_,by rw[←da];rfl⟩,(k4.trans (qu.sub ZM)).trans k7,ZO,jD.keep k7 (by simpa using za3 jD.dc fg ZX),?_,g7,?_,?_⟩
   ·unfold cbN
    rw[Qr,zc7,bp,tk];rfl
   ·exact za5 (Paired.imp' (λ_ _ z=>(z.keep qu).kb k7 hB fg) qe) (.cons (st6.kb k7 hB fg) .nil)
   ·rw [ei,fp_some (n:=p5.2) (L:=L) (by rw [aP,sv,r0])]
    refine Ue ?_ rfl
    show Option.map _ (Option.map _ _)=Option.map _ _
    rw[Option.map_map]
    congr 1
    funext z
    show Pd++(_::z)=(Pd++[_])++z
    rw[Qw];rfl
 ·rintro σ H4 ⟨u,s,hs,as,Pd,ba,⟨x5,x6,x7,x8,rfl⟩,k4,r6,h4,bp,gO,qe,ei⟩
  rw[Qa,Ua QK]at ei
  have e1:fpN ZQ R [] m 0=(QB Pd,s):=by rw[ei];show(QB (Pd++[]),s)=_;rw[Zw]
  refine⟨W7,W7,(ZS 2),λt ht=>?_⟩
  have k5:=Keep.new (xs:=[]) (o:=.tup [ZZ pl,W6 ((s:Nat):Int)]) ht
  exact fin t _ (.yes pl as H3 Pd (by rw[e1]) (by rw[e1,zac]) (k5 _ _ gO ZM) (Paired.imp' (λ_ _ z=>z.keep k5) qe)) ((kH k4).trans k5)
end
end K21
end
section
namespace L2
open PySem PySem.Spec PyProof.Rows
section
variable{X:Cx}
end
section
variable{X:Cx}{K:Na}{o e tg l:Expr}{es:Np}{to tl:TE}{t:TA}{name:Str}{apos cpos:Pos}{T id:String}{r:V→List V→Hp→VK→Prop}
end
section
variable{X:Cx}{CX:CXT}{k:Nat}{f C:Nb}{fd:Nr}{ps:Nf}{sp:Sp}{dvs:List V}{ds:Nj}{E:St→XK}{m:Str}{pos apos:Pos}{e o:Expr}{es:Np}{ta:TE}{t:TA}
end
def paired_get{α β:Type}{R:α→β→Prop}{as:List α}{bs:List β}(r:Paired R as bs):∀(j:Nat) (h1:j<as.length) (h2:j<bs.length),R as[j] bs[j]:=by
 induction r with
 |nil=>intro j h1;cases h1
 |cons h t ih =>
  intro j h1 h2
  cases j with
  |zero=>exact h
  |succ j=>exact ih j (Xd h1) (Xd h2)
section
variable{X:Cx}{a7:Ng}{σ:St}{H:Hp}{s:Nh}
def ze5{R:V→V→Prop}{A:No}{xs ys:List V}{a9 aH:Nj}(r:Vals xs a9)(r2:Vals ys aH)(pr:Paired R xs ys)(h:∀x y u v,R x y→RelV x u→RelV y v→SeqAt.EqAt A s u v true) :
  ∀j (h1:j<a9.toArray.size) (h2:j<aH.toArray.size),SeqAt.EqAt A s a9.toArray[j] aH.toArray[j] true:=by
 intro j h1 h2
 rw[Qx]at h1 h2
 have a1:j<xs.length:=by rw[r.length];exact h1
 have a2:j<ys.length:=by rw[r2.length];exact h2
 obtain⟨u1,e1,q1⟩:=r.get (Qc a1)
 obtain⟨u2,e2,q2⟩:=r2.get (Qc a2)
 rw[Jw,Jw,(Qz.mp e1).2,(Qz.mp e2).2]
 exact h _ _ _ _ (paired_get pr j a1 a2) q1 q2
end
def zgu(H:Hp):Nat→V→V→Prop
 |0,x,y=>zdf x=true∧x=y
 |n+1,x,y=>(zdf x=true∧x=y)∨∃a b xs ys,x=.ref a∧y=.ref b∧((H a=some (QZ xs)∧H b=some (QZ ys))∨(H a=some (.tup xs)∧H b=some (.tup ys)))∧Paired (zgu H n) xs ys
section
variable{X:Cx}{a7:Ng}{σ:St}{H:Hp}{s:Nh}
def same_m(I:QT):∀ (n:Nat) (A:No) (x y:V) (u v:Value),zgu H n x y→RelV x u→RelV y v→A.units+n < cLine→SeqAt.EqAt A s u v true:=by
 have fl:∀(A:No) (x y:V) (u v:Value),zdf x=true∧x=y→RelV x u→RelV y v→SeqAt.EqAt A s u v true:=λA x y u v ⟨f,e⟩ rx ry=>by
  subst e
  have:=eqAt_V (A:=A) (s:=s) rx ry f f
  rw[eqV_self f]at this
  exact this
 intro n
 induction n with
 |zero=>intro A x y u v h rx ry _;exact fl A x y u v h rx ry
 | succ n ih =>
  intro A x y u v h rx ry hu
  rcases h with h | ⟨a,b,xs,ys,rfl,rfl,hc,pr⟩
  ·exact fl A x y u v h rx ry
  ·cases rx;cases ry
   by_cases ne:a=b
   ·subst ne;exact SeqAt.EqAt.same _
   have dj:A.in1.units+n<cLine:=by
    have:A.in1.units=A.units+1:=rfl
    omega
   have lD:A.units<cLine:=by omega
   have hl:=Ya pr
   refine SeqAt.EqAt.of_refs ne ?_
   rcases hc with⟨h1,h2⟩ | ⟨h1,h2⟩
   ·obtain ⟨a9,r,pl,_⟩:=I.list (X:=X) (Z4 h1)
    obtain⟨aH,r2,i5,_⟩:=I.list (X:=X) (Z4 h2)
    have l1:=r.length
    have l2:=r2.length
    have:=SeqAt.RcAt.lists (A:=A) (s:=s) (e:=λ_=>true) pl.isList i5.isList (by rw[Qx,Qx];omega) lD (ze5 r r2 pr λx y u v q1 q2 q3=>ih A.in1 x y u v q1 q2 q3 dj)
    rw[show(List.range a9.toArray.size).all (λ_=>true)=true by simp]at this
    exact this
   ·obtain ⟨a9,r,pl,_⟩:=I.tuple (X:=X) (WV h1)
    obtain⟨aH,r2,i5,_⟩:=I.tuple (X:=X) (WV h2)
    have l1:=r.length
    have l2:=r2.length
    have:=SeqAt.RcAt.tuples (A:=A) (s:=s) (e:=λ_=>true) pl i5 lD (ze5 r r2 pr λx y u v q1 q2 q3=>ih A.in1 x y u v q1 q2 q3 dj)
    rw[show((List.range (min a9.toArray.size aH.toArray.size)).all (λ_=>true)&&a9.toArray.size==aH.toArray.size)=true by simp;omega]at this
    exact this
def zha(hu:X.A.units+8<cLine):OpR X (compareOp .Eq) (λx y H Q=>Ex4 λa b xs ys=>Aj6 (x=.ref a) (y=.ref b) (H a=some (.tup xs)) (H b=some (.tup ys)) (Paired (zgu H 6) xs ys) (Q (.bl true) H)):=by
 intro a7 s σ H x y v u Q I rx ry h
 obtain⟨a,b,xs,ys,rfl,rfl,h1,h2,pr,q⟩:=h
 cases rx;cases ry
 obtain⟨a9,r,pl,_⟩:=I.tuple (X:=X) (WV h1)
 obtain⟨aH,r2,i5,_⟩:=I.tuple (X:=X) (WV h2)
 have l1:=r.length
 have l2:=r2.length
 have hl:=Ya pr
 have dj:X.A.in1.units+6<cLine:=by
  have:X.A.in1.units=X.A.units+1:=rfl
  omega
 refine SeqAt.RcAt.tuples (e:=λ_=>true) pl i5 ZO (ze5 r r2 pr λx y u v q1 q2 q3=>same_m I 6 X.A.in1 x y u v q1 q2 q3 dj) _ _ _ _ ⟨.bl true,H,I,?_,q⟩
 show Value.bool _=Value.bool true
 simp
 omega
end
end L2
namespace K21
open PySem L2 Wb
theorem same_strs(H:Hp)(n:Nat):∀zs:List Str,Paired (zgu H n) QN QN
 |[]=>.nil
 |z::t=>by
  refine .cons ?_ (same_strs H n t)
  cases n with
  |zero=>exact⟨rfl,rfl⟩
  |succ n=>exact .inl ⟨rfl,rfl⟩
def zb4{H:Hp}{n:Nat}{x:V}(h:zdf x=true):zgu H n x x:=by
 cases n with
 |zero=>exact⟨h,rfl⟩
 |succ n=>exact .inl ⟨h,rfl⟩
def same_sw{B B' H:Hp}{a b:Nb}{w:Swap}(h:SwAt B H a w)(k:SwAt B' H b w):zgu H 2 (ZZ a) (ZZ b):=by
 obtain⟨l,_,h1,h2⟩:=h
 obtain⟨l',_,k1,k2⟩:=k
 exact .inr ⟨a,b,_,_,rfl,rfl,.inr ⟨h1,k1⟩,.cons (zb4 rfl) (.cons (zb4 rfl) (.cons (.inr ⟨l,l',_,_,rfl,rfl,.inl ⟨h2,k2⟩,same_strs H 0 _⟩) .nil))⟩
theorem zd8{α:Type}{R R':Addr→α→Prop}{S:V→V→Prop}(f:∀a b w,R a w→R' b w→S (ZZ a) (ZZ b)):∀{as bs:Nl} {L:List α},Paired R as L→Paired R' bs L→Paired S W4 (bs.map V.ref)
 |_,_,_,.nil,.nil=>.nil
 |_,_,_,.cons h t,.cons h' t'=>.cons (f _ _ _ h h') (zd8 f t t')
def same_sws{B B' H:Hp}{a b:Nb}{L:List Swap}(h:zdg B H a L)(k:zdg B' H b L):zgu H 3 (ZZ a) (ZZ b):=by
 obtain⟨as,_,h1,h2⟩:=h
 obtain⟨bs,_,k1,k2⟩:=k
 exact .inr ⟨a,b,_,_,rfl,rfl,.inl ⟨h1,k1⟩,zd8 (R:=SwAt B H) (R':=SwAt B' H) (λ_ _ _ h k=>same_sw h k) h2 k2⟩
def same_st{B B' H:Hp}{a b:Nb}{q:Step}(h:StAt B H a q)(k:StAt B' H b q):zgu H 4 (ZZ a) (ZZ b):=by
 obtain⟨l,h1,h2⟩:=h
 obtain⟨l',k1,k2⟩:=k
 exact .inr ⟨a,b,_,_,rfl,rfl,.inr ⟨h1,k1⟩,.cons (zb4 rfl) (.cons (zb4 rfl) (.cons (same_sws h2 k2) .nil))⟩
theorem same_up{H:Hp}:∀{n:Nat} {x y:V},zgu H n x y→zgu H (n+1) x y
 |0,_,_,h=>.inl h
 | n+1,x,y,h=>by
  rcases h with h | ⟨a,b,xs,ys,e1,e2,hc,pr⟩
  ·exact .inl h
  ·refine .inr ⟨a,b,xs,ys,e1,e2,hc,?_⟩
   clear hc e1 e2
   induction pr with
   |nil=>exact .nil
   |cons h t ih=>exact .cons (same_up h) ih
def same_pap{H:Hp}{a b:Nb}{p:Option (List Step)×Nat}(h:zfr H a p)(k:zfr H b p):∃xs ys,H a=some (.tup xs)∧H b=some (.tup ys)∧Paired (zgu H 6) xs ys:=by
 rcases h with⟨h0,h1⟩ | ⟨l,as,B,L,h0,h1,h2,h3⟩
 ·rcases k with ⟨k0,k1⟩ | ⟨l',bs,B',L',k0,k1,k2,k3⟩
  ·exact⟨_,_,h1,k1,.cons (zb4 rfl) (.cons (zb4 rfl) .nil)⟩
  ·rw[h0]at k0;cases k0
 ·rcases k with ⟨k0,k1⟩ | ⟨l',bs,B',L',k0,k1,k2,k3⟩
  ·rw[k0]at h0;cases h0
  ·rw [h0] at k0
   cases k0
   exact⟨_,_,h1,k1,.cons (same_up (.inr ⟨l,l',_,W7,rfl,.inl ⟨h2,k2⟩,zd8 (R:=StAt B H) (R':=StAt B' H) (λ_ _ _ h k=>same_st h k) h3 k3⟩)) (.cons (zb4 rfl) .nil)⟩
end K21
end
section
namespace K21
open PySem L2 Wb
abbrev sFits:Stmt:=top 56
inductive IspFits(C:Nb)(vs:List V)(H:Hp)(Q:VK):Prop
 |mk (x dx d wh:Nb) (es:List Ent) (T:Nf) (m:Nat) (h0:vs=[.ref x,.int (m:Int),.ref wh]) (h1:WAt H C x dx d es) (h2:WOk es) (h3:zeb (es.map (·.1)) (row (rsOf es)) T) (h4:zfr H wh (fpN (row (rsOf es)) T.reverse [] 1000000 0))
  (h8:∀H':Hp,ZE H H'→Q (.bl true) H'):IspFits C vs H Q
def spFits(C:Nb):Sp:=λvs H Q _=>IspFits C vs H Q
def zfr.two(h:zfr H t p):∃v,H t=some (.tup [v,W6 (p.2:Nat)]):=by
 rcases h with⟨h0,h1⟩ | ⟨l,as,B,L,h0,h1,h2,h3⟩
 ·exact⟨_,h1⟩
 ·exact⟨_,h1⟩
section
variable{P:Ni}{w:Nk}{K:Na}{mg:Nd}{base:Nm}
def scFits:zak ["_law_web", "_law_most", "_law_whole", "_law_found"] ["_law_web", "_law_most", "_law_whole"] (zag sFits):=fsk
def ok_fits(F:Fun K "_law_fits" "_law_fits" sFits f fd)(GP:ZI "four_paper" ["web", "most"] 7 (spFp C)) :
  FnOk P w K mg base CX0 8 f fd ["_law_web", "_law_most", "_law_whole"] (spFits C):=by
 refine F.okL scFits QG
 obtain⟨x,dx,d,wh,es,T,m,rfl,wt,W,O,pw,kq⟩:=h
 have gL:(A.deeper (PyProof.Rows.envOfC "_law_fits" (zag sFits) s0.heap.objs.size f cdv)).units+8<cLine:=Kc (Nat.add_le_add_left (by decide:8≤64) _) hr.units
 have i1:∀x y:V,atI [x,y] ((1:Nat):Int)=some y:=λx y=>zax rfl
 refine⟨_,zad (zar 3 scFits.nd (pcl GP hr (ZV 0 QQ)))
  (zad (zb0 (zaq op_ge QQ (za2 zbr Q8 zai QC) (zbe _)) (zah (zau (pe_cmpR (zha gL) (pv 3) Q8 (zbe _)))) zas)
  (zah (zau (pe_cmpR (zha gL) (pv 3) (zbo (zaa zgb (Z0 1))) (zbe _))))),?_⟩
 refine⟨W7,W7,x,dx,d,es,m,rfl,wt,W,λt T2 H1 O2 p1 k1=>?_⟩
 rw[O2.one O]at p1
 have hR:∀y∈T.reverse,(ZG y).length≤16:=λy hy=>by
  obtain⟨e,he,rfl⟩:=Qj.mp (O.pm.mem_iff.mp (List.mem_reverse.mp hy))
  rw[zaw wt.ta.nd he];exact W.rl e he
 have tP:T.reverse.length≤16:=by rw[Ka,O.pm.length_eq,Qa];exact W.few
 obtain⟨R,N,hN,eN⟩:=fp_bud (hs:=[]) hR
 have hN2:N≤1000000:=by
  have:4224*T.reverse.length≤4224*16:=Nat.mul_le_mul_left _ tP
  omega
 have e1:=eN 1000000 0 (Zc _)
 rw[Nat.zero_add,if_pos hN2]at e1
 have e2:=eN m 0 (Zc _)
 rw[Nat.zero_add]at e2
 rw[e1]at pw
 have pw1:=pw.keep k1
 obtain⟨v,hv⟩:=pw1.two
 refine⟨W7,W7,wh,_,_,W7,rfl,WV hv,i1 _ _,_,W7,rfl,W7,?_⟩
 by_cases hm:N≤m
 ·rw [if_pos hm] at e2
  rw[e2]at p1
  obtain⟨xs,ys,h1,h2,pr⟩:=same_pap p1 pw1
  refine zbs (WW (by show(N:Int)≤(m:Int);omega)) ⟨_,rfl,_,rfl,t,wh,xs,ys,rfl,rfl,h1,h2,pr,kq _ k1⟩
 ·rw [if_neg hm] at e2
  rw[e2]at p1
  refine zbl (decide_eq_false (by show ¬(N:Int)≤(m:Int);omega)) ?_
  rcases p1 with⟨_,h1⟩ | ⟨l,as,B,L,h0,_,_,_⟩
  ·refine ⟨_,rfl,_,rfl,(ZS 2),fun q hq=>?_⟩
   exact⟨t,q,_,W7,rfl,QF (zab h1 hq) h1,zac,.cons (zb4 rfl) (.cons (zb4 rfl) .nil),kq _ (k1.trans (QD hq))⟩
  ·cases h0
end
abbrev sLaw:Stmt:=top 57
inductive IspLaw(K:Na)(vs:List V)(H:Hp)(Q:VK):Prop
 |mk (a:Nb) (ns:List Int) (h0:vs=[.ref a]) (h1:SqL K H a (ns.map V.int)) (h3:∀H',Q (.bl true) H'):IspLaw K vs H Q
def spLaw(K:Na):Sp:=λvs H Q _=>IspLaw K vs H Q
def sq_keep{K:Na}{H H':Hp}{a:Nb}{xs:List V}(h:SqL K H a xs)(k:ZE H H'):SqL K H' a xs:=h.imp (λr=>r.imp (λe=>k _ _ e ZM) λ⟨o,e⟩=>⟨o,k _ _ e ZM⟩) id
def cut_ints(ns:List Int)(lo hi:Option Int):∃ms:List Int,cutV (ns.map V.int) lo hi=ms.map V.int:=by
 unfold cutV
 exact⟨(ns.drop _).take _,by rw[Je,Ko]⟩
abbrev csLw:Scope:=scOf (aOf 0 (eOf (sAt sLaw 6)))
def csLw_f:∀y∈csLw.names,y.2=.free→(zag sLaw).names.lookup y.1=some .cell∨(zag sLaw).names.lookup y.1=some .free:=by decide +kernel
def csLw_l:csLw.names.lookup ("_law_web" : Str)=some NameKind.free:=by decide +kernel
def csLw_m:csLw.names.lookup ("_law_whole" : Str)=some NameKind.free:=by decide +kernel
def ndLw:(["_law_most", "_law_web", "_law_whole"]:List Str).Nodup:=by decide +kernel
section
variable{P:Ni}{w:Nk}{K:Na}{mg:Nd}{base:Nm}
def zh0:zak [qS,qR, "_law_cell_here",qP, "_law_k", "_law_web", "_law_whole", "_law_asked"] [qS] (zag sLaw):=fsk
def ok_law(F:Fun K "law" "law" sLaw f fd)(GP:ZI "_law_pot" ["_law_cell_here"] 1 spPot)(GC:ZI "_law_cell" [qS, "_law_k"] 1 (spCell K))(GT:ZI "_law_take" [qP,qM] 1 zf5)(GN:ZI "_law_rounds" [qS, "_law_most"] 4 (spRounds K))(GX:ZI "_law_crossed" [qR,qP] 3 zf6)(GR:ZI "_law_rows" [qR] 1 spRows)(MW:Mk K C fi)(mW:mg "Web" = some (ZZ C))(bI:Binds K fdi ["self", "rows"] [])(GI:ZC 4 fi fdi ["self", "rows"] (spInit C))(GO:ZI "four_paper" ["web", "most"] 7 (spFp C))(GF:ZI "_law_fits" ["_law_web", "_law_most", "_law_whole"] 8 (spFits C))(aR:mg "range" = none)(jm:mg "max" = none)(aI:mg "all" = none):ZC 9 f fd [qS] (spLaw K):=by
 refine F.okL zh0 QG
 obtain⟨a,ns,rfl,ha,kq⟩:=h
 have am:Room 1 _:=hr.mono ZU
 have lO:Room 3 _:=hr.mono ZU
 have lN:Room 4 _:=hr.mono ZU
 have hr5:Room 5 _:=hr.mono ZU
 have oS:Room 7 _:=hr.mono ZU
 have aw:=sizeLine_eq
 have i1:∀x y:V,atI [x,y] ((1:Nat):Int)=some y:=λx y=>zax rfl
 refine⟨_,zad (zar 1 zh0.nd (pcl GN lN (ZV 0 zai)))
  (zad (zba Ze rfl (zao (zcg zcy QH (zb6 zai) (zb6 zai))) (zan 2 zh0.nd)
   (zad (zar 3 zh0.nd (pcl GP am (Z0 2)))
   (zah (zba Ze rfl (zci rfl aR (zaa (za1 zb7 zai (W5 3 zai)) zae)) (zan 4 zh0.nd)
    (zah (zbj (pcl GX lO (ZV 1 (pv 3)))))))))
  (zad (zff (i:=5) zh0.nd rfl (Or.inr rfl) (pe_make MW GI hr5 rfl mW bI .nil zc9 (zaa (pcl GR am (Z0 1)) zae)))
  (zad (zff (i:=6) zh0.nd rfl (Or.inr rfl) (pcl GO oS (ZV 5 (za1 op_pow zai zai))))
  (zad (zar 3 zh0.nd (pcl GP am (zaa (za1 zb7 (pcl GC am (ZV 0 zai)) zai) zae)))
  (zad (zar 7 zh0.nd (zbk (zaa (W5 3 zai) (zaa (W5 3 zai)
    (zaa (zal (call_max2 rfl) Q4 jm PyProof.Rows.boot_max (zaa zai (zaa (za1 zdl (za1 zb7 (za2 zbr (pv 6) zai QC) (W5 3 zai)) zai) zae))) (zaa zai zae))))))
  (zah (zau (zal (call_all rfl) Q4 aI PyProof.Rows.boot_all (zaa (zgd (M:=["_law_most", "_law_web", "_law_whole"]) (ix:=[none,QB 5,QB 6]) ⟨by rfl,by decide +kernel,by decide +kernel,csLw_f,rfl,ndLw,λj i x h1 h2=>by
     match j,h1,h2 with
     |0,_,h2=>cases h2
     |1,h1,h2=>cases h1;cases h2;exact⟨rfl,csLw_l⟩
     |2,h1,h2=>cases h1;cases h2;exact⟨rfl,csLw_m⟩
     |n+3,h1,_=>cases h1⟩ rfl (zao (pv 7)) (λC a7 ex s H=>zan 0 ndLw)
    (λC a7 ex s H=>zc0) (λC a7 ex s H=>pcl GF (by exact hr) (zaa QQ (ZV 0 Q8)))) zae))))))))),?_⟩
 refine⟨W7,a,ns,16,rfl,ha,ZU,ZU,λd es H1 fd D1 nok k1=>?_⟩
 have ha1:=sq_keep ha k1
 refine⟨W7,W7,W7,a,W7,ha1,λsl oQ=>?_⟩
 obtain⟨ms,hms⟩:=cut_ints ns (QB 1) (QB 13)
 rw[hms]
 have k2:ZE H1 (ZW H1 sl (ms.map V.int)):=Keep.new oQ
 have g2:(ZW H1 sl (ms.map V.int)) sl=some (QZ (ms.map V.int)):=zac
 generalize upd H1 sl (QZ (ms.map V.int))=H2 at k2 g2
 have nsd:sl≠d:=Zn (zab D1.ra.dc oQ)
 refine⟨sl,rfl,⟨_,Z4 g2⟩,zbf (xs:=ms.map V.int) (λi σ H'=>Aj3 (Ex3 λx2 x3 x4=>σ=[ZP a,ZP d,x2,x3,x4,none,none,none]) (Keep [d] H2 H') (Ex1 λai:List Ent=>Aj2 (DrE H' d ai) (ai.map (·.1)=es.map (·.1))))
  ⟨⟨_,_,_,rfl⟩,Keep.refl,es,D1.k0 k2,rfl⟩ (λi σ H' _ hh=>SqL.of (hh.2 _ _ g2 (ZR nsd))) ?_ ?_⟩
 ·rintro i v σ H3 hv ⟨⟨x2,x3,x4,rfl⟩,k3,jK,D3,n3⟩
  obtain⟨c,_,rfl⟩:=Qj.mp (Yv hv)
  refine⟨W7,c,rfl,λp b m H4 fp4 bz k4=>?_⟩
  refine⟨W7,p,b,m,3,rfl,bz,ZU,ZU,λd5 b5 m5 H5 nY nX aP i7=>?_⟩
  have k5:=zbb i7
  have D5:=(D3.k0 k4).pot bz k5
  refine⟨_,W7,rfl,1+d5,rfl,ZO,ZO,?_⟩
  have kd:∀{H':Hp},Keep [d,p] H5 H'→Keep [d] H2 H':=λkk c o ec nc=>by
   have ec3:=k3 c o ec nc
   have ncp:c≠p:=zab ec3 fp4
   exact kk c o (k5 c o (k4 c o ec3 ZM) (ZR ncp)) (by simp;exact⟨ZR nc,ncp⟩)
  refine zct (lo:=0) (λi σ H'=>Aj3 (Ex1 λx4=>σ=[ZP a,ZP d,QB (W6 c),ZP p,x4,none,none,none]) (Keep [d,p] H5 H') (Ex3 λ(ai:List Ent) (b' m':Int)=>Aj3 (DrE H' d ai) (Pot H' p b' m') (ai.map (·.1)=es.map (·.1))))
   ⟨⟨_,rfl⟩,Keep.refl,jK,b5,m5,D5,aP,n3⟩ ?_ ?_
  ·rintro j σ H6 hj ⟨⟨x4,rfl⟩,k6,tW,b6,m6,D6,bj,n6⟩
   refine⟨W7,W7,p,d,b6,m6,tW,rfl,bj,D6,λb7 m7 o6 H7 aV D7 n7 k7=>?_⟩
   exact⟨⟨W7⟩,k6.trans k7,o6,b7,m7,D7,aV,n7.trans n6⟩
  ·rintro σ H6 ⟨⟨x4,rfl⟩,k6,tW,b6,m6,D6,bj,n6⟩
   exact⟨⟨_,_,W7⟩,kd k6,tW,D6,n6⟩
 rintro σ H3 ⟨⟨x2,x3,x4,rfl⟩,k3,jK,D3,n3⟩
 have dR:ZE H H3:=λc o ec _=>k3 c o (k2 c o (k1 c o ec ZM) ZM) (by simpa using zab ec fd)
 refine⟨W7,d,jK,rfl,D3,λrl as dO H4 RW cx frl k4=>?_⟩
 have de:=dR.trans k4
 refine λx dx hx hdx av=>?_
 have k5:ZE H4 (upd (upd H4 dx (.own x)) x (.ins C dx [])):=λc u ec _=>by
  rw[zaf (zab ec hx),zaf (zab ec hdx)];exact ec
 have hx5:(upd (upd H4 dx (.own x)) x (.ins C dx [])) x=some (.ins C dx []):=zac
 generalize upd (upd H4 dx (.own x)) x (.ins C dx [])=H5 at k5 hx5
 obtain⟨cs,aa,Ct⟩:∃cs aa,Cert (dO.map (·.1)) (row (rsOf dO)) cs aa:=by
  obtain⟨cs,aa,C0⟩:=D3.gd
  rw[←cx,zbi]at C0
  exact⟨cs,aa,C0⟩
 have oZ:dO.map (·.1)=jK.map (·.1):=by rw[←zbi,cx,zbi]
 have dD:dO.length≤16:=by
  have:=congrArg List.length oZ
  rw[Qa,Qa]at this
  rw[this];exact D3.few
 refine⟨x,dx,rl,as,dO,cs,aa,rfl,hx5,RW.keep k5,ZO,λe he=>nok _ (n3▸oZ▸Qj.mpr ⟨e,he,rfl⟩),Ct,λd2 ts ar H6 wt bj lF k6=>⟨rfl,?_⟩⟩
 have lW:(ts.map (·.1)).Perm (dO.map (·.1)):=by rw[zch lF];exact bj.map _
 have jO:=cert_turn Ct lW (zg4 lF bj Ct.nd)
 have ae:ts.length≤16:=by
  have:=lW.length_eq
  rw[Qa,Qa]at this
  omega
 have W:WOk ts:=⟨ae,λe he=>by
  have h1:e.2.1.Nodup:=by have:=jO.rn e.1;rw[zaw jO.nd he]at this;exact this
  have:=zcs h1 λy hy=>jO.inn' (x:=e.1) (by rw[zaw jO.nd he];exact hy)
  rw[Qa]at this
  omega,λz y hy=>jO.inn' hy,jO.rn,jO.sy⟩
 have gc:ZE H H6:=λc o ec _=>by
  have e4:=de c o ec ZM
  exact k6 c o (k5 c o e4 ZM) (by simpa using zab e4 hx)
 refine⟨W7,_,W7,rfl,⟨ZU,ZU,ZU⟩,x,dx,d2,ts,1000000,rfl,wt,W,λwh T H7 O p7 k7=>?_⟩
 have eO:=gc.trans k7
 refine⟨W7,a,ns,2,rfl,sq_keep ha eO,λc=>⟨_,_,rfl,rfl,c+31,rfl,λp b m H8 fp8 bi k8=>?_⟩⟩
 obtain⟨v7,oK⟩:=p7.two
 refine⟨W7,p,b,m,31,rfl,bi,ZU,ZU,λn1 b9 m9 H9 nV tT jf jU=>?_⟩
 obtain⟨n1,rfl⟩:=Zp nV
 refine⟨W7,p,b9,m9,301,rfl,jf,ZU,ZU,λn2 uc qm eF hA0 hA1 rL qr=>?_⟩
 obtain⟨n2,rfl⟩:=Zp hA0
 have jW:Keep [p] H8 eF:=(zbb jU).trans (zbb qr)
 have out:∀{H':Hp},Keep [p] H8 H'→ZE H7 H':=λkk c o ec _=>kk c o (k8 c o ec ZM) (by simpa using zab ec fp8)
 refine⟨W7,wh,_,_,W7,rfl,WV (out jW _ _ oK ZM),i1 _ _,W7,p,uc,qm,5,rfl,rL,ZU,ZU,λn3' b11 m11 hX hB0 hB1 hp11 qq=>?_⟩
 have k11:ZE H7 hX:=out (jW.trans (zbb qq))
 refine⟨_,W7,rfl,_,W7,rfl,_,W7,(ZS 4),λal ba=>?_⟩
 obtain⟨q3,kh⟩:∃q:Nat,(if((fpN (row (rsOf ts)) T.reverse [] 1000000 0).2:Int)+n3'-2>0 then((fpN (row (rsOf ts)) T.reverse [] 1000000 0).2:Int)+n3'-2 else 0)=(q:Int):=Zp (by split<;>omega)
 rw[kh]
 have k12:ZE H7 (upd hX al WP):=k11.trans (QD ba)
 have pL:(upd hX al WP) al=some WP:=zac
 have e12:upd hX al (.lst [V.int (n1:Int),V.int (n2:Int),V.int (q3:Int),V.int 0])=upd hX al WP:=rfl
 rw[e12]
 generalize upd hX al WP=H12 at k12 pL
 have kQ:([n1,n2,q3,0]:List Nat).length=4:=rfl
 generalize([n1,n2,q3,0]:List Nat)=L at pL kQ
 refine⟨_,rfl,al,rfl,⟨_,Z4 pL⟩,λi m ys τ H'=>Aj5 (m=4-i) (i≤4) (Ex1 λx0=>τ=[x0,ZP x,ZP wh]) (ZE H12 H') (ys=(List.replicate i true).map V.bl),
  ⟨4,rfl,Zc _,⟨none,rfl⟩,Keep.refl,rfl⟩,?_⟩
 rintro i m' ys τ H13 ⟨rfl,hi,⟨x0,rfl⟩,qw,rfl⟩
 have kT:=qw _ _ pL ZM
 have k73:=k12.trans qw
 by_cases cc:i<4
 ·have ao:i < L.length:=by omega
  refine .inr ⟨⟨_,W6 (L[i]:Int),Z4 kT,by rw[Qo,Qc ao];rfl⟩,by rw[Qa,Us];omega,?_⟩
  rintro v H14 ⟨rfl,hv⟩
  have aT:=hv _ (Z4 kT)
  rw[Qo,Qc ao]at aT
  obtain rfl:V.int (L[i]:Int)=v:=Qn aT
  refine⟨W7,W7,W7,x,dx,d2,wh,ts,T,L[i],rfl,wt.keep (k7.trans k73) ZM ZM WR,W,O,p7.keep k73,λH15 k15=>⟨_,QP,rfl,cc,⟨_,rfl⟩,qw.trans k15,?_⟩⟩
  rw[List.replicate_succ',Qr];rfl
 ·have cg:i=4:=by omega
  subst cg
  refine .inl ⟨⟨_,Z4 kT,by rw[Qa,kQ];exact Qf _⟩,λD hD=>?_⟩
  exact⟨D,List.replicate 4 true,rfl,Z4 zac,kq _⟩
end
end K21
end
section
namespace L2
open PySem
section
variable{K:Na}{x qual p1 p2 p3 p4 p5:Str}{st:Stmt}{f:Nb}{fd:Nr}(F:Fun K x qual st f fd)
include F
theorem Fun.b1(h:∀(kV doc pm:Value) (an:Option Addr) (cdv ct a1:Value),bindArgs Z7 ⟨[a1],[]⟩=pure [(p1,a1)]):Binds K fd [p1] [] :=
 F.binds λkV doc pm an cdv ct us hl=>by
  obtain _ | ⟨a1,_ | ⟨z,t⟩⟩:=us
  ·cases hl
  ·exact h kV doc pm an cdv ct a1
  ·cases hl
theorem Fun.b2(h:∀(kV doc pm:Value) (an:Option Addr) (cdv ct a1 a2:Value),bindArgs Z7 ⟨[a1,a2],[]⟩=pure [(p1,a1),(p2,a2)]):Binds K fd [p1,p2] [] :=
 F.binds λkV doc pm an cdv ct us hl=>by
  obtain _ | ⟨a1,_ | ⟨a2,_ | ⟨z,t⟩⟩⟩:=us
  ·cases hl
  ·cases hl
  ·exact h kV doc pm an cdv ct a1 a2
  ·cases hl
theorem Fun.b3(h:∀(kV doc pm:Value) (an:Option Addr) (cdv ct a1 a2 a3:Value),bindArgs Z7 ⟨[a1,a2,a3],[]⟩=pure [(p1,a1),(p2,a2),(p3,a3)]):Binds K fd [p1,p2,p3] [] :=
 F.binds λkV doc pm an cdv ct us hl=>by
  obtain _ | ⟨a1,_ | ⟨a2,_ | ⟨a3,_ | ⟨z,t⟩⟩⟩⟩:=us
  ·cases hl
  ·cases hl
  ·cases hl
  ·exact h kV doc pm an cdv ct a1 a2 a3
  ·cases hl
theorem Fun.b4(h:∀(kV doc pm:Value) (an:Option Addr) (cdv ct a1 a2 a3 a4:Value),bindArgs Z7 ⟨[a1,a2,a3,a4],[]⟩=pure [(p1,a1),(p2,a2),(p3,a3),(p4,a4)]):Binds K fd [p1,p2,p3,p4] [] :=
 F.binds λkV doc pm an cdv ct us hl=>by
  obtain _ | ⟨a1,_ | ⟨a2,_ | ⟨a3,_ | ⟨a4,_ | ⟨z,t⟩⟩⟩⟩⟩:=us
  ·cases hl
  ·cases hl
  ·cases hl
  ·cases hl
  ·exact h kV doc pm an cdv ct a1 a2 a3 a4
  ·cases hl
theorem Fun.b5(h:∀(kV doc pm:Value) (an:Option Addr) (cdv ct a1 a2 a3 a4 a5:Value),bindArgs Z7 ⟨[a1,a2,a3,a4,a5],[]⟩=pure [(p1,a1),(p2,a2),(p3,a3),(p4,a4),(p5,a5)]):Binds K fd [p1,p2,p3,p4,p5] [] :=
 F.binds λkV doc pm an cdv ct us hl=>by
  obtain _ | ⟨a1,_ | ⟨a2,_ | ⟨a3,_ | ⟨a4,_ | ⟨a5,_ | ⟨z,t⟩⟩⟩⟩⟩⟩:=us
  ·cases hl
  ·cases hl
  ·cases hl
  ·cases hl
  ·cases hl
  ·exact h kV doc pm an cdv ct a1 a2 a3 a4 a5
  ·cases hl
end
end L2
namespace K21
open PySem L2 Wb PyProof.Rows
theorem all_mk{l:PySem.W.OpenLaw}{w:Nk}{K:Na}{h:Nm}{mg:Nd}{fa C fL f0 f1 f2 f3 f4 f5 f6 f7 f8 f9 kU f11 f12 f13 f14 f15 f16 f17 f18 f19 f20 f21 f22 f23 f24 f25 f26 f27 f28 f29 f30 f31 f32 f33 f34 f35 f36 g0 g1 g2:Nb}(X:K.In h)(G:h.Ns mainGlobals mg)(hfa:mg "law" = some (ZZ fa))(af0:ZB "free_hue" = some (ZP f0))(hf0:∃fd,Fun K "free_hue" "free_hue" sFree f0 fd)(af1:ZB "steps_behind" = some (ZP f1))(hf1:∃fd,Fun K "steps_behind" "steps_behind" sSteps f1 fd)(af2:ZB "faces_of" = some (ZP f2))(hf2:∃fd,Fun K "faces_of" "faces_of" zfd f2 fd)(af3:ZB "piece_from" = some (ZP f3))(hf3:∃fd,Fun K "piece_from" "piece_from" zg7 f3 fd)(af4:ZB "pieces_of" = some (ZP f4))(hf4:∃fd,Fun K "pieces_of" "pieces_of" zh4 f4 fd)(af5:ZB "chain" = some (ZP f5))(hf5:∃fd,Fun K "chain" "chain" zdk f5 fd)(af6:ZB "exchanged_in" = some (ZP f6))(hf6:∃fd,Fun K "exchanged_in" "exchanged_in" sExIn f6 fd)(af7:ZB "order" = some (ZP f7))(hf7:∃fd,Fun K "order" "order" zej f7 fd)(af8:ZB "swap_of" = some (ZP f8))(hf8:∃fd,Fun K "swap_of" "swap_of" sSwapOf f8 fd)(af9:ZB "swapped" = some (ZP f9))(hf9:∃fd,Fun K "swapped" "swapped" zh2 f9 fd)(uG:ZB "come_back" = some (ZP kU))(tj:∃fd,Fun K "come_back" "come_back" sBack kU fd)(uF:ZB "tries" = some (ZP f11))(tf:∃fd,Fun K "tries" "tries" zei f11 fd)(uE:ZB "by_one" = some (ZP f12))(sZ:∃fd,Fun K "by_one" "by_one" sOne f12 fd)(uD:ZB "by_two" = some (ZP f13))(sY:∃fd,Fun K "by_two" "by_two" sTwo f13 fd)(uC:ZB "four_swaps" = some (ZP f14))(sX:∃fd,Fun K "four_swaps" "four_swaps" sFs f14 fd)(uB:ZB "four_paper" = some (ZP f15))(sW:∃fd,Fun K "four_paper" "four_paper" sFp f15 fd)(uA:ZB "is_name" = some (ZP f16))(sV:∃fd,Fun K "is_name" "is_name" zd6 f16 fd)(uz:ZB "refuse_no_names" = some (ZP f17))(sU:∃fd,Fun K "refuse_no_names" "refuse_no_names" zfw f17 fd)(uy:ZB "refuse_twice" = some (ZP f18))(sT:∃fd,Fun K "refuse_twice" "refuse_twice" zd0 f18 fd)(ux:ZB "refuse_one_way" = some (ZP f19))(sS:∃fd,Fun K "refuse_one_way" "refuse_one_way" zh5 f19 fd)(uw:ZB "refuse_not_flat" = some (ZP f20))(sR:∃fd,Fun K "refuse_not_flat" "refuse_not_flat" zgy f20 fd)(uv:ZB "from_least" = some (ZP f21))(sQ:∃fd,Fun K "from_least" "from_least" sLeast f21 fd)(uu:ZB "_law_cell" = some (ZP f22))(sP:∃fd,Fun K "_law_cell" "_law_cell" sCell f22 fd)(ut:ZB "_law_pot" = some (ZP f23))(sO:∃fd,Fun K "_law_pot" "_law_pot" sPot f23 fd)(ur:ZB "_law_take" = some (ZP f24))(sM:∃fd,Fun K "_law_take" "_law_take" sTake f24 fd)(uq:ZB "_law_names" = some (ZP f25))(sL:∃fd,Fun K "_law_names" "_law_names" sNames f25 fd)(uo:ZB "_law_behind" = some (ZP f26))(sK:∃fd,Fun K "_law_behind" "_law_behind" sBehind f26 fd)(um:ZB "_law_face" = some (ZP f27))(sJ:∃fd,Fun K "_law_face" "_law_face" sFace f27 fd)(ul:ZB "_law_put" = some (ZP f28))(sI:∃fd,Fun K "_law_put" "_law_put" sPut f28 fd)(uk:ZB "_law_grown" = some (ZP f29))(sH:∃fd,Fun K "_law_grown" "_law_grown" sGrown f29 fd)(uj:ZB "_law_crossed" = some (ZP f30))(sG:∃fd,Fun K "_law_crossed" "_law_crossed" zg8 f30 fd)(ui:ZB "_law_filled" = some (ZP f31))(sF:∃fd,Fun K "_law_filled" "_law_filled" sFilled f31 fd)(uh:ZB "_law_two_rings" = some (ZP f32))(sE:∃fd,Fun K "_law_two_rings" "_law_two_rings" sRings f32 fd)(ug:ZB "_law_untied" = some (ZP f33))(sD:∃fd,Fun K "_law_untied" "_law_untied" zcl f33 fd)(uf:ZB "_law_rounds" = some (ZP f34))(sC:∃fd,Fun K "_law_rounds" "_law_rounds" sRounds f34 fd)(ue:ZB "_law_rows" = some (ZP f35))(sB:∃fd,Fun K "_law_rows" "_law_rows" sRows f35 fd)(ud:ZB "_law_fits" = some (ZP f36))(sA:∃fd,Fun K "_law_fits" "_law_fits" sFits f36 fd)(ag0:PySem.W.findIn K (ZZ C) "__init__" = some (ZP g0))(ig0:PySem.W.isFn K (ZZ g0)=true)(kg0:PySem.W.keepIn K (ZZ g0)=true)(hg0:∃fd,Fun K "__init__" "Web.__init__" sInit g0 fd)(ag1:PySem.W.findIn K (ZZ C) "places" = some (ZP g1))(ig1:PySem.W.isFn K (ZZ g1)=true)(kg1:PySem.W.keepIn K (ZZ g1)=true)(mQ:∃fd,Fun K "places" "Web.places" sPlaces g1 fd)(pU:PySem.W.findIn K (ZZ C) "round_of" = some (ZP g2))(oE:PySem.W.isFn K (ZZ g2)=true)(oC:PySem.W.keepIn K (ZZ g2)=true)(hg2:∃fd,Fun K "round_of" "Web.round_of" zh3 g2 fd){odfL anfL:Option Addr}{slfL:Array (Option Value)}{ocfL kVfL dcfL pmfL cdfL ctfL:Value}(afL:ZB "law" = some (ZP fL))(lfL:K.lookup fL=some ⟨ocfL,odfL,.func (PySem.W.fnOf "law" "law" (zcu sLaw) (zca sLaw) (zag sLaw) .none kVfL dcfL pmfL anfL cdfL ctfL),slfL⟩)(cfL:PySem.W.codeIn K cdfL "law" = true)(kfL:PySem.W.keepIn K (ZZ fL)=true)(aC:ZB "Web" = some (ZP C)){tkM tkF:Tok}(aM:ZB "MOST_LETTERS" = some (QB (.int 8 tkM)))(aF:ZB "FOUR" = some (QB (.int 4 tkF)))(pg:PySem.W.plainGet K C Str.empty=true)(gu:PySem.W.hasDictIn K C=true)(po:PySem.W.plainOver K C=true)(sa:PySem.W.findIn K (ZZ C) "__setattr__" = some (QB (.builtin "object.__setattr__")))(mk:PySem.W.makesIn K C=true)(kc:PySem.W.keepIn K (ZZ C)=true)(nR:PySem.W.findIn K (ZZ C) "rounds" = some none)(z_len:ZB "len" = some none)(z_sorted:ZB "sorted" = some none)(z_range:ZB "range" = some none)(z_min:ZB "min" = some none)(z_max:ZB "max" = some none)(z_abs:ZB "abs" = some none)(z_divmod:ZB "divmod" = some none)(z_tuple:ZB "tuple" = some none)(z_list:ZB "list" = some none)(z_dict:ZB "dict" = some none)(z_set:ZB "set" = some none)(z_isinstance:ZB "isinstance" = some none)(z_str:ZB "str" = some none)(z_all:ZB "all" = some none)(z_sum:ZB "sum" = some none)(z_enumerate:ZB "enumerate" = some none)(z_reversed:ZB "reversed" = some none) :
  ∃fd:FuncData,(∀(s:Nh) (v:Value),BindsTo s fd ⟨[v],[]⟩ [("_law_script",v)])∧∀base:Heap,K.In base→base.Ns mainGlobals mg→FnOk l.prog w K mg base CX0 9 fa fd ["_law_script"] (spLaw K):=by
 have e:=hfa.symm.trans (Zf X G afL)
 cases e
 obtain⟨_,F0⟩:=hf0
 have b0:=F0.b4 (p1 := "web") (p2 := "hues") (p3 := "place") (p4 := "many") λ_ _ _ _ _ _ _ _ _ _=>rfl
 have m0:=Zf X G af0
 obtain⟨_,F1⟩:=hf1
 have b1:=F1.b1 (p1 := "rounds") λ_ _ _ _ _ _ _=>rfl
 have m1:=Zf X G af1
 obtain⟨_,F2⟩:=hf2
 have b2:=F2.b1 (p1 := "rounds") λ_ _ _ _ _ _ _=>rfl
 have m2:=Zf X G af2
 obtain⟨_,F3⟩:=hf3
 have b3:=F3.b2 (p1 := "rounds") (p2 := "start") λ_ _ _ _ _ _ _ _=>rfl
 have m3:=Zf X G af3
 obtain⟨_,F4⟩:=hf4
 have b4:=F4.b1 (p1 := "rounds") λ_ _ _ _ _ _ _=>rfl
 have m4:=Zf X G af4
 obtain⟨_,F5⟩:=hf5
 have b5:=F5.b4 (p1 := "web") (p2 := "hues") (p3 := "start") (p4 := "other") λ_ _ _ _ _ _ _ _ _ _=>rfl
 have m5:=Zf X G af5
 obtain⟨_,F6⟩:=hf6
 have b6:=F6.b4 (p1 := "hues") (p2 := "places") (p3 := "one") (p4 := "other") λ_ _ _ _ _ _ _ _ _ _=>rfl
 have m6:=Zf X G af6
 obtain⟨_,F7⟩:=hf7
 have b7:=F7.b1 (p1 := "web") λ_ _ _ _ _ _ _=>rfl
 have m7:=Zf X G af7
 obtain⟨_,F8⟩:=hf8
 have b8:=F8.b4 (p1 := "web") (p2 := "hues") (p3 := "start") (p4 := "other") λ_ _ _ _ _ _ _ _ _ _=>rfl
 have m8:=Zf X G af8
 obtain⟨_,F9⟩:=hf9
 have b9:=F9.b2 (p1 := "hues") (p2 := "swap") λ_ _ _ _ _ _ _ _=>rfl
 have m9:=Zf X G af9
 obtain⟨_,vf⟩:=tj
 have uc:=vf.b5 (p1 := "web") (p2 := "hues") (p3 := "place") (p4 := "swaps") (p5 := "many") λ_ _ _ _ _ _ _ _ _ _ _=>rfl
 have qm:=Zf X G uG
 obtain⟨_,ve⟩:=tf
 have b11:=ve.b3 (p1 := "web") (p2 := "hues") (p3 := "place") λ_ _ _ _ _ _ _ _ _=>rfl
 have m11:=Zf X G uF
 obtain⟨_,vd⟩:=sZ
 have b12:=vd.b4 (p1 := "web") (p2 := "hues") (p3 := "place") (p4 := "most") λ_ _ _ _ _ _ _ _ _ _=>rfl
 have m12:=Zf X G uE
 obtain⟨_,vc⟩:=sY
 have b13:=vc.b4 (p1 := "web") (p2 := "hues") (p3 := "place") (p4 := "most") λ_ _ _ _ _ _ _ _ _ _=>rfl
 have m13:=Zf X G uD
 obtain⟨_,va⟩:=sX
 have b14:=va.b4 (p1 := "web") (p2 := "hues") (p3 := "place") (p4 := "most") λ_ _ _ _ _ _ _ _ _ _=>rfl
 have m14:=Zf X G uC
 obtain⟨_,v9⟩:=sW
 have b15:=v9.b2 (p1 := "web") (p2 := "most") λ_ _ _ _ _ _ _ _=>rfl
 have m15:=Zf X G uB
 obtain⟨_,v8⟩:=sV
 have b16:=v8.b1 (p1 := "thing") λ_ _ _ _ _ _ _=>rfl
 have m16:=Zf X G uA
 obtain⟨_,v6⟩:=sU
 have b17:=v6.b1 (p1 := "rows") λ_ _ _ _ _ _ _=>rfl
 have m17:=Zf X G uz
 obtain⟨_,v4⟩:=sT
 have b18:=v4.b1 (p1 := "rows") λ_ _ _ _ _ _ _=>rfl
 have m18:=Zf X G uy
 obtain⟨_,v3⟩:=sS
 have b19:=v3.b1 (p1 := "rows") λ_ _ _ _ _ _ _=>rfl
 have m19:=Zf X G ux
 obtain⟨_,v2⟩:=sR
 have b20:=v2.b1 (p1 := "rounds") λ_ _ _ _ _ _ _=>rfl
 have m20:=Zf X G uw
 obtain⟨_,v1⟩:=sQ
 have b21:=v1.b1 (p1 := "around") λ_ _ _ _ _ _ _=>rfl
 have m21:=Zf X G uv
 obtain⟨_,uZ⟩:=sP
 have b22:=uZ.b2 (p1 := "_law_script") (p2 := "_law_k") λ_ _ _ _ _ _ _ _=>rfl
 have m22:=Zf X G uu
 obtain⟨_,uY⟩:=sO
 have b23:=uY.b1 (p1 := "_law_cell_here") λ_ _ _ _ _ _ _=>rfl
 have m23:=Zf X G ut
 obtain⟨_,uX⟩:=sM
 have b24:=uX.b2 (p1 := "_law_pot_here") (p2 := "_law_many") λ_ _ _ _ _ _ _ _=>rfl
 have m24:=Zf X G ur
 obtain⟨_,uW⟩:=sL
 have b25:=uW.b2 (p1 := "_law_pot_here") (p2 := "_law_many") λ_ _ _ _ _ _ _ _=>rfl
 have m25:=Zf X G uq
 obtain⟨_,uV⟩:=sK
 have b26:=uV.b2 (p1 := "_law_around") (p2 := "_law_place") λ_ _ _ _ _ _ _ _=>rfl
 have m26:=Zf X G uo
 obtain⟨_,uU⟩:=sJ
 have b27:=uU.b3 (p1 := "_law_rounds_here") (p2 := "_law_p") (p3 := "_law_q") λ_ _ _ _ _ _ _ _ _=>rfl
 have m27:=Zf X G um
 obtain⟨_,uT⟩:=sI
 have b28:=uT.b5 (p1 := "_law_rounds_here") (p2 := "_law_one") (p3 := "_law_corner_of") (p4 := "_law_other") (p5 := "_law_after") λ_ _ _ _ _ _ _ _ _ _ _=>rfl
 have m28:=Zf X G ul
 obtain⟨_,uS⟩:=sH
 have b29:=uS.b2 (p1 := "_law_pot_here") (p2 := "_law_names_here") λ_ _ _ _ _ _ _ _=>rfl
 have m29:=Zf X G uk
 obtain⟨_,uR⟩:=sG
 have b30:=uR.b2 (p1 := "_law_rounds_here") (p2 := "_law_pot_here") λ_ _ _ _ _ _ _ _=>rfl
 have m30:=Zf X G uj
 obtain⟨_,uQ⟩:=sF
 have b31:=uQ.b1 (p1 := "_law_rounds_here") λ_ _ _ _ _ _ _=>rfl
 have m31:=Zf X G ui
 obtain⟨_,uP⟩:=sE
 have b32:=uP.b2 (p1 := "_law_names_here") (p2 := "_law_many") λ_ _ _ _ _ _ _ _=>rfl
 have m32:=Zf X G uh
 obtain⟨_,uO⟩:=sD
 have b33:=uO.b2 (p1 := "_law_rounds_here") (p2 := "_law_pot_here") λ_ _ _ _ _ _ _ _=>rfl
 have m33:=Zf X G ug
 obtain⟨_,uN⟩:=sC
 have b34:=uN.b2 (p1 := "_law_script") (p2 := "_law_most") λ_ _ _ _ _ _ _ _=>rfl
 have m34:=Zf X G uf
 obtain⟨_,uM⟩:=sB
 have b35:=uM.b1 (p1 := "_law_rounds_here") λ_ _ _ _ _ _ _=>rfl
 have m35:=Zf X G ue
 obtain⟨_,uL⟩:=sA
 have b36:=uL.b3 (p1 := "_law_web") (p2 := "_law_most") (p3 := "_law_whole") λ_ _ _ _ _ _ _ _ _=>rfl
 have m36:=Zf X G ud
 obtain⟨_,FG0⟩:=hg0
 have bG0:=FG0.b2 (p1 := "self") (p2 := "rows") λ_ _ _ _ _ _ _ _=>rfl
 obtain⟨_,FG1⟩:=mQ
 have bG1:=FG1.b1 (p1 := "self") λ_ _ _ _ _ _ _=>rfl
 obtain⟨_,FG2⟩:=hg2
 have pR:=FG2.b2 (p1 := "self") (p2 := "place") λ_ _ _ _ _ _ _ _=>rfl
 have FL:=fun_mk (st:=sLaw) lfL cfL kfL
 have cW:Cls K C:=⟨pg,gu,po,sa⟩
 have mC:=Zf X G aC
 have mM:=Zf X G aM
 have mF:=Zf X G aF
 have y_len:=Zx X G z_len
 have y_sorted:=Zx X G z_sorted
 have y_range:=Zx X G z_range
 have y_min:=Zx X G z_min
 have y_max:=Zx X G z_max
 have y_abs:=Zx X G z_abs
 have y_divmod:=Zx X G z_divmod
 have y_tuple:=Zx X G z_tuple
 have y_list:=Zx X G z_list
 have y_dict:=Zx X G z_dict
 have y_set:=Zx X G z_set
 have y_isinstance:=Zx X G z_isinstance
 have y_str:=Zx X G z_str
 have y_all:=Zx X G z_all
 have y_sum:=Zx X G z_sum
 have y_enumerate:=Zx X G z_enumerate
 have y_reversed:=Zx X G z_reversed
 refine⟨PySem.W.fnOf "law" "law" (zcu sLaw) (zca sLaw) (zag sLaw) .none kVfL dcfL pmfL anfL cdfL ctfL,λs v=>.of_eq rfl,λbase _ _=>?_⟩
 have GTake:=Cal.mk uX b24 m24 (ok_take (P:=l.prog) (w:=w) (mg:=mg) (base:=base) uX y_divmod)
 have GPot:=Cal.mk uY b23 m23 (ok_pot (P:=l.prog) (w:=w) (mg:=mg) (base:=base) uY y_max y_abs)
 have GCell:=Cal.mk uZ b22 m22 (ok_cell (P:=l.prog) (w:=w) (mg:=mg) (base:=base) uZ y_len)
 have GBehind:=Cal.mk uV b26 m26 (ok_behindS (P:=l.prog) (w:=w) (mg:=mg) (base:=base) uV y_len)
 have GFace:=Cal.mk uU b27 m27 (ok_face (P:=l.prog) (w:=w) (mg:=mg) (base:=base) uU GBehind)
 have GPut:=Cal.mk uT b28 m28 (ok_put (P:=l.prog) (w:=w) (mg:=mg) (base:=base) uT)
 have GCross:=Cal.mk uR b30 m30 (ok_cross (P:=l.prog) (w:=w) (mg:=mg) (base:=base) uR GTake GFace GPut y_len)
 have GFilled:=Cal.mk uQ b31 m31 (ok_filled (P:=l.prog) (w:=w) (mg:=mg) (base:=base) uQ GFace GPut y_list)
 have GGrown:=Cal.mk uS b29 m29 (ok_grown (P:=l.prog) (w:=w) (mg:=mg) (base:=base) uS GTake GPut y_len y_list)
 have GUntied:=Cal.mk uO b33 m33 (ok_untied (P:=l.prog) (w:=w) (mg:=mg) (base:=base) uO GTake y_len)
 have GNames:=Cal.mk uW b25 m25 (ok_names (P:=l.prog) (w:=w) (mg:=mg) (base:=base) uW GTake y_range y_divmod)
 have GRings:=Cal.mk uP b32 m32 (ok_rings (P:=l.prog) (w:=w) (mg:=mg) (base:=base) uP y_range y_list y_reversed)
 have GRounds:=Cal.mk uN b34 m34 (ok_rounds (P:=l.prog) (w:=w) (mg:=mg) (base:=base) uN GPot GCell GTake GNames GRings GUntied GGrown GCross GFilled y_range)
 have GRows:=Cal.mk uM b35 m35 (ok_rows (P:=l.prog) (w:=w) (mg:=mg) (base:=base) uM y_list)
 have GPlaces:=ok_places (P:=l.prog) (w:=w) (mg:=mg) (base:=base) FG1 cW nR y_list
 have GRoundOf:=ok_roundof (P:=l.prog) (w:=w) (mg:=mg) (base:=base) FG2 cW nR y_list
 have GPieceL:=Cal.mk F3 b3 m3 (ok_pieceL (P:=l.prog) (w:=w) (mg:=mg) (base:=base) F3 y_sorted)
 have GChain:=Cal.mk F5 b5 m5 (ok_chain (P:=l.prog) (w:=w) (mg:=mg) (base:=base) F5 cW nR ⟨ag1,ig1,kg1⟩ bG1 GPlaces ⟨pU,oE,oC⟩ pR GRoundOf GPieceL)
 have GExIn:=Cal.mk F6 b6 m6 (ok_exin (P:=l.prog) (w:=w) (mg:=mg) (base:=base) F6 y_dict)
 have GOrder:=Cal.mk F7 b7 m7 (ok_order (P:=l.prog) (w:=w) (mg:=mg) (base:=base) F7 cW ⟨ag1,ig1,kg1⟩ bG1 GPlaces ⟨pU,oE,oC⟩ pR GRoundOf y_len y_min)
 have GFree:=Cal.mk F0 b0 m0 (ok_free (P:=l.prog) (w:=w) (mg:=mg) (base:=base) F0 cW ⟨pU,oE,oC⟩ pR GRoundOf y_range)
 have GSwapOf:=Cal.mk F8 b8 m8 (ok_swapof (P:=l.prog) (w:=w) (mg:=mg) (base:=base) F8 GChain)
 have GSwapped:=Cal.mk F9 b9 m9 (ok_swapped (P:=l.prog) (w:=w) (mg:=mg) (base:=base) F9 GExIn)
 have GTries:=Cal.mk ve b11 m11 (ok_tries (P:=l.prog) (w:=w) (mg:=mg) (base:=base) ve cW ⟨pU,oE,oC⟩ pR GRoundOf y_sorted y_range mF)
 have GOneS:=Cal.mk vd b12 m12 (ok_one (P:=l.prog) (w:=w) (mg:=mg) (base:=base) vd GTries GSwapOf GSwapped GFree mF)
 have GTwo:=Cal.mk vc b13 m13 (ok_two (P:=l.prog) (w:=w) (mg:=mg) (base:=base) vc GTries GSwapOf GSwapped GOneS)
 have GFs:=Cal.mk va b14 m14 (ok_fs (P:=l.prog) (w:=w) (mg:=mg) (base:=base) va GFree GOneS GTwo mF)
 have GBack:=Cal.mk vf uc qm (ok_back (P:=l.prog) (w:=w) (mg:=mg) (base:=base) vf GSwapped GFree y_dict)
 have GFp:=Cal.mk v9 b15 m15 (ok_fp (P:=l.prog) (w:=w) (mg:=mg) (base:=base) v9 GOrder GFs GBack mF)
 have GFits:=Cal.mk uL b36 m36 (ok_fits (P:=l.prog) (w:=w) (mg:=mg) (base:=base) uL GFp)
 have GIsName:=ok_isname (P:=l.prog) (w:=w) (mg:=mg) (base:=base) v8 mM y_isinstance y_str y_len y_all
 have GNo:=ok_nonames (P:=l.prog) (w:=w) (mg:=mg) (base:=base) v6 v8 b16 m16 GIsName
 have GTw:=ok_twice (P:=l.prog) (w:=w) (mg:=mg) (base:=base) v4 y_len y_set
 have GOne:=ok_oneway (P:=l.prog) (w:=w) (mg:=mg) (base:=base) v3 y_dict
 have GLeast:=ok_least (P:=l.prog) (w:=w) (mg:=mg) (base:=base) v1 y_min y_tuple
 have GSteps:=ok_steps (P:=l.prog) (w:=w) (mg:=mg) (base:=base) F1 y_enumerate
 have GFaces:=ok_faces (P:=l.prog) (w:=w) (mg:=mg) (base:=base) F2 F1 b1 m1 GSteps y_sorted
 have GPiece:=ok_piece (P:=l.prog) (w:=w) (mg:=mg) (base:=base) F3 y_sorted
 have GPieces:=ok_pieces (P:=l.prog) (w:=w) (mg:=mg) (base:=base) F4 F3 b3 m3 GPiece y_sorted
 have GFlat:=ok_flat (P:=l.prog) (w:=w) (mg:=mg) (base:=base) v2 F2 b2 m2 GFaces F4 b4 m4 GPieces y_len y_sum
 have GInit:=ok_init (P:=l.prog) (w:=w) (mg:=mg) (base:=base) FG0 cW nR v6 b17 m17 GNo v4 b18 m18 GTw v3 b19 m19 GOne v1 b21 m21 GLeast v2 b20 m20 GFlat y_sorted
 exact ok_law FL GPot GCell GTake GRounds GCross GRows ⟨mk,ag0,ig0,kc⟩ mC bG0 GInit GFp GFits y_range y_max y_all
def walk{l:PySem.W.OpenLaw}{q:Ni}{loose:Nf}{XP:(Str→Option Value)→Heap→Prop}{d:DefRec}{K:Params→PySem.W.Frag}(hn:l.most=some 63)(nj:d.params.defaults=[])(F:∀ (w:Nk) (mg:Nd) (fa:Nb) (h:Nm),(K w.params).In h→h.Ns mainGlobals mg→mg d.name=some (ZZ fa) →
   ∃fd:FuncData,(∀(s:Nh) (u:Value),BindsTo s fd ⟨[u],[]⟩ [("_law_script",u)])∧∀base:Heap,(K w.params).In base→base.Ns mainGlobals mg→FnOk l.prog w (K w.params) mg base CX0 9 fa fd ["_law_script"] (spLaw (K w.params))) :
  PySem.W.WalkO q loose XP (λw h=>(K w.params).In h) l.row.toRowW d [] (λf vs=>PySem.call f vs) :=
 L2.walk_of (n:=63) (k:=9) (x := "_law_script") (CX:=λ_=>CX0) (sp:=λw=>spLaw (K w.params)) hn ZU nj ⟨rfl,ZU,ZU⟩ (λ_ _ z=>z) F (λ_ _ a ns _ _ hS=>⟨a,ns,rfl,hS,λ_=>rfl⟩) λ_ _ _ _ _ z=>z
end K21
end
section
set_option Elab.async false
set_option linter.all false
open PySem PySem.W PySem.W.X PyProof.Rows
def PySem.W.Fast.tw8010053202504306243:Unit:=()
def PySem.W.Fast.tw7762124952214298792:Unit:=()
def PySem.W.Fast.tw15480187314493273932:Unit:=()
def PySem.W.Fast.tw16591366730134092237:Unit:=()
def PySem.W.Fast.tw15239887845835342743:Unit:=()
def PySem.W.Fast.tw4564510453380724166:Unit:=()
def PySem.W.Fast.tw4043257026864288327:Unit:=()
def PySem.W.Fast.tw18429990238021749503:Unit:=()
def PySem.W.Fast.tw272222471818264376:Unit:=()
def PySem.W.Fast.tw4161542148650852854:Unit:=()
def PySem.W.Fast.tw4974489449167196152:Unit:=()
def PySem.W.Fast.tw6264022989822377290:Unit:=()
def PySem.W.Fast.tw12277239077740875358:Unit:=()
def PySem.W.Fast.tw17707023398516609350:Unit:=()
def PySem.W.Fast.tw5157736499663527315:Unit:=()
def PySem.W.Fast.tw6313394492770436300:Unit:=()
def PySem.W.Fast.tw6231106350405207375:Unit:=()
def PySem.W.Fast.tw13450374916483660469:Unit:=()
def PySem.W.Fast.tw5822695813588781157:Unit:=()
def PySem.W.Fast.tw12895070576370987994:Unit:=()
def PySem.W.Fast.tw12479290093813328168:Unit:=()
def PySem.W.Fast.tw16409118837898578865:Unit:=()
def PySem.W.Fast.tw1106554142436221745:Unit:=()
def PySem.W.Fast.tw10057411805123783285:Unit:=()
def PySem.W.Fast.tw1201234191974338726:Unit:=()
def PySem.W.Fast.tw12222820804753152963:Unit:=()
def PySem.W.Fast.tw11724510734797135015:Unit:=()
def PySem.W.Fast.tw16358545845056665755:Unit:=()
def PySem.W.Fast.tw3074764037424728979:Unit:=()
def PySem.W.Fast.tw16734452621878350564:Unit:=()
def PySem.W.Fast.tw3796158974798536492:Unit:=()
def PySem.W.Fast.tw10184243409193945719:Unit:=()
def PySem.W.Fast.tw3403031136565427808:Unit:=()
def PySem.W.Fast.tw12707679466226057222:Unit:=()
def PySem.W.Fast.tw75043064096312856:Unit:=()
def PySem.W.Fast.tw6375358823948048179:Unit:=()
def PySem.W.Fast.tw16006033840462369449:Unit:=()
def PySem.W.Fast.tw3311252545202532787:Unit:=()
def PySem.W.Fast.tw9481204330285860609:Unit:=()
def PySem.W.Fast.tw1192863731619732935:Unit:=()
def PySem.W.Fast.tw8198600402655648754:Unit:=()
def PySem.W.Fast.tw6297879113211204245:Unit:=()
def PySem.W.Fast.tw12666920684817114748:Unit:=()
def PySem.W.Fast.tw633767813531198721:Unit:=()
def PySem.W.Fast.tw2179309620134063383:Unit:=()
def PySem.W.Fast.tw14730729864550095527:Unit:=()
def PySem.W.Fast.tw4114329736904471644:Unit:=()
def PySem.W.Fast.tw16161681846631644967:Unit:=()
def PySem.W.Fast.tw2579176686926361537:Unit:=()
def PySem.W.Fast.tw17297780932770279712:Unit:=()
def PySem.W.Fast.tw5859765530692719626:Unit:=()
def PySem.W.Fast.tw11398723751804604796:Unit:=()
def PySem.W.Fast.tw5058160419745894629:Unit:=()
def PySem.W.Fast.tw7944106355069362165:Unit:=()
def PySem.W.Fast.tw14355186670310223957:Unit:=()
def PySem.W.Fast.tw15911462021584459591:Unit:=()
def PySem.W.Fast.tw3074448911456984310:Unit:=()
def PySem.W.Fast.tw8608726646287669111:Unit:=()
def PySem.W.Fast.tw10666847827754703345:Unit:=()
def PySem.W.Fast.tw16958301194477939659:Unit:=()
set_option maxRecDepth 100000 in
set_option maxHeartbeats 0 in
theorem PySem.Challenge.cw_fivehues_k53_fewer_steps_holds : PySem.Challenge.rw_fivehues_k53_fewer_steps.Holds := by
 w_on;o_law;z_head;(case hw=>w_witness2)
 k_fill
 intro w s0 s1 mg mb G y fa o pm cd doc dV kV ho hd hcd hD hmg hg args vals as L hpre hlay hrd hwl hlo
 z_open y L KX ZH ZN ZT
 refine K21.walk (l:=PySem.Challenge.rw_fivehues_k53_fewer_steps) rfl rfl ?F w s0 s1 mg mb G KX fa o pm cd doc dV kV ho hd hcd hD hmg hg args vals as hpre hlay hrd hwl hlo
 case F =>
  clear KX ZH ZN ZT L y G hmg hg hpre hlay hrd hwl hlo ho hd hcd hD
  intro w mg fa h KX G hmg
  refine' K21.all_mk KX G hmg ?_ ?_ ?_ ?_ ?_ ?_ ?_ ?_ ?_ ?_ ?_ ?_ ?_ ?_ ?_ ?_ ?_ ?_ ?_ ?_ ?_ ?_ ?_ ?_ ?_ ?_ ?_ ?_ ?_ ?_ ?_ ?_ ?_ ?_ ?_ ?_ ?_ ?_ ?_ ?_ ?_ ?_ ?_ ?_ ?_ ?_ ?_ ?_ ?_ ?_ ?_ ?_ ?_ ?_ ?_ ?_ ?_ ?_ ?_ ?_ ?_ ?_ ?_ ?_ ?_ ?_ ?_ ?_ ?_ ?_ ?_ ?_ ?_ ?_ ?_ ?_ ?_ ?_ ?_ ?_ ?_ ?_ ?_ ?_ ?_ ?_ ?_ ?_ ?_ ?_ ?aC ?_ ?_ ?_ ?_ ?_ ?_ ?_ ?_ ?_ ?_ ?_ ?_ ?_ ?_ ?_ ?_ ?_ ?_ ?_ ?_ ?_ ?_ ?_ ?_ ?_ ?_
  (case aC=>k_is)
  all_goals(try first|k_is|kit_is|kts_exm|k_exc|exact⟨_,L2.fun_mk (by k_is) (by k_is) (by k_is)⟩)
end
