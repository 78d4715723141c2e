import PyProof.Rows.All
import KE.KDictOf
import KE.KDictSum
import KE.KEqDict
import KE.KSortTup
import KE.KTryMore
import KE.RegKIsAll
import KE.RegKTryMore
import Lean
import OpenK.AllK
import PyProof.EqAt
import PyProof.EqKinds
import PyProof.NsDelKeeps
import PyProof.Rows.StrMadeLen
import PyProof.SliceStr2
import PyProof.StrLaws
import PyProof.TupleCall
import Wide.All
import Wide.FinOn
import PySem.Challenge.RW_fivehues_k11_rounds_told
set_option Elab.async false
set_option linter.all false
set_option maxRecDepth 100000
set_option maxHeartbeats 4000000
abbrev Qa:=@List.length_map
abbrev Qb:=@List.mem_singleton
abbrev Qc:=@List.getElem?_eq_getElem
abbrev Qd:=@Nat.le_refl
abbrev Qe:=@List.mem_cons_self
abbrev Qf:=@List.mem_append
abbrev Qg:=@List.mem_cons_of_mem
abbrev Qh:=@List.mem_cons
abbrev Qi:=@PySem.Heap.get?_push_of_some
abbrev Qj:=@List.mem_append_right
abbrev Qk:=@List.map_cons
abbrev Ql:=@List.mem_map
abbrev Qm:=@List.length_append
abbrev Qn:=@List.size_toArray
abbrev Qo:=@List.take_succ_eq_append_getElem
abbrev Qp:=@List.append_assoc
abbrev Qq:=@List.getElem_mem
abbrev Qr:=@List.getElem?_map
abbrev Qs:=@Option.some.inj
abbrev Qt:=@List.map_append
abbrev Qu:=@List.take_of_length_le
abbrev Qv:=@List.mem_append_left
abbrev Qw:=@PySem.Heap.lt_size
abbrev Qx:=@List.getD_eq_getElem?_getD
abbrev Qy:=@PySem.F.plainAttrs_list
abbrev Qz:=@List.nodup_cons
abbrev Za:=@PySem.Heap.get?_push_size
abbrev Zb:=@Bool.false_ne_true
abbrev Zc:=@List.length_take
abbrev Zd:=@List.getElem?_eq_some_iff
abbrev Ze:=@Array.toList_append
abbrev Zf:=@List.getElem_of_mem
abbrev Zg:=@List.length_cons
abbrev Zh:=@Nat.zero_le
abbrev Zi:=@Nat.le_trans
abbrev Zj:=@List.nodup_append
abbrev Zk:=@Nat.ne_of_lt
abbrev Zl:=@List.take_append_drop
abbrev Zm:=@Int.eq_ofNat_of_zero_le
abbrev Zn:=@Ne.symm
abbrev Zo:=@Nat.le_of_lt
abbrev Zp:=@List.map_map
abbrev Zq:=@PySem.PassesOwn.never
abbrev Zr:=@PySem.W.mg_of
abbrev Zs:=@List.append_nil
abbrev Zt:=@PySem.Paired.length
abbrev Zu:=@Array.perm_iff_toList_perm
abbrev Zv:=@List.pairwise_append
abbrev Zw:=@Nat.lt_of_lt_of_le
abbrev Zx:=@List.Perm.append_left
abbrev Zy:=@Nat.le_add_right
abbrev Zz:=@PySem.boot_len
abbrev Ya:=@PySem.F.type_list_append
abbrev Yb:=@PySem.F.slot_list_append
abbrev Yc:=@List.nodup_nil
abbrev Yd:=@List.getElem_map
abbrev Yf:=@PyProof.Rows.KeyOrd.kle_of_klt
abbrev Yh:=@PySem.W.mg_none_of
abbrev Yi:=@Array.length_toList
abbrev Yj:=@List.length_drop
abbrev Yl:=@List.filter_cons_of_pos
abbrev Ym:=@List.filter_cons_of_neg
abbrev Yn:=@PyProof.Rows.boot_sorted
abbrev Yo:=@List.sum_cons
abbrev Yp:=@List.mem_of_mem_take
abbrev Yq:=@List.mem_range
abbrev Yr:=@Nat.lt_irrefl
abbrev Yu:=@PyProof.Rows.KeyOrd.kle_trans
abbrev Yv:=@Nat.lt_succ_self
abbrev Yw:=@List.cons_append
abbrev Yx:=@PyProof.Rows.KeyOrd.kle_refl
abbrev Yy:=@List.mem_of_mem_drop
abbrev Yz:=@List.mem_of_getElem?
abbrev Wa:=@Nat.lt_of_le_of_lt
abbrev Wc:=@List.perm_append_comm
abbrev Wd:=@List.mem_flatten
abbrev We:=@List.drop_eq_getElem_cons
abbrev Wf:=@List.any_eq_true
abbrev Wg:=@Nat.ne_of_gt
abbrev Wh:=@List.length_range
abbrev Wi:=@List.lt_irrefl
abbrev Wj:=@Bool.false_eq_true
abbrev Wl:=@Array.toList_reverse
abbrev Wm:=@Bool.eq_iff_iff
abbrev Wn:=@List.getElem_inj
abbrev Wo:=@List.flatten_cons
abbrev Wp:=@Array.toList_push
abbrev Wq:=@List.nil_append
abbrev Wr:=@List.filter_append
abbrev Ws:=@Nat.lt_trans
abbrev Wt:=@List.pairwise_map
abbrev Wu:=@Bool.not_eq_true'
abbrev Wv:=@PySem.Around.under_plainId
abbrev Ww:=@PySem.mem_of_lookup
abbrev Wx:=@List.map_congr_left
abbrev Wy:=@List.pairwise_iff_getElem
abbrev Wz:=@PySem.F.called_set
abbrev Ua:=@List.pairwise_cons
abbrev Ub:=@List.append_of_mem
abbrev Uc:=@List.reverse_perm
abbrev Ud:=@List.getElem_take
abbrev Ue:=@PyProof.Rows.boot_isinstance
abbrev Uf:=@List.length_pos_iff
abbrev Ug:=@List.flatten_append
abbrev Uh:=@PySem.Heap.size_push
abbrev Ui:=@List.find?_cons_of_pos
abbrev Uj:=@List.find?_cons_of_neg
abbrev Uk:=@Array.getD_eq_getD_getElem?
abbrev Ul:=@List.map_take
abbrev Um:=@List.lookup_cons
abbrev Uo:=@PySem.F.slot_dict_keyiterator_next
abbrev Uq:=@Nat.mod_lt
abbrev Ur:=@List.getElem?_append_right
abbrev Us:=@List.Nodup.sublist
abbrev Ut:=@List.getElem?_eq_none
abbrev Uu:=@Array.getElem?_toList
abbrev Uv:=@PySem.Heap.get?_update_other
abbrev Uw:=@List.length_set
abbrev Ux:=@List.filter_nil
abbrev Uy:=@List.getElem_toArray
abbrev Uz:=@List.flatMap_cons
abbrev Ja:=@List.idxOf_lt_length_iff
abbrev Jb:=@PySem.F.type_list_index
abbrev Jc:=@PySem.F.slot_list_index
abbrev Jd:=@Prod.mk.inj
abbrev Je:=@PyProof.Rows.boot_list
abbrev Jf:=@List.getElem_idxOf
abbrev Jg:=@List.Perm.append_right
abbrev Ji:=@Nat.le_antisymm
abbrev Jj:=@List.length_nil
abbrev Jk:=@List.map_drop
abbrev Jl:=@List.take_sublist
abbrev Jm:=@Int.toNat_natCast
abbrev Jo:=@Array.toList_setIfInBounds
abbrev Jp:=@Nat.zero_add
abbrev Jq:=@List.all_eq_true
abbrev Jr:=@Decidable.byContradiction
abbrev Js:=@PySem.F.slot_tuple_iterator_next
abbrev Jt:=@List.mem_filter
abbrev Ju:=@List.foldl_cons
abbrev Jv:=@List.find?_cons
abbrev Jw:=@List.ne_nil_of_mem
abbrev Jx:=@List.getElem_range
abbrev Jy:=@Int.emod_lt_of_pos
abbrev Jz:=@Bool.not_eq_false'
abbrev Ka:=@Sum.inr.inj
abbrev Kb:=@Nat.le_succ
abbrev Kc:=@List.length_eq_zero_iff
abbrev Ke:=@Nat.lt_succ_of_lt
abbrev Kf:=@PySem.W.methodCall_KW
abbrev Kg:=@PyProof.Rows.boot_min
abbrev Kh:=@List.set_append_right
abbrev Ki:=@List.length_singleton
abbrev Kj:=@List.flatten_nil
abbrev Kk:=@Bool.and_eq_true
abbrev Kl:=@Nat.add_assoc
abbrev Km:=@Prod.ext
abbrev Kn:=@List.perm_cons_erase
abbrev Ko:=@Int.emod_nonneg
abbrev Kp:=@Nat.add_le_add_left
abbrev Kq:=@List.perm_iff_count
abbrev Kr:=@List.getElem_set_ne
abbrev Ks:=@List.filter_sublist
abbrev Kt:=@PyProof.Rows.callWith_type1
abbrev Ku:=@PySem.W.callWith_K
abbrev Kv:=@List.getElem?_append_left
abbrev Kw:=@List.extract_eq_take_drop
abbrev Kx:=@Array.getElem?_eq_getElem
abbrev Ky:=@Nat.lt_of_succ_lt
abbrev Kz:=@List.reverse_cons
abbrev Xa:=@List.ext_getElem?
abbrev Xb:=@List.count_append
abbrev Xc:=@PySem.Heap.SameBut.update
abbrev Xd:=@PySem.F.type_list_insert
abbrev Xe:=@PySem.F.slot_list_insert
abbrev Xf:=@List.any_cons
abbrev Xg:=@PySem.W.KasT.kasWp_bind
abbrev Xh:=@PySem.Obj.data_mapFields
abbrev Xi:=@Nat.succ_ne_self
abbrev Xj:=@List.pairwise_singleton
abbrev Xk:=@List.nodup_range
abbrev Xl:=@List.mem_reverse
abbrev Xm:=@Array.toList_map
abbrev Xn:=@Array.toList_inj
abbrev Xo:=@Nat.sub_self
abbrev Xp:=@List.map_nil
abbrev Xq:=@List.length_pos_of_mem
abbrev Xr:=@Int.zero_add
abbrev Xt:=@List.range_succ
abbrev Xu:=@List.idxOf_cons
abbrev Xv:=@List.count_cons
abbrev Xw:=@PySem.F.slot_dict_get
abbrev Xx:=@List.singleton_append
abbrev Xy:=@List.pairwise_reverse
abbrev Xz:=@List.mem_of_mem_erase
abbrev Ba:=@List.length_replicate
abbrev Bb:=@PySem.F.slot_list_getattribute
abbrev Na:=PySem.W.Frag
abbrev Nb:=PySem.Value→PySem.Shared→Prop
abbrev Nc:=PySem.Addr
abbrev Nd:=List (PySem.Addr×PySem.Obj)
abbrev Nf:=PySem.Str→Option PySem.Value
abbrev Ng:=PySem.Shared
abbrev Nh:=List PySem.Value
abbrev Ni:=PySem.Program
abbrev Nj:=List PySem.Str
abbrev Nk:=List PySem.Addr
abbrev Nl:=PySem.World
abbrev Nm:=PySem.Heap
abbrev Nn:=PySem.Around
abbrev No:=List PySem.Expr
abbrev Np:=List (PySem.Str×PySem.Str)
abbrev Nq:=List (Option Nat)
abbrev Nr:=PySem.FuncData
abbrev Nt:=PySem.Result→PySem.Shared→Prop
abbrev Nu:=PySem.Str→PySem.Str
section
set_option Elab.async false
inductive Ex1{T0:Sort _}(P:T0→Prop):Prop
 |mk (x0:T0) (h:P x0):Ex1 P
inductive Ex2{T0:Sort _}{T1:Sort _}(P:T0→T1→Prop):Prop
 |mk (x0:T0) (x1:T1) (h:P x0 x1):Ex2 P
inductive Ex3{T0:Sort _}{T1:Sort _}{T2:Sort _}(P:T0→T1→T2→Prop):Prop
 |mk (x0:T0) (x1:T1) (x2:T2) (h:P x0 x1 x2):Ex3 P
inductive Ex4{T0:Sort _}{T1:Sort _}{T2:Sort _}{T3:Sort _}(P:T0→T1→T2→T3→Prop):Prop
 |mk (x0:T0) (x1:T1) (x2:T2) (x3:T3) (h:P x0 x1 x2 x3):Ex4 P
inductive Ex5{T0:Sort _}{T1:Sort _}{T2:Sort _}{T3:Sort _}{T4:Sort _}(P:T0→T1→T2→T3→T4→Prop):Prop
 |mk (x0:T0) (x1:T1) (x2:T2) (x3:T3) (x4:T4) (h:P x0 x1 x2 x3 x4):Ex5 P
inductive Ex6{T0:Sort _}{T1:Sort _}{T2:Sort _}{T3:Sort _}{T4:Sort _}{T5:Sort _}(P:T0→T1→T2→T3→T4→T5→Prop):Prop
 |mk (x0:T0) (x1:T1) (x2:T2) (x3:T3) (x4:T4) (x5:T5) (h:P x0 x1 x2 x3 x4 x5):Ex6 P
inductive Ex8{T0:Sort _}{T1:Sort _}{T2:Sort _}{T3:Sort _}{T4:Sort _}{T5:Sort _}{T6:Sort _}{T7:Sort _}(P:T0→T1→T2→T3→T4→T5→T6→T7→Prop):Prop
 |mk (x0:T0) (x1:T1) (x2:T2) (x3:T3) (x4:T4) (x5:T5) (x6:T6) (x7:T7) (h:P x0 x1 x2 x3 x4 x5 x6 x7):Ex8 P
structure Aj2(p0 p1:Prop):Prop where
 h0:p0
 h1:p1
structure Aj3(p0 p1 p2:Prop):Prop where
 h0:p0
 h1:p1
 h2:p2
structure Aj4(p0 p1 p2 p3:Prop):Prop where
 h0:p0
 h1:p1
 h2:p2
 h3:p3
structure Aj5(p0 p1 p2 p3 p4:Prop):Prop where
 h0:p0
 h1:p1
 h2:p2
 h3:p3
 h4:p4
structure Aj6(p0 p1 p2 p3 p4 p5:Prop):Prop where
 h0:p0
 h1:p1
 h2:p2
 h3:p3
 h4:p4
 h5:p5
structure Aj7(p0 p1 p2 p3 p4 p5 p6:Prop):Prop where
 h0:p0
 h1:p1
 h2:p2
 h3:p3
 h4:p4
 h5:p5
 h6:p6
structure Aj8(p0 p1 p2 p3 p4 p5 p6 p7:Prop):Prop where
 h0:p0
 h1:p1
 h2:p2
 h3:p3
 h4:p4
 h5:p5
 h6:p6
 h7:p7
structure Aj9(p0 p1 p2 p3 p4 p5 p6 p7 p8:Prop):Prop where
 h0:p0
 h1:p1
 h2:p2
 h3:p3
 h4:p4
 h5:p5
 h6:p6
 h7:p7
 h8:p8
def zar1{a b:Nat}(h:a<b):b-(a+1)<b-a:=Nat.sub_lt_sub_left h (Yv a)
def zar2{a b c d:Nat}(h:a+b≤c)(k:d<b):a+d<c:=Zw (Nat.add_lt_add_left k a) h
def zar3{a b:Nat}(h:a≤b)(k:¬a<b):a=b:=Ji h (Nat.le_of_not_lt k)
def zar4{a b:Nat}(h:a≤b):a+1≤b+1:=Nat.succ_le_succ h
def zar5{a b:Nat}(h:a<b)(k:¬a+1=b):a+1<b:=Nat.lt_of_le_of_ne h k
def zar6{a b c:Nat}(e:a=b)(h:c<b):c<a:=e▸h
def zar7{a b c:Nat}(e:a=b)(h:c<a):c<b:=e▸h
def zar8{a b:Nat}(h:(a:Int)<(b:Int)):a<b:=Int.ofNat_lt.mp h
def zar9{a b:Nat}(h:a<b):(a:Int)<(b:Int):=Int.ofNat_lt.mpr h
def zar10{a b:Nat}(h:a<b)(k:b≤a):False:=Yr _ (Zw h k)
def zd3{a b c:Nat}(h:a≤b)(e:a=c):c≤b:=e▸h
def zar14{a:Nat}(h:¬a=0):a=a-1+1:=(Nat.succ_pred h).symm
def zg0{a b:Nat}(h:a≤b):a≤b+1:=Nat.le_succ_of_le h
end
section
set_option Elab.async false
set_option linter.all false
set_option maxRecDepth 100000
namespace L2
open PySem PySem.Spec PyProof.Rows
abbrev Key:=Sum Int Str
def keyIs:Key→Value→Bool
 |.inl k,v=>Value.isInt k v
 |.inr x,v=>Value.isStrOf x v
def keyH(w:Nl):Key→Int
 |.inl k=>hashInt k
 |.inr x=>hashStr w x
theorem zbd:∀{k:Key} {v:Value},keyIs k v=true→(∃i t,k=Sum.inl i∧v=Value.int i t)∨(∃x t,k=Sum.inr x∧v=Value.str x t)
 |.inl i,v,h=>by
  obtain⟨t,e⟩:=Value.isInt_shape (k:=i) (v:=v) h
  exact .inl ⟨i,t,rfl,e⟩
 |.inr x,v,h=>by
  obtain⟨t,e⟩:=Value.isStrOf_shape (x:=x) (v:=v) h
  exact .inr ⟨x,t,rfl,e⟩
def keyIs_int(i:Int)(t:Tok):keyIs (.inl i) (.int i t)=true:=by simp[keyIs,Value.isInt]
def keyIs_str(x:Str)(t:Tok):keyIs (.inr x) (.str x t)=true:=by simp[keyIs,Value.isStrOf]
def key_ll(a b:Int):decide ((Sum.inl a:Key)=Sum.inl b)=(a==b):=by
 by_cases e:a=b
 ·subst e;simp
 ·have h:¬ (Sum.inl a:Key)=Sum.inl b:=fun q=>e (Sum.inl.inj q)
  rw[decide_eq_false h]
  exact(beq_eq_false_iff_ne.mpr e).symm
def key_rr(a b:Str):decide ((Sum.inr a:Key)=Sum.inr b)=decide (a=b):=by
 by_cases e:a=b
 ·subst e;simp
 ·have h:¬ (Sum.inr a:Key)=Sum.inr b:=fun q=>e (Ka q)
  rw[decide_eq_false h,decide_eq_false e]
def key_lr(a:Int)(b:Str):decide ((Sum.inl a:Key)=Sum.inr b)=false:=decide_eq_false (λq=>nomatch q)
def key_rl(a:Str)(b:Int):decide ((Sum.inr a:Key)=Sum.inl b)=false:=decide_eq_false (λq=>nomatch q)
def zaq(prog:Ni)(w:Nl):PySem.KeyKind prog w Key where
 is:=keyIs
 hash:=keyH w
 inj:=λv a b ha hb=>by
  rcases zbd ha with⟨i,t,rfl,rfl⟩ | ⟨x,t,rfl,rfl⟩
  ·rcases zbd hb with ⟨j,u,rfl,e⟩ | ⟨y,u,rfl,e⟩
   ·injection e with e1 _;rw[e1]
   ·exact nomatch e
  ·rcases zbd hb with ⟨j,u,rfl,e⟩ | ⟨y,u,rfl,e⟩
   ·exact nomatch e
   ·injection e with e1 _;rw[e1]
 byValue:=λk v h=>by
  rcases zbd h with⟨i,t,rfl,rfl⟩ | ⟨x,t,rfl,rfl⟩<;>rfl
 pyHash:=λhv h=>by
  rcases zbd hv with⟨i,t,rfl,rfl⟩ | ⟨x,t,rfl,rfl⟩
  ·exact wpAny_pyHash_int h
  ·exact wpAny_pyHash_str h
 eqBool:=λhu hv h=>by
  rcases zbd hu with⟨i,t,rfl,rfl⟩ | ⟨x,t,rfl,rfl⟩
  ·rcases zbd hv with ⟨j,u,rfl,rfl⟩ | ⟨y,u,rfl,rfl⟩
   ·rw[key_ll]at h;exact wpAny_eqBool_int h
   ·rw[key_lr]at h;exact SeqAt.EqAt.int_str i t y u _ _ _ _ h
  ·rcases zbd hv with ⟨j,u,rfl,rfl⟩ | ⟨y,u,rfl,rfl⟩
   ·rw[key_rl]at h;exact SeqAt.EqAt.str_int x t j u _ _ _ _ h
   ·rw[key_rr]at h;exact wpAny_eqBool_str h
 «strs»:=λk x t v h=>by
  rcases zbd h with⟨i,u,rfl,e⟩ | ⟨y,u,rfl,e⟩
  ·exact nomatch e
  ·injection e with e1 _
   subst e1
   cases v<;>rfl
def mixKind_int(prog:Ni)(w:Nl)(i:Int)(t:Tok):(zaq prog w).is (.inl i) (.int i t)=true:=keyIs_int i t
def zgj(prog:Ni)(w:Nl)(x:Str)(t:Tok):(zaq prog w).is (.inr x) (.str x t)=true:=keyIs_str x t
end L2
namespace L2
open PySem PySem.Spec PyProof.Rows
inductive V where
 |non | bl (b:Bool) | int (i:Int) | str (x:Str) | byt (b:Array UInt8) | flt (b:UInt64) | ref (a:Nc) | ty (n:String)
 deriving DecidableEq
def RelV:V→Value→Prop
 |.non,u=>u=Value.none
 |.bl b,u=>u=Value.bool b
 |.int i,u=>∃t,u=Value.int i t
 |.str x,u=>∃t,u=Value.str x t
 |.byt b,u=>∃t,u=Value.bytes b t
 |.flt b,u=>∃t,u=Value.float b t
 |.ref a,u=>u=Value.ref a
 |.ty n,u=>u=Value.type n
abbrev Vals:List V→List Value→Prop:=Paired RelV
def Vals.length{xs:List V}{us:Nh}(r:Vals xs us):xs.length=us.length:=Zt r
theorem Vals.get:∀{xs:List V} {us:Nh} {i:Nat} {x:V},Vals xs us→xs[i]?=some x→∃u,us[i]?=some u∧RelV x u
 |_,_,_,_,.nil,e=>by simp at e
 |_,_,0,_,.cons r _,e=>by simp at e;subst e;exact⟨_,rfl,r⟩
 |_,_,i+1,x,.cons _ t,e=>by
  obtain⟨u,h1,h2⟩:=Vals.get (i:=i) (x:=x) t (by simpa using e)
  exact⟨u,by simpa using h1,h2⟩
theorem Vals.set(r:RelV x u):∀{xs:List V} {us:Nh} (i:Nat),Vals xs us→Vals (xs.set i x) (us.set i u)
 |_,_,_,.nil=>.nil
 |_,_,0,.cons _ t=>.cons r t
 |_,_,i+1,.cons q t=>.cons q (Vals.set r i t)
theorem Vals.append:∀{xs ys:List V} {us ws:Nh},Vals xs us→Vals ys ws→Vals (xs++ys) (us++ws)
 |_,_,_,_,.nil,s=>s
 |_,_,_,_,.cons r t,s=>.cons r (Vals.append t s)
theorem Vals.take:∀{xs:List V} {us:Nh} (n:Nat),Vals xs us→Vals (xs.take n) (us.take n)
 |_,_,0,_=>.nil
 |_,_,_+1,.nil=>.nil
 |_,_,n+1,.cons r t=>.cons r (Vals.take n t)
theorem Vals.drop:∀{xs:List V} {us:Nh} (n:Nat),Vals xs us→Vals (xs.drop n) (us.drop n)
 |_,_,0,r=>r
 |_,_,_+1,.nil=>.nil
 |_,_,n+1,.cons _ t=>Vals.drop n t
def RelO:Option V→Option Value→Prop
 |some v,some u=>RelV v u
 |none,none=>True
 |_,_=>False
def KV{κ:Type}:List (κ×V)→List (κ×Value)→Prop:=Paired λ(p:κ×V) (q:κ×Value)=>p.1=q.1∧RelV p.2 q.2
def kV:Key→V
 |.inl i=>.int i
 |.inr x=>.str x
inductive HO where
 /-- a list -/
 |lst (xs:List V)
 /-- a tuple (never changes) -/
 |tup (xs:List V)
 /-- a dict whose keys are ints and texts;one whose keys are tuples of ints and texts (the empty one is both) -/
 |dK (kvs:List (Key×V)) | dT (kvs:List (List Key×V))
 /-- a set of ints: a8 members,a8 size -/
 |set (S:Int→Bool) (n:Nat)
 /-- an instance of the class at C,a8 dict at dx,a8 attributes -/
 |ins (C dx:Nc) (fs:List (Str×V))
 /-- the dict of the instance at x -/
 |own (x:Nc)
 /-- the dict of an exception -/
 |xd (fs:List (Str×V))
 /-- a bound method,f of x -/
 |met (f x:Nc)
 /-- a range object lo,lo+1,.. below hi -/
 |rng (lo hi:Int)
 /-- a thing that is known to the object (the script;a dict while a loop walks it): read,never written while it is so -/
 |frz (o:Obj) (u:HO)
 /-- a code object's table -/
 |tbl (ps:Array Value)
 /-- any other thing,by what is true of a8 one object (a def of one's own: SetO a S n:=HO.ext λh=>..) -/
 |ext (φ:Heap→Prop)
abbrev Hp:=Addr→Option HO
def upd(H:Hp)(a:Nc)(o:HO):Hp:=λb=>if b=a then some o else H b
def zac{H:Hp}{a:Nc}{o:HO}:upd H a o a=some o:=by unfold upd;rw[if_pos rfl]
def zad{H:Hp}{a b:Nc}{o:HO}(h:b≠a):upd H a o b=H b:=by unfold upd;rw[if_neg h]
def upd_upd:upd (upd H a o) a u=upd H a u:=by
 funext b;unfold upd;split<;>rfl
def za3{H:Hp}{a b:Nc}{o u:HO}(h:H a=some o)(h':H b=some u)(d:o≠u):a≠b:=by
 intro e;subst e;rw[h]at h';exact d (Qs h')
def zab{H:Hp}{a b:Nc}{o:HO}(h:H a=some o)(h':H b=none):a≠b:=by
 intro e;subst e;rw[h]at h';cases h'
section
variable(P:Ni)(w:Nl)
def zbo(H:Hp)(h:Nm)(a:Nc):HO→Prop
 |.lst xs=>xs.length≤sizeLine∧∃(a8:Nh) (n:Nat),Vals xs a8∧h.get? a=some {cls:=.type "list",data:=.seq a8.toArray n}
 |.tup xs=>xs.length≤sizeLine∧∃a8:List Value,Vals xs a8∧IsTup h a a8.toArray
 |.dK kvs=>kvs.length≤sizeLine∧(a==sysModules)=false∧∃vs,KV kvs vs∧h.DictOf (zaq P w) a vs
 | .dT kvs=>kvs.length≤sizeLine∧(a == sysModules)=false∧∃ xs:List (List Key×Addr×Value),
   Paired (λ(p:List Key×V) (q:List Key×Addr×Value)=>p.1=q.1∧H q.2.1=some (.tup (p.1.map kV))∧RelV p.2 q.2.2) kvs xs ∧
   ∃o es ep,h.get? a=some o∧o.ExactDict∧o.data=.dict es ep∧es.toList=xs.map (entryOfKey (tupleKind (zaq P w)))∧(xs.map (·.1)).Nodup
 |.set S n=>h.SetOf (intKind P w) a S n
 | .ins C dx fs=>H dx=some (.own a)∧fs.length≤1000∧dx≠a∧h.get? a=some (PySem.W.instObj C dx) ∧
   ∃mA,h.Ns1 dx mA∧(∀f,RelO (fs.lookup f) (mA f))∧PySem.Within mA (fs.map (·.1))
 |.own _=>∃o,h.get? a=some o
 |.xd fs=>∃mA,h.Ns1 a mA∧∀f,RelO (fs.lookup f) (mA f)
 |.rng lo hi=>∃t u v,h.get? a=some {cls:=.type "range",data:=.fields #[.int lo t,.int hi u,.int 1 v]}
 |.frz o u=>h.get? a=some o∧zbo H h a u
 |.tbl ps=>h.get? a=some {cls:=.none,data:=.fields ps}
 |.met f x=>h.get? a=some (PySem.W.methodObj (.ref f) (.ref x))
 |.ext φ=>φ h∧(∃o,h.get? a=some o)∧∀h1 h2:Heap,φ h1→(∀o,h1.get? a=some o→h2.get? a=some o)→φ h2
def HOk(H:Hp)(h:Nm):Prop:=∀a o,H a=some o→zbo P w H h a o
end
section
variable{P:Ni}{w:Nl}{H H':Hp}{h h':Nm}{a:Nc}{o:HO}
def zbo.lt(x:zbo P w H h a o):a<h.objs.size:=by
 cases o with
 |lst xs=>obtain⟨_,_,_,_,e⟩:=x;exact Qw e
 |tup xs=>obtain⟨_,_,_,p⟩:=x;exact p.lt
 |dK kvs=>obtain⟨_,_,_,_,o,_,_,e,_⟩:=x;exact Qw e
 |dT kvs=>obtain⟨_,_,_,_,o,_,_,e,_⟩:=x;exact Qw e
 |set S n=>obtain⟨o,_,_,_,e,_⟩:=x;exact Qw e
 |ins C dx fs=>obtain⟨_,_,_,e,_⟩:=x;exact Qw e
 |own y=>obtain⟨_,e⟩:=x;exact Qw e
 |xd fs=>obtain⟨_,⟨_,_,_,e,_⟩,_⟩:=x;exact Qw e
 |rng lo hi=>obtain⟨_,_,_,e⟩:=x;exact Qw e
 |frz ob u=>obtain⟨e,_⟩:=x;exact Qw e
 |tbl ps=>exact Qw (show h.get? a=some _ from x)
 |met f y=>exact Qw (show h.get? a=some _ from x)
 |ext φ=>obtain⟨_,⟨_,e⟩,_⟩:=x;exact Qw e
theorem Paired.mapP{α β:Type}{F G:α→β→Prop}:∀{l₁:List α} {l₂:List β},Paired F l₁ l₂→(∀a b,F a b→G a b)→Paired G l₁ l₂
 |_,_,.nil,_=>.nil
 |_,_,.cons r t,f=>.cons (f _ _ r) (Paired.mapP t f)
def Paired.imp'{α β:Type}{F G:α→β→Prop}(f:∀a b,F a b→G a b){l₁:List α}{l₂:List β}(r:Paired F l₁ l₂):Paired G l₁ l₂:=Paired.mapP r f
def zbo.stay(x:zbo P w H h a o)(k:∀b u,(b=a∨H b=some (.own a))→h.get? b=some u→h'.get? b=some u)(ho:∀b,H b=some (.own a)→H' b=some (.own a))(ht:∀b xs,H b=some (.tup xs)→H' b=some (.tup xs)):zbo P w H' h' a o:=by
 induction o with
 |lst xs=>obtain⟨z,a8,n,r,e⟩:=x;exact⟨z,a8,n,r,k _ _ (.inl rfl) e⟩
 |tup xs=>obtain⟨z,a8,r,ob,e,c⟩:=x;exact⟨z,a8,r,ob,k _ _ (.inl rfl) e,c⟩
 |dK kvs=>obtain⟨z,y,vs,r,ob,es,ep,e,c⟩:=x;exact⟨z,y,vs,r,ob,es,ep,k _ _ (.inl rfl) e,c⟩
 |dT kvs =>
  obtain⟨z,y,xs,r,ob,es,ep,e,c⟩:=x
  exact⟨z,y,xs,Paired.mapP r λp q z=>⟨z.1,ht _ _ z.2.1,z.2.2⟩,ob,es,ep,k _ _ (.inl rfl) e,c⟩
 |set S n=>obtain⟨ob,es,ep,t,e,c⟩:=x;exact⟨ob,es,ep,t,k _ _ (.inl rfl) e,c⟩
 |ins C dx fs =>
  obtain⟨d,z,ne,e,mA,⟨od,es,ep,e2,c⟩,r⟩:=x
  exact⟨ho _ d,z,ne,k _ _ (.inl rfl) e,mA,⟨od,es,ep,k _ _ (.inr d) e2,c⟩,r⟩
 |own y=>obtain⟨ob,e⟩:=x;exact⟨ob,k _ _ (.inl rfl) e⟩
 |xd fs=>obtain⟨mA,⟨od,es,ep,e,c⟩,r⟩:=x;exact⟨mA,⟨od,es,ep,k _ _ (.inl rfl) e,c⟩,r⟩
 |rng lo hi=>obtain⟨t,u,v,e⟩:=x;exact⟨t,u,v,k _ _ (.inl rfl) e⟩
 |frz ob u ih=>obtain⟨e,q⟩:=x;exact⟨k _ _ (.inl rfl) e,ih q⟩
 |tbl ps =>
  have e:h.get? a=some {cls:=.none,data:=.fields ps}:=x
  show h'.get? a=some {cls:=.none,data:=.fields ps}
  exact k a _ (.inl rfl) e
 |met f y =>
  have e:h.get? a=some (PySem.W.methodObj (.ref f) (.ref y)):=x
  show h'.get? a=some (PySem.W.methodObj (.ref f) (.ref y))
  exact k a _ (.inl rfl) e
 |ext φ=>obtain⟨p,⟨o,e⟩,st⟩:=x;exact⟨st _ _ p λo q=>k _ _ (.inl rfl) q,⟨o,k _ _ (.inl rfl) e⟩,st⟩
def HOk.lt(x:HOk P w H h)(e:H a=some o):a<h.objs.size:=(x a o e).lt
def HOk.fresh(x:HOk P w H h)(e:h.objs.size≤a):H a=none:=by
 cases q:H a with
 |none=>rfl
 |some u=>exact absurd (Zw (x.lt q) e) (Yr _)
def HOk.kept(x:HOk P w H h)(k:∀b u,h.get? b=some u→h'.get? b=some u):HOk P w H h':=λa o e =>
 (x a o e).stay (λb u _ q=>k b u q) (λ_ q=>q) λ_ _ q=>q
def HOk.laid(x:HOk P w H h)(k:∀b u,h.get? b=some u→h'.get? b=some u)(hp:h.objs.size≤a)(new:zbo P w (upd H a o) h' a o):HOk P w (upd H a o) h':=λb u e=>by
 have hn:=x.fresh hp
 by_cases hb:b=a
 ·subst hb;rw[zac]at e;cases e;exact new
 ·rw [zad hb] at e
  exact(x b u e).stay (λc v _ q=>k c v q) (λc q=>by rw[zad (zab q hn)];exact q) λc xs q=>by rw[zad (zab q hn)];exact q
end
def Rd(H:Hp)(a:Nc)(u:HO):Prop:=H a=some u∨∃o,H a=some (.frz o u)
def Rd.ok{P:Ni}{w:Nl}{H:Hp}{h:Nm}{a:Nc}{u:HO}(r:Rd H a u)(x:HOk P w H h):zbo P w H h a u:=by
 rcases r with r | ⟨o,r⟩
 ·exact x a u r
 ·obtain ⟨_,q⟩:=x a _ r
  exact q
def Mut:Option HO→Prop
 |some (.lst _)=>True
 |some (.dK _)=>True
 |some (.dT _)=>True
 |some (.set _ _)=>True
 |some (.ins _ _ _)=>True
 |some (.ext _)=>True
 |_=>False
section
variable{P:Ni}{w:Nl}{H:Hp}{h h':Nm}{x e:Nc}{o':HO}
def HOk.write(ok:HOk P w H h)(mu:Mut (H x))(he:e=x∨H e=some (.own x))(k:∀ b u,b≠e→h.get? b=some u→h'.get? b=some u)(km:∃ u,h'.get? e=some u)(new:zbo P w (upd H x o') h' x o'):HOk P w (upd H x o') h':=λb u q=>by
 have nown:∀c y,H c=some (.own y)→c≠x:=λc y r z=>by subst z;rw[r]at mu;exact mu
 have ntup:∀c xs,H c=some (.tup xs)→c≠x:=λc xs r z=>by subst z;rw[r]at mu;exact mu
 by_cases hb:b=x
 ·subst hb;rw[zac]at q;cases q;exact new
 ·rw [zad hb] at q
  by_cases jz:b=e
  ·have q':H b=some (.own x):=by
    rcases he with z | z
    ·exact absurd (jz.trans z) hb
    ·rw[jz];exact z
   rw[q]at q';cases q'
   obtain⟨v,hv⟩:=km
   exact⟨v,by rw[jz];exact hv⟩
  ·refine (ok b u q).stay (fun c v hc r=>k c v ?_ r) (fun c r=>by rw [zad (nown c b r)];exact r) fun c xs r=>by rw [zad (ntup c xs r)];exact r
   rcases hc with rfl | hc
   ·exact jz
   ·rintro rfl
    rcases he with z | z
    ·exact nown c b hc z
    ·rw[hc]at z;cases z;exact hb rfl
end
structure Un(fs ex:Nk)(H H':Hp)(h h':Nm):Prop where
 keep:∀b o,h.get? b=some o→H b=none→b∉fs→b∉ex→h'.get? b=some o
 slot:∀b o,h.get? b=some o→H b=none→b∈fs→b∉ex→∃sl,h'.get? b=some {o with slots:=sl}
 free:∀b o,h.get? b=some o→H b=none→b∉ex→H' b=none
 there:∀b o,h.get? b=some o→b∉ex→∃o',h'.get? b=some o'
 tups:∀b xs,H b=some (.tup xs)→H' b=some (.tup xs)
 frzs:∀b o u,H b=some (.frz o u)→H' b=some (.frz o u)
 tbls:∀b ps,H b=some (.tbl ps)→∃more,H' b=some (.tbl (ps++more))
section
variable{fs oO ex ex':Nk}{H H1 H2:Hp}{h h1 h2 h':Nm}{a x e:Nc}{o:HO}
def Un.any(u:Un fs ex H H1 h h1){b:Nc}{ob:Obj}(q:h.get? b=some ob)(n:H b=none)(hx:b∉ex):∃sl,h1.get? b=some {ob with slots:=sl}:=by
 by_cases hb:b∈fs
 ·exact u.slot b ob q n hb hx
 ·exact⟨ob.slots,u.keep b ob q n hb hx⟩
def Un.kept(k:∀b u,h.get? b=some u→h'.get? b=some u):Un fs ex H H h h' :=
 ⟨λb ob q _ _ _=>k b ob q,λb ob q _ _ _=>⟨ob.slots,k b ob q⟩,λ_ _ _ n _=>n,λb ob q _=>⟨ob,k b ob q⟩,λ_ _ q=>q,λ_ _ _ q=>q,λ_ ps q=>⟨#[],by rw[q];simp⟩⟩
def Un.refl:Un fs ex H H h h:=Un.kept λ_ _ q=>q
theorem Un.laid(k:∀b u,h.get? b=some u→h'.get? b=some u)(hp:h.objs.size≤a)(hn:H a=none):Un fs ex H (upd H a o) h h' where
 keep:=λb u q _ _ _=>k b u q
 slot:=λb u q _ _ _=>⟨u.slots,k b u q⟩
 free:=λb u q n _=>by rw[zad (Zk (Zw (Qw q) hp))];exact n
 there:=λb u q _=>⟨u,k b u q⟩
 tups:=λb xs q=>by rw[zad (zab q hn)];exact q
 frzs:=λb u xs q=>by rw[zad (zab q hn)];exact q
 tbls:=λb ps q=>⟨#[],by rw[zad (zab q hn),q];simp⟩
def Un.write(mu:Mut (H x))(he:e=x∨H e=some (.own x))(k:∀b u,b≠e→h.get? b=some u→h'.get? b=some u)(km:∃u,h'.get? e=some u):Un fs ex H (upd H x o) h h':=by
 have hx:∀b,H b=none→b≠x:=λb n z=>by subst z;rw[n]at mu;exact mu
 have hb:∀b,H b=none→b≠e:=λb n z=>by
  subst z
  rcases he with r | r
  ·exact hx b n r
  ·rw[n]at r;cases r
 have hm:∀b u,H b=some u→¬Mut (some u)→b≠x:=λb u q nm z=>by subst z;rw[q]at mu;exact nm mu
 refine⟨λb u q n _ _=>k b u (hb b n) q,λb u q n _ _=>⟨u.slots,k b u (hb b n) q⟩,λb u q n _=>by rw[zad (hx b n)];exact n,λb u q _=>?_,
  λb xs q=>by rw[zad (hm b _ q λz=>z)];exact q,λb u xs q=>by rw[zad (hm b _ q λz=>z)];exact q,λb ps q=>⟨#[],by rw[zad (hm b _ q λz=>z),q];simp⟩⟩
 by_cases jz:b=e
 ·subst jz;exact km
 ·exact⟨u,k b u jz q⟩
end
def trk(h:Nm)(H:Hp):List Addr:=(List.range h.objs.size).filter λa=>(H a).isSome
def hidT(h:Nm)(H:Hp):Heap:=PySem.W.hideAll h (trk h H)
def hidT_size(h:Nm)(H:Hp):(hidT h H).objs.size=h.objs.size:=PySem.W.hideAll_size _ _
def hidT_get{h:Nm}{H:Hp}{b:Nc}{o:Obj}(e:h.get? b=some o)(n:H b=none):(hidT h H).get? b=some o :=
 PySem.W.hideAll_get _ e λhm=>by
  have q:(H b).isSome=true:=(Jt.mp hm).2
  rw[n]at q;simp at q
def of_hidT{h:Nm}{H:Hp}{b:Nc}{o:Obj}(e:(hidT h H).get? b=some o):h.get? b=some o∧H b=none:=by
 have e':h.get? b=some o:=PySem.W.of_hideAll (trk h H) e
 refine⟨e',?_⟩
 cases q:H b with
 |none=>rfl
 |some x =>
  have hm:b∈trk h H:=Jt.mpr ⟨Yq.mpr (Qw e'),by simp[q]⟩
  have z:(hidT h H).get? b=none:=PySem.W.hideAll_none (trk h H) hm
  rw[z]at e;cases e
end L2
namespace L2
open PySem PySem.Spec PyProof.Rows
structure Mod(K:Na)(mg:Nf)(base:Nm):Prop where
 kin:K.In base
 glob:base.Ns mainGlobals mg
 blt:∃mb,base.Ns builtinsNs mb∧∀x:Str,x ≠ "__name__" → mb x=bootBuiltins x
 nolimit:base.NoLimit
structure Cx where
 prog:Program
 w:World
 K:PySem.W.Frag
 mg:Str→Option Value
 base:Heap
 A:Around
 N:List Str
 s₀:Shared
 H₀:Hp
 env:Env
 outer:List Env
 stack:List Env
 ex:List Addr
 fn:Str→Bool
 calm:Bool
 pn:List (Addr×Obj)
 xe:Value→Shared→Prop
def frs(l:List Env):List Addr:=l.filterMap (·.frame)
abbrev Cx.fs(X:Cx):List Addr:=frs X.outer
def Vis(sc:Scope)(x:Str):Prop:=sc.names.lookup x=some .local∨sc.names.lookup x=some .cell∨sc.names.lookup x=some .free
def Loc(sc:Scope)(x:Str):Prop:=sc.names.lookup x=some .local∨sc.names.lookup x=some .cell
def Look(env:Env)(h:Nm)(m:Nf)(x:Str)(u:Value):Prop :=
 (env.kindOf x=some .local∧m x=some u)∨((env.kindOf x=some .cell∨env.kindOf x=some .free)∧∃c,env.cells.lookup x=some c∧h.IsCell c (some u))
structure Cx.Ok(X:Cx):Prop where
 mod:Mod X.K X.mg X.base
 kind:X.env.scope.kind=.function
 glob:X.env.globals=mainGlobals
 blt:X.env.builtins=builtinsNs
 above:X.s₀.heap.objs.size≤X.env.locals
 inj:∀x y c,X.env.cells.lookup x=some c→X.env.cells.lookup y=some c→x=y
 has:∀x,(X.env.kindOf x=some .cell∨X.env.kindOf x=some .free)→∃c,X.env.cells.lookup x=some c
 cab:∀x c,X.fn x=true→X.env.cells.lookup x=some c→X.s₀.heap.objs.size≤c
 hd:X.calm=true→X.A.handled=none
 frames:X.A.frames=some X.stack
 stk:X.stack=X.outer∨(X.stack=X.env::X.outer∧X.env.frame=some X.env.locals)
 exf:∀b∈X.ex,b≠X.env.locals∧∀x c,X.env.cells.lookup x=some c→c≠b
 bs:∀b o,X.base.get? b=some o→X.s₀.heap.get? b=some o∧X.H₀ b=none
 bsz:X.base.objs.size≤X.s₀.heap.objs.size
 noex:∀b o,X.base.get? b=some o→b∉X.ex
 exfs:∀b∈X.ex,b∉X.fs
 funs:X.s₀.heap.FunFrames X.base X.outer
 frf:∀b∈X.fs,X.H₀ b=none
structure Inv(X:Cx)(a7:Nd)(σ:List (Option V))(H:Hp)(s:Ng):Prop where
 ok:X.Ok
 os:s.os=X.s₀.os
 bare:AllBare s.gens
 base:Un X.fs X.ex X.H₀ H X.s₀.heap s.heap
 loc:∃m,s.heap.Ns X.env.locals m∧∀(i:Nat) (x:Str) (v:V),X.N[i]?=some x→σ[i]?=some (some v)→Vis X.env.scope x→∃u,RelV v u∧Look X.env s.heap m x u
 cell:∀x c,X.env.cells.lookup x=some c→∃v,s.heap.IsCell c v
 free:H X.env.locals=none
 freeC:∀x c,X.env.cells.lookup x=some c→H c=none
 pin:∀p∈X.pn++a7,s.heap.get? p.1=some p.2∧H p.1=none∧p.1≠X.env.locals∧p.1∉X.fs∧∀v,p.2.data≠.cell v
 hok:HOk X.prog X.w H s.heap
 len:σ.length=X.N.length
section
variable{X:Cx}{a7:Nd}{σ:List (Option V)}{H H':Hp}{s:Ng}{h':Nm}
def Cx.Ok.nofr(ok:X.Ok)(e:X.base.get? b=some o):b∉X.fs:=λhb=>by
 have:=(ok.funs.mem hb).1
 rw[e]at this;cases this
def Inv.bs(I:Inv X a7 σ H s):∀b o,X.base.get? b=some o→s.heap.get? b=some o∧H b=none:=λb o e =>
 ⟨I.base.keep b o (I.ok.bs b o e).1 (I.ok.bs b o e).2 (I.ok.nofr e) (I.ok.noex b o e),I.base.free b o (I.ok.bs b o e).1 (I.ok.bs b o e).2 (I.ok.noex b o e)⟩
def Inv.bk(I:Inv X a7 σ H s):∀b o,X.base.get? b=some o→s.heap.get? b=some o:=λb o e=>(I.bs b o e).1
def Inv.mod(I:Inv X a7 σ H s):Mod X.K X.mg X.base:=I.ok.mod
def Inv.kIn(I:Inv X a7 σ H s):X.K.In s.heap:=I.ok.mod.kin.keeps I.bk
def Inv.lt(I:Inv X a7 σ H s):X.env.locals<s.heap.objs.size:=let⟨_,hn,_⟩:=I.loc;hn.lt
def Inv.sz(I:Inv X a7 σ H s):X.s₀.heap.objs.size≤s.heap.objs.size:=Zi I.ok.above (Zo I.lt)
def Inv.nofs(I:Inv X a7 σ H s)(h:s.heap.objs.size≤a):a∉X.fs:=λhb=>by
 obtain⟨_,o,ho,_⟩:=I.ok.funs.mem hb
 exact absurd (Zw (Qw ho) (Zi I.sz h)) (Yr _)
def Inv.cne(I:Inv X a7 σ H s):∀x c,X.env.cells.lookup x=some c→c≠X.env.locals:=λx c e z=>by
 obtain⟨v,o,ho,hd⟩:=I.cell x c e
 obtain⟨m,⟨o',es,ep,aG,fk,_⟩,_⟩:=I.loc
 rw[z,aG]at ho;cases ho;rw[fk]at hd;cases hd
def Inv.funs(I:Inv X a7 σ H s):s.heap.FunFrames X.base X.outer:=by
 have all:∀(l:List Env),(∀b∈frs l,b∈X.fs)→X.s₀.heap.FunFrames X.base l→s.heap.FunFrames X.base l:=by
  intro l
  induction l with
  |nil=>intro _ _;trivial
  |cons env r ih =>
   intro hs hl
   obtain⟨hk,⟨L,o,hf,hn,ho,hd⟩,hr⟩:=hl
   have hL:L∈X.fs:=hs L (by unfold frs;rw[List.filterMap_cons,hf];exact List.mem_cons_self)
   obtain⟨sl,e⟩:=I.base.slot L o ho (I.ok.frf L hL) hL λz=>I.ok.exfs L z hL
   exact⟨hk,⟨L,_,hf,hn,e,hd⟩,ih (λb hb=>hs b (by unfold frs;rw[List.filterMap_cons,hf];exact List.mem_cons_of_mem _ hb)) hr⟩
 exact all X.outer (λ_ hb=>hb) I.ok.funs
def Inv.stack(I:Inv X a7 σ H s):s.heap.FunFrames X.base X.stack:=by
 rcases I.ok.stk with e | ⟨e,hf⟩
 ·rw[e];exact I.funs
 ·rw [e]
  obtain⟨m,hn,_⟩:=I.loc
  refine .cons (by rw[I.ok.kind];decide) hf hn ?_ I.funs
  exact Heap.get?_none_of_le (Zi I.ok.bsz I.ok.above)
def Inv.stkSub(I:Inv X a7 σ H s):∀b∈frs X.stack,b∈X.env.locals::X.fs:=λb hb=>by
 rcases I.ok.stk with e | ⟨e,hf⟩
 ·rw[e]at hb;exact Qg _ hb
 ·rw [e] at hb
  unfold frs at hb
  rw[List.filterMap_cons,hf]at hb
  exact hb
def Inv.stkFree(I:Inv X a7 σ H s):∀b∈frs X.stack,H b=none:=λb hb=>by
 rcases Qh.mp (I.stkSub b hb) with e | hb
 ·rw[e];exact I.free
 ·obtain ⟨_,o,ho,_⟩:=I.ok.funs.mem hb
  exact I.base.free b o ho (I.ok.frf b hb) λz=>I.ok.exfs b z hb
def Inv.step{g':Array GenState}{t':Nat}{d':Drawn}{ch:Nk}(I:Inv X a7 σ H s)(fQ:∀b∈ch,(b∈X.ex∨X.s₀.heap.objs.size≤b)∧b≠X.env.locals∧(∀x c,X.env.cells.lookup x=some c→c≠b)∧∀p∈X.pn++a7,p.1≠b)(keep:∀b o,b≠X.env.locals→b∉X.fs→b∉ch→s.heap.get? b=some o→H b=none→h'.get? b=some o)(slot:∀b o,b≠X.env.locals→b∈X.fs→b∉ch→s.heap.get? b=some o→H b=none→∃sl,h'.get? b=some {o with slots:=sl})(free:∀b o,b∉ch→s.heap.get? b=some o→H b=none→H' b=none)(there:∀b o,b∉ch→s.heap.get? b=some o→∃o',h'.get? b=some o')(tups:∀b xs,H b=some (.tup xs)→H' b=some (.tup xs))(frzs:∀b o u,H b=some (.frz o u)→H' b=some (.frz o u))(tbls:∀b ps,H b=some (.tbl ps)→∃more,H' b=some (.tbl (ps++more)))(ns:∀m,s.heap.Ns X.env.locals m→h'.Ns X.env.locals m)(hok:HOk X.prog X.w H' h')(hg:AllBare g') :
  Inv X a7 σ H' {s with heap:=h',gens:=g',drawn:=d',toks:=t'}:=by
 have neL:∀b o,X.s₀.heap.get? b=some o→b≠X.env.locals:=λb o e=>Zk (Zw (Qw e) I.ok.above)
 have neC:∀b o,X.s₀.heap.get? b=some o→b∉X.ex→b∉ch:=λb o e hx hb=>by
  rcases(fQ b hb).1 with z | z
  ·exact hx z
  ·exact absurd (Zw (Qw e) z) (Yr _)
 have cellK:∀x c,X.env.cells.lookup x=some c→∀v,s.heap.IsCell c v→h'.IsCell c v:=λx c e v ⟨o,ho,hd⟩=>by
  have nch:c∉ch:=λz=>(fQ c z).2.2.1 x c e rfl
  by_cases hc:c∈X.fs
  ·obtain ⟨sl,q⟩:=slot c o (I.cne x c e) hc nch ho (I.freeC x c e)
   exact⟨_,q,hd⟩
  ·exact⟨o,keep c o (I.cne x c e) hc nch ho (I.freeC x c e),hd⟩
 refine⟨I.ok,I.os,hg,⟨λb o e n hb hx=>?_,λb o e n hb hx=>?_,λb o e n hx=>?_,λb o e hx=>?_,λb xs e=>tups b xs (I.base.tups b xs e),λb o xs e=>frzs b o xs (I.base.frzs b o xs e),λb ps e=>?_⟩,?_,λx c e=>?_,?_,λx c e=>?_,λp hp=>?_,hok,I.len⟩
 ·exact keep b o (neL b o e) hb (neC b o e hx) (I.base.keep b o e n hb hx) (I.base.free b o e n hx)
 ·obtain ⟨sl,e1⟩:=I.base.slot b o e n hb hx
  obtain⟨jN,e2⟩:=slot b _ (neL b o e) hb (neC b o e hx) e1 (I.base.free b o e n hx)
  exact⟨jN,e2⟩
 ·obtain ⟨o',e1⟩:=I.base.there b o e hx
  exact free b o' (neC b o e hx) e1 (I.base.free b o e n hx)
 ·obtain ⟨o',e1⟩:=I.base.there b o e hx
  exact there b o' (neC b o e hx) e1
 ·obtain ⟨m1,e1⟩:=I.base.tbls b ps e
  obtain⟨m2,e2⟩:=tbls b _ e1
  exact⟨m1++m2,by rw[e2,Array.append_assoc]⟩
 ·obtain ⟨m,hn,hl⟩:=I.loc
  refine⟨m,ns m hn,λi x v e1 e2 e3=>?_⟩
  obtain⟨u,r,l⟩:=hl i x v e1 e2 e3
  refine⟨u,r,?_⟩
  rcases l with l | ⟨k,c,e,z⟩
  ·exact .inl l
  ·exact .inr ⟨k,c,e,cellK x c e _ z⟩
 ·obtain ⟨v,z⟩:=I.cell x c e
  exact⟨v,cellK x c e v z⟩
 ·obtain ⟨m,⟨o,_,_,ho,_⟩,_⟩:=I.loc
  exact free _ o (λz=>(fQ _ z).2.1 rfl) ho I.free
 ·obtain ⟨v,o,ho,hd⟩:=I.cell x c e
  exact free c o (λz=>(fQ c z).2.2.1 x c e rfl) ho (I.freeC x c e)
 ·obtain ⟨e,n,ne,nf,d⟩:=I.pin p hp
  have nch:p.1∉ch:=λz=>(fQ p.1 z).2.2.2 p hp rfl
  exact⟨keep p.1 p.2 ne nf nch e n,free p.1 p.2 nch e n,ne,nf,d⟩
def Inv.un{t':Nat}(I:Inv X a7 σ H s)(u:Un X.fs [] H H' s.heap h')(hok:HOk X.prog X.w H' h'):Inv X a7 σ H' {s with heap:=h',toks:=t'}:=by
 obtain⟨m,⟨o,es,ep,ho,r⟩,_⟩:=id I.loc
 obtain⟨sl,hL⟩:=u.any ho I.free (by simp)
 exact I.step (g':=s.gens) (d':=s.drawn) (ch:=[]) (λ_ z=>nomatch z) (λb o _ hb _ e n=>u.keep b o e n hb (by simp)) (λb o _ hb _ e n=>u.slot b o e n hb (by simp)) (λb o _ e n=>u.free b o e n (by simp)) (λb o _ e=>u.there b o e (by simp)) u.tups u.frzs u.tbls (λm' hm=>by
  obtain⟨o',ce,ep',aG,r'⟩:=hm
  rw[ho]at aG;cases aG
  exact⟨_,ce,ep',hL,r'⟩) hok I.bare
def Inv.call{g':Array GenState}{t':Nat}{d':Drawn}{ch:Nk}(I:Inv X a7 σ H s)(u:Un (frs X.stack) ch H H' s.heap h')(hok:HOk X.prog X.w H' h')(hg:AllBare g')(fQ:∀b∈ch,(b∈X.ex∨X.s₀.heap.objs.size≤b)∧b≠X.env.locals∧(∀x c,X.env.cells.lookup x=some c→c≠b)∧∀p∈X.pn++a7,p.1≠b) :
  Inv X a7 σ H' {s with heap:=h',gens:=g',drawn:=d',toks:=t'}:=by
 obtain⟨m,⟨o,es,ep,ho,r⟩,_⟩:=id I.loc
 obtain⟨sl,hL⟩:=u.any ho I.free λz=>(fQ _ z).2.1 rfl
 exact I.step (ch:=ch) fQ (λb o hL hb hc e n=>u.keep b o e n (λz=>(Qh.mp (I.stkSub b z)).elim hL hb) hc) (λb o _ _ hc e n=>u.any e n hc) (λb o hc e n=>u.free b o e n hc) (λb o hc e=>u.there b o e hc) u.tups u.frzs u.tbls (λm' hm=>by
  obtain⟨o',ce,ep',aG,r'⟩:=hm
  rw[ho]at aG;cases aG
  exact⟨_,ce,ep',hL,r'⟩) hok hg
def Inv.turned{t':Nat}{it:Nc}(I:Inv X a7 σ H s)(k:∀b o,b≠it→s.heap.get? b=some o→h'.get? b=some o)(hn:H it=none)(hL:it≠X.env.locals)(h1:it∈X.ex∨X.s₀.heap.objs.size≤it)(h2:∀x c,X.env.cells.lookup x=some c→c≠it)(h3:∀p∈X.pn++a7,p.1≠it):Inv X a7 σ H {s with heap:=h',toks:=t'}:=by
 have nit:∀b u,H b=some u→b≠it:=λb u e z=>by rw[z,hn]at e;cases e
 refine I.step (g':=s.gens) (d':=s.drawn) (ch:=[it]) (λb hb=>?_) (λb o _ _ hc e _=>k b o (λz=>hc (by simp[z])) e) (λb o _ _ hc e _=>⟨o.slots,k b o (λz=>hc (by simp[z])) e⟩) (λ_ _ _ _ n=>n)
  (λb o hc e=>⟨o,k b o (λz=>hc (by simp[z])) e⟩) (λ_ _ e=>e) (λ_ _ _ e=>e) (λb ps e=>⟨#[],by rw[e];simp⟩) (λm hm=>?_) (λb u e=>?_) I.bare
 ·have e:b=it:=by simpa using hb
  subst e
  exact⟨h1,hL,h2,h3⟩
 ·obtain ⟨o,es,ep,ho,r⟩:=hm
  exact⟨o,es,ep,k _ o (Zn hL) ho,r⟩
 ·refine (I.hok b u e).stay (fun c v hc q=>k c v ?_ q) (fun _ q=>q) fun _ _ q=>q
  rcases hc with z | z
  ·rw[z];exact nit b u e
  ·exact nit c _ z
def Inv.tok(I:Inv X a7 σ H s)(t:Nat):Inv X a7 σ H {s with toks:=t}:=I.un (h':=s.heap) (t':=t) Un.refl I.hok
def Inv.kept{t':Nat}(I:Inv X a7 σ H s)(k:∀b u,s.heap.get? b=some u→h'.get? b=some u):Inv X a7 σ H {s with heap:=h',toks:=t'}:=I.un (Un.kept k) (I.hok.kept k)
def Inv.laid(I:Inv X a7 σ H s)(k:∀b u,s.heap.get? b=some u→h'.get? b=some u)(hp:s.heap.objs.size≤a)(new:zbo X.prog X.w (upd H a o) h' a o) :
  Inv X a7 σ (upd H a o) {s with heap:=h',toks:=t'}:=I.un (Un.laid k hp (I.hok.fresh hp)) (I.hok.laid k hp new)
def Inv.write(I:Inv X a7 σ H s)(mu:Mut (H x))(he:e=x∨H e=some (.own x))(k:∀b u,b≠e→s.heap.get? b=some u→h'.get? b=some u)(km:∃u,h'.get? e=some u)(new:zbo X.prog X.w (upd H x o) h' x o):Inv X a7 σ (upd H x o) {s with heap:=h',toks:=t'}:=I.un (Un.write mu he k km) (I.hok.write mu he k km new)
def Inv.pins_of(I:Inv X a7 σ H s)(h:∀p∈pins',s.heap.get? p.1=some p.2∧H p.1=none∧p.1≠X.env.locals∧p.1∉X.fs∧∀v,p.2.data≠.cell v):Inv X pins' σ H s :=
 ⟨I.ok,I.os,I.bare,I.base,I.loc,I.cell,I.free,I.freeC,λp hp=>(Qf.mp hp).elim (λz=>I.pin p (Qv _ z)) (h p),I.hok,I.len⟩
def zia{N:Nj}(hN:N.Nodup){i j:Nat}{x:Str}(a:N[i]?=some x)(b:N[j]?=some x):i=j:=by
 obtain⟨h1,e1⟩:=Zd.mp a
 obtain⟨h2,e2⟩:=Zd.mp b
 exact(Wn hN).mp (e1.trans e2.symm)
def zfw{M:Model}{A:Nn}{E:Nb}{i:Nat}{x:Str}{v:V}{u:Value}{Q:Unit→Shared→Prop}(I:Inv X a7 σ H s)(hN:X.N.Nodup)(hi:X.N[i]?=some x)(hx:Loc X.env.scope x)(r:RelV v u)(h:∀s',Inv X a7 (σ.set i (some v)) H s'→(∃a,Heap.SameBut a s.heap s'.heap∧(a=X.env.locals∨X.env.cells.lookup x=some a))→Q () s')(hf:X.fn x=true∨X.env.scope.names.lookup x=some .local:=by first | exact .inl rfl | exact .inr rfl | assumption):wpAny M A (storeName X.env x u) Q E s:=by
 obtain⟨m,hn,hl⟩:=id I.loc
 have jx:(X.env.scope.kind==.class||(X.env.scope.kind==.module&&X.env.locals != X.env.globals))=false:=by rw[I.ok.kind];rfl
 have hiσ:i<σ.length:=by rw[I.len];exact(Zd.mp hi).1
 have cne:=I.cne
 have tracked:∀{a:Nc} {h':Nm},(∃o,s.heap.get? a=some o∧H a=none)→Heap.SameBut a s.heap h'→HOk X.prog X.w H h':=λ{a h'} ha hs b ob e=>by
  obtain⟨_,_,bn⟩:=ha
  refine(I.hok b ob e).stay (λc w' hc q=>(hs.2 c ?_).trans q) (λ_ q=>q) λ_ _ q=>q
  rintro rfl
  rcases hc with rfl | hc
  ·rw[bn]at e;cases e
  ·rw[bn]at hc;cases hc
 rcases hx with hk | hk
 ·refine wpAny_storeName_local hk hn (fun h' qW hs=>?_) jx
  obtain⟨oL,_,_,hoL,_⟩:=id hn
  refine h _ ⟨I.ok,I.os,I.bare,⟨λb o e n hb hx=>?_,λb o e n hb hx=>?_,I.base.free,λb o e hx=>?_,I.base.tups,I.base.frzs,I.base.tbls⟩,⟨_,qW,λj y v' e1 e2 e3=>?_⟩,λy c e=>?_,I.free,I.freeC,λp hp=>?_,tracked ⟨oL,hoL,I.free⟩ hs,by simpa using I.len⟩ ⟨_,hs,.inl rfl⟩
  ·exact(hs.2 b (Zk (Zw (Qw e) I.ok.above))).trans (I.base.keep b o e n hb hx)
  ·obtain ⟨sl,e1⟩:=I.base.slot b o e n hb hx
   exact⟨sl,(hs.2 b (Zk (Zw (Qw e) I.ok.above))).trans e1⟩
  ·obtain ⟨o',e1⟩:=I.base.there b o e hx
   exact⟨o',(hs.2 b (Zk (Zw (Qw e) I.ok.above))).trans e1⟩
  ·by_cases hj:j=i
   ·subst hj
    rw[hi]at e1;cases e1
    rw[List.getElem?_set_self hiσ]at e2
    cases e2
    exact⟨u,r,.inl ⟨hk,by simp⟩⟩
   ·rw [List.getElem?_set_ne (Zn hj)] at e2
    obtain⟨u',r',q⟩:=hl j y v' e1 e2 e3
    refine⟨u',r',?_⟩
    rcases q with⟨k,e⟩ | ⟨k,c,e,z⟩
    ·refine .inl ⟨k,?_⟩
     have:y≠x:=λe=>hj (zia hN e1 (e▸hi))
     simp[this,e]
    ·exact .inr ⟨k,c,e,z.sameBut hs (cne y c e)⟩
  ·obtain ⟨w',z⟩:=I.cell y c e
   exact⟨w',z.sameBut hs (cne y c e)⟩
  ·obtain ⟨e,n,ne,nf,d⟩:=I.pin p hp
   exact⟨(hs.2 p.1 ne).trans e,n,ne,nf,d⟩
 ·have rN:X.fn x=true:=by
   rcases hf with z | z
   ·exact z
   ·rw[z]at hk;cases hk
  obtain⟨c,hc⟩:=I.ok.has x (.inl hk)
  obtain⟨w',z⟩:=I.cell x c hc
  refine wpAny_storeName_cell I.ok.kind hk hc z (λh' bZ hs=>?_)
  obtain⟨oc,hoc,qQ⟩:=id z
  refine h {s with heap:=h'} ⟨I.ok,I.os,I.bare,⟨λb o e n hb hx=>?_,λb o e n hb hx=>?_,I.base.free,λb o e hx=>?_,I.base.tups,I.base.frzs,I.base.tbls⟩,⟨m,hn.sameBut hs (Zn (cne x c hc)),λj y v' e1 e2 e3=>?_⟩,λy c' e=>?_,I.free,I.freeC,λp hp=>?_,tracked ⟨oc,hoc,I.freeC x c hc⟩ hs,by simpa using I.len⟩ ⟨c,hs,.inr hc⟩
  ·exact(hs.2 b (Zk (Zw (Qw e) (I.ok.cab x c rN hc)))).trans (I.base.keep b o e n hb hx)
  ·obtain ⟨sl,e1⟩:=I.base.slot b o e n hb hx
   exact⟨sl,(hs.2 b (Zk (Zw (Qw e) (I.ok.cab x c rN hc)))).trans e1⟩
  ·obtain ⟨o',e1⟩:=I.base.there b o e hx
   exact⟨o',(hs.2 b (Zk (Zw (Qw e) (I.ok.cab x c rN hc)))).trans e1⟩
  ·by_cases hj:j=i
   ·subst hj
    rw[hi]at e1;cases e1
    rw[List.getElem?_set_self hiσ]at e2
    cases e2
    exact⟨u,r,.inr ⟨.inl hk,c,hc,bZ⟩⟩
   ·rw [List.getElem?_set_ne (Zn hj)] at e2
    obtain⟨u',r',q⟩:=hl j y v' e1 e2 e3
    refine⟨u',r',?_⟩
    rcases q with q | ⟨k,c',e,z'⟩
    ·exact .inl q
    ·refine .inr ⟨k,c',e,z'.sameBut hs ?_⟩
     rintro rfl
     exact hj (zia hN e1 (I.ok.inj _ _ _ e hc▸hi))
  ·by_cases fu:c'=c
   ·subst fu;exact⟨_,bZ⟩
   ·obtain ⟨w2,z2⟩:=I.cell y c' e
    exact⟨w2,z2.sameBut hs fu⟩
  ·obtain ⟨e,n,ne,nf,d⟩:=I.pin p hp
   refine⟨(hs.2 p.1 ?_).trans e,n,ne,nf,d⟩
   intro q
   rw[q,hoc]at e
   have q':oc=p.2:=Qs e
   exact d w' (by rw[←q'];exact qQ)
def zhv(I:Inv X a7 σ H s)(hN:X.N.Nodup)(hi:X.N[i]?=some x)(hx:Loc X.env.scope x)(r:RelV v u)(h:∀s',Inv X a7 (σ.set i (some v)) H s'→Q () s')(hf:X.fn x=true∨X.env.scope.names.lookup x=some .local:=by first | exact .inl rfl | exact .inr rfl | assumption):wpAny M A (storeName X.env x u) Q E s :=
 zfw I hN hi hx r (λs' I' _=>h s' I') hf
def Inv.call'(I:Inv X a7 σ H s)(ho:s'.os=s.os)(u:Un (frs X.stack) ch H H' s.heap s'.heap)(hok:HOk X.prog X.w H' s'.heap)(hg:AllBare s'.gens)(fQ:∀b∈ch,(b∈X.ex∨X.s₀.heap.objs.size≤b)∧b≠X.env.locals∧(∀x c,X.env.cells.lookup x=some c→c≠b)∧∀p∈X.pn++a7,p.1≠b):Inv X a7 σ H' s':=by
 obtain⟨h',g',d',t',o'⟩:=s'
 have e:o'=s.os:=ho
 subst e
 exact I.call (g':=g') (t':=t') (d':=d') u hok hg fQ
end
abbrev XK:=Value→Option Addr→Hp→Prop
abbrev St:=List (Option V)
abbrev VK:=V→Hp→Prop
abbrev TE:=St→Hp→VK→Prop
abbrev TT:=St→Hp→(Bool→Hp→Prop)→Prop
abbrev TA:=St→Hp→(List V→Hp→Prop)→Prop
structure Ends where
 nx:St→Hp→Prop
 rt:VK
 bk:St→Hp→Prop:=λ_ _=>False
 ct:St→Hp→Prop:=λ_ _=>False
abbrev TS:=Ends→St→Hp→Prop
inductive EP(X:Cx)(a7:Nd)(σ:St)(Q:VK)(u:Value)(s':Ng):Prop
 |mk (v:V) (H':Hp) (i:Inv X a7 σ H' s') (r:RelV v u) (q:Q v H'):EP X a7 σ Q u s'
inductive TP(X:Cx)(a7:Nd)(σ:St)(Q:Bool→Hp→Prop)(b:Bool)(s':Ng):Prop
 |mk (H':Hp) (i:Inv X a7 σ H' s') (q:Q b H'):TP X a7 σ Q b s'
inductive AP(X:Cx)(a7:Nd)(σ:St)(Q:List V→Hp→Prop)(us:Nh)(s':Ng):Prop
 |mk (vs:List V) (H':Hp) (i:Inv X a7 σ H' s') (r:Vals vs us) (q:Q vs H'):AP X a7 σ Q us s'
def SP(X:Cx)(a7:Nd)(D:Ends)(f:Flow)(s':Ng):Prop :=
 match f with
 |.next=>Ex2 λ σ' H'=>Aj2 (Inv X a7 σ' H' s') (D.nx σ' H')
 |.brk=>Ex2 λ σ' H'=>Aj2 (Inv X a7 σ' H' s') (D.bk σ' H')
 |.cont=>Ex2 λ σ' H'=>Aj2 (Inv X a7 σ' H' s') (D.ct σ' H')
 |.ret u=>Ex3 λv σ' H'=>Aj3 (Inv X a7 σ' H' s') (RelV v u) (D.rt v H')
def PE(X:Cx)(e:Expr)(t:TE):Prop :=
 ∀(a7:Nd) (s:Ng) (σ:St) (H:Hp) (Q:VK),Inv X a7 σ H s→t σ H Q→wpAny (model X.prog X.w) X.A (eval e X.env) (EP X a7 σ Q) X.xe s
def PT(X:Cx)(e:Expr)(t:TT):Prop :=
 ∀(a7:Nd) (s:Ng) (σ:St) (H:Hp) (Q:Bool→Hp→Prop),Inv X a7 σ H s→t σ H Q→wpAny (model X.prog X.w) X.A (isTrue e X.env (eval e X.env)) (TP X a7 σ Q) X.xe s
def PW(X:Cx)(e:Expr)(t:TT):Prop :=
 ∀(whole:Sem Value) (a7:Nd) (s:Ng) (σ:St) (H:Hp) (Q:Bool→Hp→Prop),Inv X a7 σ H s→t σ H Q→wpAny (model X.prog X.w) X.A (isTrue e X.env whole) (TP X a7 σ Q) X.xe s
def PW.pt(h:PW X e t):PT X e t:=h _
def PA(X:Cx)(es:No)(t:TA):Prop :=
 ∀(pos:Pos) (a7:Nd) (s:Ng) (σ:St) (H:Hp) (Q:List V→Hp→Prop),Inv X a7 σ H s→t σ H Q→wpAny (model X.prog X.w) X.A (spliced (backTo pos (starEach es X.env))) (AP X a7 σ Q) X.xe s
def PS(X:Cx)(st:Stmt)(t:TS):Prop :=
 ∀(a7:Nd) (s:Ng) (σ:St) (H:Hp) (D:Ends),Inv X a7 σ H s→t D σ H→wpAny (model X.prog X.w) X.A (exec st X.env) (SP X a7 D) X.xe s
def PSs(X:Cx)(st:List Stmt)(t:TS):Prop :=
 ∀(a7:Nd) (s:Ng) (σ:St) (H:Hp) (D:Ends),Inv X a7 σ H s→t D σ H→wpAny (model X.prog X.w) X.A (execs st X.env) (SP X a7 D) X.xe s
def thn{α:Type}{t:Sem α}{Q Q':α→Shared→Prop}{M:Model}{A:Nn}{E:Nb}{s:Ng}(h:wpAny M A t Q E s)(hQ:∀a s,Q a s→Q' a s):wpAny M A t Q' E s:=wpAny_mono h hQ λ_ _ x=>x
end L2
namespace L2
open PySem PySem.Spec PyProof.Rows
section
variable{X:Cx}
def bin{a b:Expr}{ta tb:TE}(ha:PE X a ta)(hb:PE X b tb){a7:Nd}{s:Ng}{σ:St}{H:Hp}{R:V→V→Hp→Prop}(I:Inv X a7 σ H s)(h:ta σ H λx H1=>tb σ H1 λy H2=>R x y H2){α:Type}{Q:α→Shared→Prop}{f:Value→Value→Sem α}(hf:∀v u s2 x y H2,Inv X a7 σ H2 s2→RelV x v→RelV y u→R x y H2→wpAny (model X.prog X.w) X.A (f v u) Q X.xe s2) :
  wpAny (model X.prog X.w) X.A (eval a X.env) (λv s₁=>wpAny (model X.prog X.w) X.A (eval b X.env) (λu s₂=>wpAny (model X.prog X.w) X.A (f v u) Q X.xe s₂) X.xe s₁) X.xe s:=by
 refine thn (ha a7 s σ H _ I h) λv s1 ⟨x,H1,I1,r1,q1⟩=>?_
 refine thn (hb a7 s1 σ H1 _ I1 q1) λu s2 ⟨y,H2,I2,r2,q2⟩=>?_
 exact hf v u s2 x y H2 I2 r1 r2 q2
inductive RVar(o:Option (Option V))(H:Hp)(Q:VK):Prop
 |mk (v:V) (e:o=some (some v)) (q:Q v H):RVar o H Q
def tVar(i:Nat):TE:=λ σ H Q=>RVar σ[i]? H Q
def tC(v:V):TE:=λ_ H Q=>Q v H
def pe_var(hN:X.N[i]?=some x)(hv:Vis X.env.scope x)(hd:(x==("__debug__" : Str))=false:=by decide)(aO:(x==("__classdict__" : Str))=false:=by decide):PE X (.Name x pos) (tVar i):=by
 intro a7 s σ H Q I h
 obtain⟨v,e,h⟩:=h
 obtain⟨m,hn,hl⟩:=I.loc
 obtain⟨u,r,l⟩:=hl i x v hN e hv
 have fin:EP X a7 σ Q u s:=⟨v,H,I,r,h⟩
 rcases l with⟨hk,hm⟩ | ⟨hk,c,hc,hJ⟩
 ·exact wpAny_Name (wpAny_loadName_local I.ok.kind hk hn hm fin) hd
 ·rcases hk with hk | hk
  ·exact wpAny_Name (wpAny_loadName_cell I.ok.kind hk hc hJ fin) hd
  ·exact wpAny_Name (wpAny_loadName_free I.ok.kind hk hc hJ fin aO) hd
def zai{i j pos}:PE X (.Constant (.int i) j pos) (tC (.int i)):=λ_ _ _ H _ I h=>wpAny_Constant_int ⟨.int i,H,I.tok _,⟨_,rfl⟩,h⟩
def pe_bl{b j pos}:PE X (.Constant (.bool b) j pos) (tC (.bl b)):=λ_ _ _ H _ I h=>Constant_bool ⟨.bl b,H,I,rfl,h⟩
def pe_non{j pos}:PE X (.Constant .none j pos) (tC .non):=λ_ _ _ H _ I h=>Constant_none ⟨.non,H,I,rfl,h⟩
def zdd{x j pos}:PE X (.Constant (.str x) j pos) (tC (.str x)):=λ_ _ _ H _ I h=>Calls.Constant_str ⟨.str x,H,I.tok _,⟨_,rfl⟩,h⟩
def Gl(X:Cx)(x:Str):Prop:=X.env.kindOf x=some .globalImplicit
def zgn(I:Inv X a7 σ H s)(hg:Gl X x)(hm:X.mg x=some u)(h:Q u s)(hd:(x==("__debug__" : Str))=false:=by decide):wpAny (model X.prog X.w) X.A (eval (.Name x pos) X.env) Q E s :=
 Calls.Name_function_global I.ok.kind hg (Calls.loadGlobal_global (by rw[I.ok.glob];exact I.mod.glob.keeps I.bk) hm h) hd
def ld_blt(I:Inv X a7 σ H s)(hg:Gl X x)(hm:X.mg x=none)(hv:bootBuiltins x=some u)(h:Q u s)(hn:x ≠ "__name__" := by decide)(hd:(x==("__debug__" : Str))=false:=by decide):wpAny (model X.prog X.w) X.A (eval (.Name x pos) X.env) Q E s:=by
 obtain⟨mb,h1,h2⟩:=I.mod.blt
 exact Calls.Name_function_global I.ok.kind hg (Calls.loadGlobal_builtin (by rw[I.ok.glob];exact I.mod.glob.keeps I.bk) hm (by rw[I.ok.blt];exact h1.keeps I.bk) ((h2 x hn).trans hv) h) hd
def pe_glob(hg:Gl X x)(hm:X.mg x=some u)(r:RelV v u)(hd:(x==("__debug__" : Str))=false:=by decide):PE X (.Name x pos) (tC v) :=
 λ_ _ _ H _ I h=>zgn I hg hm ⟨v,H,I,r,h⟩ hd
variable{a b:Expr}{ta tb:TE}{pos:Pos}
def PC(X:Cx)(op:CmpOp)(a b:Expr)(t:TE):Prop :=
 ∀(a7:Nd) (s:Ng) (σ:St) (H:Hp) (Q:VK),Inv X a7 σ H s→t σ H Q →
  wpAny (model X.prog X.w) X.A (eval a X.env) (λv s₁=>wpAny (model X.prog X.w) X.A (eval b X.env) (λu s₂=>wpAny (model X.prog X.w) X.A (compareOp op v u) (EP X a7 σ Q) X.xe s₂) X.xe s₁) X.xe s
inductive RB(x:V)(H:Hp)(Q:Bool→Hp→Prop):Prop
 |mk (c:Bool) (e:x=.bl c) (q:Q c H):RB x H Q
def tB(t:TE):TT:=λ σ H Q=>t σ H λx H1=>RB x H1 Q
def pe_cmp(h:PC X op a b t)(h1:behindInMarks op b=false:=by first | exact nobehind _ (by decide) (by decide) | rfl):PE X (.Compare a [op] [b] pos) t:=λa7 s σ H Q I hw=>wpAny_Compare1 (h a7 s σ H Q I hw) h1
def zhc{op:CmpOp}{t:TE}(h:PC X op a b t)(h1:behindInMarks op b=false:=by first | exact nobehind _ (by decide) (by decide) | rfl):PT X (.Compare a [op] [b] pos) (tB t):=by
 intro a7 s σ H Q I hw
 refine wpAny_isTrue_Compare1 (thn (h a7 s σ H _ I hw) λv s1 h1=>thn h1 λu s2 h2=>thn h2 λc s3 ⟨x,H1,I1,r1,q1⟩=>?_) h1
 obtain⟨d,rfl,q⟩:=q1
 cases r1
 exact wpAny_truthy_bool ⟨H1,I1,q⟩
def zf2{e:Expr}{t:TE}(h:PE X e t)(he:∀whole,isTrue e X.env whole=(do let v ←whole;standAt e.pos;holding [v] (truthy v)):=by intro _;rfl):PT X e (tB t):=by
 intro a7 s σ H Q I hw
 refine isTrue_plain (thn (h a7 s σ H _ I hw) λv s1 ⟨x,H1,I1,r1,q1⟩=>?_) (he _)
 obtain⟨d,rfl,q⟩:=q1
 cases r1
 exact wpAny_truthy_bool ⟨H1,I1,q⟩
variable{tA nI:TT}{rest:No}
def tAnd(t u:TT):TT:=λ σ H Q=>t σ H λc H1=>if c=true then u σ H1 Q else Q false H1
def tOr(t u:TT):TT:=λ σ H Q=>t σ H λc H1=>if c=true then Q true H1 else u σ H1 Q
def tNot(t:TT):TT:=λ σ H Q=>t σ H λc H1=>Q (!c) H1
def pw_and1(ha:PT X a tA):PW X (.BoolOp .And [a] pos) tA:=by
 intro wh a7 s σ H Q I h
 refine isTrue_and (thn (ha a7 s σ H Q I h) λc s1 e=>?_)
 cases c with
 |true=>exact isTrue_and_nil e
 |false=>exact e
def pw_or1(ha:PT X a tA):PW X (.BoolOp .Or [a] pos) tA:=by
 intro wh a7 s σ H Q I h
 refine isTrue_or (thn (ha a7 s σ H Q I h) λc s1 e=>?_)
 cases c with
 |false=>exact isTrue_or_nil e
 |true=>exact e
def pw_and(ha:PT X a tA)(hb:PW X (.BoolOp .And (b::rest) pos) nI):PW X (.BoolOp .And (a::b::rest) pos) (tAnd tA nI):=by
 intro wh a7 s σ H Q I h
 refine isTrue_and (thn (ha a7 s σ H _ I h) λc s1 ⟨H1,I1,q1⟩=>?_)
 cases c with
 |true=>exact hb wh a7 s1 σ H1 Q I1 q1
 |false=>exact⟨H1,I1,q1⟩
def pw_or(ha:PT X a tA)(hb:PW X (.BoolOp .Or (b::rest) pos) nI):PW X (.BoolOp .Or (a::b::rest) pos) (tOr tA nI):=by
 intro wh a7 s σ H Q I h
 refine isTrue_or (thn (ha a7 s σ H _ I h) λc s1 ⟨H1,I1,q1⟩=>?_)
 cases c with
 |true=>exact⟨H1,I1,q1⟩
 |false=>exact hb wh a7 s1 σ H1 Q I1 q1
def zfe(ha:PT X a tA):PT X (.UnaryOp .Not a pos) (tNot tA):=by
 intro a7 s σ H Q I h
 exact isTrue_not (wpAny_mono (ha a7 s σ H (λc H1=>Q (!c) H1) I h) (λc s2 z=>by obtain⟨a,b,d⟩:=z;exact⟨a,b,d⟩) λ_ _ e=>e)
def tAndV(ta tb:TE):TE:=λ σ H Q=>ta σ H λx H1=>RB x H1 λc H1=>if c=true then tb σ H1 Q else Q (.bl false) H1
def pe_one{op}(h:PE X a t):PE X (.BoolOp op [a] pos) t:=λa7 s σ H Q I hw=>BoolOp_one (h a7 s σ H Q I hw)
def pe_and(ha:PE X a ta)(hb:PE X (.BoolOp .And (b::rest) pos) tb):PE X (.BoolOp .And (a::b::rest) pos) (tAndV ta tb):=by
 intro a7 s σ H Q I h
 refine BoolOp_and (thn (ha a7 s σ H _ I h) λv s1 ⟨x,H1,I1,r1,q1⟩=>?_)
 obtain⟨c,rfl,q1⟩:=q1
 cases r1
 refine wpAny_truthy_bool ?_
 cases c with
 |true=>exact hb a7 s1 σ H1 Q I1 q1
 |false=>exact⟨.bl false,H1,I1,rfl,q1⟩
def tIf(t:TT)(ta tb:TE):TE:=λ σ H Q=>t σ H λc H1=>if c=true then ta σ H1 Q else tb σ H1 Q
def pe_ifExp{c:Expr}(hc:PT X c tA)(ha:PE X a ta)(hb:PE X b tb):PE X (.IfExp c a b pos) (tIf tA ta tb):=by
 intro a7 s σ H Q I h
 refine wpAny_IfExp (thn (hc a7 s σ H _ I h) λd s1 ⟨H1,I1,q1⟩=>?_)
 cases d with
 |true=>exact ha a7 s1 σ H1 Q I1 q1
 |false=>exact hb a7 s1 σ H1 Q I1 q1
end
end L2
namespace L2
open PySem PySem.Spec PyProof.Rows
def SqL(K:Na)(H:Hp)(a:Nc)(xs:List V):Prop :=
 Rd H a (.lst xs) ∨
  ∃(o:Obj) (a8:Array Value) (n:Nat),K.lookup a=some o∧o.cls=.type "list" ∧ o.dict=none∧o.data=.seq a8 n∧a8.size≤sizeLine∧Vals xs a8.toList
def SqT(K:Na)(H:Hp)(a:Nc)(xs:List V):Prop :=
 Rd H a (.tup xs) ∨
  ∃(o:Obj) (a8:Array Value) (n:Nat),K.lookup a=some o∧o.cls=.type "tuple" ∧ o.data=.seq a8 n∧a8.size≤sizeLine∧Vals xs a8.toList
def absV:Value→Option V
 |.none=>some .non
 |.bool b=>some (.bl b)
 |.int i _=>some (.int i)
 |.str x _=>some (.str x)
 |.bytes b _=>some (.byt b)
 |.float b _=>some (.flt b)
 |.ref a=>some (.ref a)
 |.type n=>some (.ty n)
 |_=>none
def RelV.abs(r:RelV x u):absV u=some x:=by
 cases x with
 |non=>cases r;rfl
 |bl _=>cases r;rfl
 |int _=>obtain⟨t,rfl⟩:=r;rfl
 |str _=>obtain⟨t,rfl⟩:=r;rfl
 |byt _=>obtain⟨t,rfl⟩:=r;rfl
 |flt _=>obtain⟨t,rfl⟩:=r;rfl
 |ref _=>cases r;rfl
 |ty _=>cases r;rfl
def RelV.inj{x y:V}{u:Value}(r:RelV x u)(q:RelV y u):x=y:=Qs (r.abs.symm.trans q.abs)
theorem Vals.inj:∀{xs ys:List V} {us:Nh},Vals xs us→Vals ys us→xs=ys
 |_,_,_,.nil,.nil=>rfl
 |_,_,_,.cons r t,.cons r' t'=>by rw[r.inj r',Vals.inj t t']
section
variable{X:Cx}{a7:Nd}{σ:St}{H:Hp}{s:Ng}{a:Nc}{xs ys:List V}
def SqL.of{K:Na}(h:H a=some (.lst xs)):SqL K H a xs:=.inl (.inl h)
def SqT.of{K:Na}(h:H a=some (.tup xs)):SqT K H a xs:=.inl (.inl h)
def Inv.list(I:Inv X a7 σ H s)(h:SqL X.K H a xs):∃a8:List Value,Vals xs a8∧PlainL s.heap a a8.toArray∧xs.length≤sizeLine:=by
 rcases h with h | ⟨o,a8,n,hk,hc,hd,hs,hz,r⟩
 ·obtain ⟨z,a8,n,r,e⟩:=h.ok I.hok
  exact⟨a8,r,⟨_,n,e,rfl,rfl,rfl⟩,z⟩
 ·refine ⟨a8.toList,r,⟨o,n,I.kIn a o hk,hc,hd,by simpa using hs⟩,?_⟩
  have e:=r.length
  simp only[Yi]at e
  lia
def Inv.tuple(I:Inv X a7 σ H s)(h:SqT X.K H a xs):∃a8:List Value,Vals xs a8∧IsTup s.heap a a8.toArray∧xs.length≤sizeLine:=by
 rcases h with h | ⟨o,a8,n,hk,hc,hs,hz,r⟩
 ·obtain ⟨z,a8,r,p⟩:=h.ok I.hok
  exact⟨a8,r,p,z⟩
 ·refine ⟨a8.toList,r,⟨o,I.kIn a o hk,hc,n,by simpa using hs⟩,?_⟩
  have e:=r.length
  simp only[Yi]at e
  lia
def Inv.list_inj(I:Inv X a7 σ H s)(h:SqL X.K H a xs)(h':SqL X.K H a ys):xs=ys:=by
 obtain⟨a8,r,⟨o,n,e,_,_,d⟩,_⟩:=I.list h
 obtain⟨its',r',⟨o',n',e',_,_,d'⟩,_⟩:=I.list h'
 rw[e]at e';cases e'
 rw[d]at d'
 injection d' with d1 _
 have:a8=its':=by simpa using congrArg Array.toList d1
 subst this
 exact r.inj r'
def Inv.tuple_inj(I:Inv X a7 σ H s)(h:SqT X.K H a xs)(h':SqT X.K H a ys):xs=ys:=by
 obtain⟨a8,r,⟨o,e,_,n,d⟩,_⟩:=I.tuple h
 obtain⟨its',r',⟨o',e',_,n',d'⟩,_⟩:=I.tuple h'
 rw[e]at e';cases e'
 rw[d]at d'
 injection d' with d1 _
 have:a8=its':=by simpa using congrArg Array.toList d1
 subst this
 exact r.inj r'
end
abbrev Cx.wish(X:Cx)(E:Nb):Cx:={X with xe:=E}
abbrev Cx.nox(X:Cx):Cx:=X.wish λ_ _=>False
def Cx.Ok.wish{X:Cx}(ok:X.Ok)(E:Nb):(X.wish E).Ok :=
 ⟨ok.mod,ok.kind,ok.glob,ok.blt,ok.above,ok.inj,ok.has,ok.cab,ok.hd,ok.frames,ok.stk,ok.exf,ok.bs,ok.bsz,ok.noex,ok.exfs,ok.funs,ok.frf⟩
def Cx.Ok.unwish{X:Cx}{E:Nb}(ok:(X.wish E).Ok):X.Ok :=
 ⟨ok.mod,ok.kind,ok.glob,ok.blt,ok.above,ok.inj,ok.has,ok.cab,ok.hd,ok.frames,ok.stk,ok.exf,ok.bs,ok.bsz,ok.noex,ok.exfs,ok.funs,ok.frf⟩
section
variable{X:Cx}{a7:Nd}{σ:St}{H:Hp}{s:Ng}{E:Nb}
def Inv.wish(I:Inv X a7 σ H s)(E:Nb):Inv (X.wish E) a7 σ H s:=⟨I.ok.wish E,I.os,I.bare,I.base,I.loc,I.cell,I.free,I.freeC,I.pin,I.hok,I.len⟩
def Inv.unwish(I:Inv (X.wish E) a7 σ H s):Inv X a7 σ H s:=⟨I.ok.unwish,I.os,I.bare,I.base,I.loc,I.cell,I.free,I.freeC,I.pin,I.hok,I.len⟩
def SP.unwish(h:SP (X.wish E) a7 D f s'):SP X a7 D f s':=by
 cases f with
 |next=>obtain⟨σ',H',I,q⟩:=h;exact⟨σ',H',I.unwish,q⟩
 |brk=>obtain⟨σ',H',I,q⟩:=h;exact⟨σ',H',I.unwish,q⟩
 |cont=>obtain⟨σ',H',I,q⟩:=h;exact⟨σ',H',I.unwish,q⟩
 |ret u=>obtain⟨v,σ',H',I,r,q⟩:=h;exact⟨v,σ',H',I.unwish,r,q⟩
def PSs.nox{st:List Stmt}{t:TS}(h:PSs X.nox st t):PSs X st t:=λa7 s σ H D I hw =>
 wpAny_mono (h a7 s σ H D (I.wish _) hw) (λ_ _ q=>q.unwish) λ_ _ z=>False.elim z
end
section
variable{X:Cx}{st:Stmt}{rest:List Stmt}{t u:TS}{e:Expr}{te:TE}{pos:Pos}
def tNext:TS:=λD σ H=>D.nx σ H
def tSeq(t u:TS):TS:=λD σ H=>t {D with nx:=u D} σ H
def zba:PSs X [] tNext:=λ_ _ σ H _ I h=>wpAny_execs_nil ⟨σ,H,I,h⟩
def zae(h1:PS X st t)(h2:PSs X rest u):PSs X (st::rest) (tSeq t u):=by
 intro a7 s σ H D I h
 refine wpAny_execs_cons (thn (h1 a7 s σ H {D with nx:=u D} I h) λf s1 q=>?_)
 cases f with
 |next =>
  obtain⟨σ',H',I',q⟩:=q
  exact h2 a7 s1 σ' H' D I' q
 |ret v=>exact q
 |brk=>exact q
 |cont=>exact q
def zah(h1:PS X st t):PSs X [st] t:=by
 intro a7 s σ H D I h
 refine wpAny_execs_cons (thn (h1 a7 s σ H D I h) λf s1 q=>?_)
 cases f with
 |next=>exact wpAny_execs_nil q
 |ret v=>exact q
 |brk=>exact q
 |cont=>exact q
def Inv.quiet{a7:Nd}{σ:St}{H:Hp}{s:Ng}(I:Inv X a7 σ H s):interactive X.env=false:=by simp[interactive,I.ok.kind]
def tDrop(te:TE):TS:=λD σ H=>te σ H λ_ H1=>D.nx σ H1
def zay(he:PE X e te)(hs:swapsWith e none pos.line X.env=pure false:=by rfl):PS X (.Expr e pos) (tDrop te):=by
 intro a7 s σ H D I h
 exact wpAny_Expr_any (thn (he a7 s σ H _ I h) λv s1 ⟨x,H1,I1,r1,q1⟩=>⟨σ,H1,I1,q1⟩) I.quiet hs
def tRet(te:TE):TS:=λD σ H=>te σ H D.rt
def zbe(he:PE X e te):PS X (.Return (some e) pos) (tRet te):=by
 intro a7 s σ H D I h
 exact wpAny_Return_some (thn (he a7 s σ H _ I h) λv s1 ⟨x,H1,I1,r1,q1⟩=>⟨x,σ,H1,I1,r1,q1⟩)
def tRetN:TS:=λD _ H=>D.rt .non H
def ps_retN:PS X (.Return none pos) tRetN:=λ_ _ σ H _ I h=>wpAny_Return_none ⟨.non,σ,H,I,rfl,h⟩
def tIfS(c:TT)(t u:TS):TS:=λD σ H=>c σ H λb H1=>if b=true then t D σ H1 else u D σ H1
def zcc{c:Expr}{a b:List Stmt}{tc:TT}(hc:PT X c tc)(ha:PSs X a t)(hb:PSs X b u):PS X (.If c a b pos) (tIfS tc t u):=by
 intro a7 s σ H D I h
 refine wpAny_If (thn (hc a7 s σ H _ I h) λd s1 ⟨H1,I1,q1⟩=>?_)
 cases d with
 |true=>exact ha a7 s1 σ H1 D I1 q1
 |false=>exact hb a7 s1 σ H1 D I1 q1
end
abbrev TG:=V→St→Hp→(St→Hp→Prop)→Prop
abbrev TGs:=List V→St→Hp→(St→Hp→Prop)→Prop
def PG(X:Cx)(target:Expr)(t:TG):Prop :=
 ∀(a7:Nd) (s:Ng) (σ:St) (H:Hp) (v:V) (u:Value) (Q:St→Hp→Prop),Inv X a7 σ H s→RelV v u→t v σ H Q →
  wpAny (model X.prog X.w) X.A (assign target X.env u) (λ_ s'=>Ex2 λ σ' H'=>Aj2 (Inv X a7 σ' H' s') (Q σ' H')) X.xe s
def PGs(X:Cx)(ts:No)(t:TGs):Prop :=
 ∀(a7:Nd) (s:Ng) (σ:St) (H:Hp) (vs:List V) (us:Nh) (Q:St→Hp→Prop),Inv X a7 σ H s→Vals vs us→t vs σ H Q →
  wpAny (model X.prog X.w) X.A (assignInOrder ((assignEach ts X.env).map (·.2)) us) (λ_ s'=>Ex2 λ σ' H'=>Aj2 (Inv X a7 σ' H' s') (Q σ' H')) X.xe s
abbrev TSet:=V→V→V→Hp→(Hp→Prop)→Prop
def PSet(X:Cx)(t:TSet):Prop :=
 ∀(a7:Nd) (s:Ng) (σ:St) (H:Hp) (o i v:V) (ov iv u:Value) (Q:Hp→Prop),Inv X a7 σ H s→RelV o ov→RelV i iv→RelV v u→t o i v H Q →
  wpAny (model X.prog X.w) X.A (setItem ov iv u) (λ_ s'=>∃H',Inv X a7 σ H' s'∧Q H') X.xe s
section
variable{X:Cx}{pos:Pos}
def gName(i:Nat):TG:=λv σ H Q=>Q (σ.set i (some v)) H
def zf5(hN:X.N.Nodup)(hi:X.N[i]?=some x)(hx:Loc X.env.scope x)(hf:X.fn x=true∨X.env.scope.names.lookup x=some .local:=by first | exact .inl rfl | exact .inr rfl | assumption):PG X (.Name x pos) (gName i):=by
 intro a7 s σ H v u Q I r h
 exact wpAny_assign_Name (zhv I hN hi hx r (λs' I'=>⟨_,H,I',h⟩) hf)
def gNil:TGs:=λvs σ H Q=>vs=[]∧Q σ H
inductive RGC(vs:List V)(R:V→List V→Prop):Prop
 |mk (v:V) (r:List V) (e:vs=v::r) (q:R v r):RGC vs R
def gCons(t:TG)(u:TGs):TGs:=λvs σ H Q=>RGC vs λv r=>t v σ H λ σ' H'=>u r σ' H' Q
def zcv:PGs X [] gNil:=by
 intro a7 s σ H vs us Q I r h
 obtain⟨e,h⟩:=h
 subst e
 cases r
 exact assignInOrder_nil ⟨σ,H,I,h⟩
def za1{e:Expr}{es:No}{t:TG}{u:TGs}(h1:PG X e t)(h2:PGs X es u)(hs:(assignEach (e::es) X.env).map (·.2)=assign e X.env::(assignEach es X.env).map (·.2):=by rfl):PGs X (e::es) (gCons t u):=by
 intro a7 s σ H vs us Q I r h
 obtain⟨v,vr,e1,h⟩:=h
 subst e1
 cases r with
 |cons r rr =>
  rw[hs]
  refine assignInOrder_cons (thn (h1 a7 s σ H _ _ _ I r h) λ_ s1 ⟨σ1,H1,I1,q1⟩=>?_)
  exact h2 a7 s1 σ1 H1 _ _ Q I1 rr q1
inductive RGT(K:Na)(n:Nat)(v:V)(H:Hp)(R:List V→Prop):Prop
 |mk (a:Nc) (xs:List V) (e:v=.ref a) (s:SqT K H a xs) (l:xs.length=n) (q:R xs):RGT K n v H R
def gTup(K:Na)(n:Nat)(t:TGs):TG:=λv σ H Q=>RGT K n v H λxs=>t xs σ H Q
def zhd(hc:X.calm=true)(h:PGs X es t)(hn:(assignEach es X.env).length=n:=by rfl)(az:(assignEach es X.env).findIdx? (·.1)=none:=by rfl):PG X (.Tuple es k pos) (gTup X.K n t):=by
 intro a7 s σ H v u Q I r hw
 obtain⟨a,xs,e1,hq,hl,hw⟩:=hw
 subst e1
 cases r
 obtain⟨a8,rv,ht,hz⟩:=I.tuple hq
 refine assign_Tuple_tuple (I.ok.hd hc) ht (by simp[hn,←hl,rv.length]) az λh' hx=>?_
 have I1:Inv X a7 σ H {s with heap:=h'}:=I.kept (t':=s.toks) λb o e=>hx b o (Zk (Qw e)) e
 exact h a7 _ σ H xs _ Q I1 (by simpa using rv) hw
def gSub(to ti:TE)(t:TSet):TG:=λv σ H Q=>to σ H λo H1=>ti σ H1 λi H2=>t o i v H2 λH3=>Q σ H3
def pg_sub{o i:Expr}{to ti:TE}{t:TSet}(ho:PE X o to)(hi:PE X i ti)(hs:PSet X t)(ha:∀ v,assign (.Subscript o i pos) X.env v=(do
   let ov ←holding [v] (eval o X.env)
   let iv ←holding [v,ov] (eval i X.env)
   standAt pos
   holding [v,ov,iv] (setItem ov iv v)
   release [v,ov,iv] []):=by intro _;rfl):PG X (.Subscript o i pos) (gSub to ti t):=by
 intro a7 s σ H v u Q I r h
 rw[ha]
 refine wpAny_bind (wpAny_holding (thn (ho a7 s σ H _ I h) λov s1 ⟨x,H1,I1,r1,q1⟩=>?_))
 refine wpAny_bind (wpAny_holding (thn (hi a7 s1 σ H1 _ I1 q1) λiv s2 ⟨y,H2,I2,r2,q2⟩=>?_))
 refine wpAny_bind (wpAny_standAt (wpAny_bind (wpAny_holding (thn (hs a7 s2 σ H2 x y v ov iv u _ I2 r1 r2 r q2) λ_ s3 ⟨H3,I3,q3⟩=>?_))))
 exact wpAny_release ⟨σ,H3,I3,q3⟩
def tAsg(te:TE)(g:TG):TS:=λD σ H=>te σ H λx H1=>g x σ H1 D.nx
def ps_asg{tg e:Expr}{te:TE}{g:TG}(he:PE X e te)(hg:PG X tg g)(hs:swapsWithSole [tg] e pos.line X.env=pure false:=by rfl)(hw:swappedStores [tg] e X.env=pure none:=by rfl)(h1:(assignEach [tg] X.env).map (·.2)=[assign tg X.env]:=by rfl):PS X (.Assign [tg] e pos) (tAsg te g):=by
 intro a7 s σ H D I h
 refine wpAny_Assign_stores (thn (he a7 s σ H _ I h) λv s1 ⟨x,H1,I1,r1,q1⟩=>?_) hs hw
 rw[h1]
 exact thn (hg a7 s1 σ H1 x v _ I1 r1 q1) λ_ s2 q=>q
def ps_set{i:Nat}{x:Str}{e:Expr}{te:TE}{bi:Pos}(hN:X.N.Nodup)(hi:X.N[i]?=some x)(hx:Loc X.env.scope x)(he:PE X e te)(hs:swapsWith e (some (.Name x bi)) pos.line X.env=pure false:=by rfl)(hf:X.fn x=true∨X.env.scope.names.lookup x=some .local:=by first | exact .inl rfl | exact .inr rfl | assumption) :
  PS X (.Assign [.Name x bi] e pos) (tAsg te (gName i)):=by
 intro a7 s σ H D I h
 refine wpAny_Assign_Name (thn (he a7 s σ H _ I h) λv s1 ⟨y,H1,I1,r1,q1⟩=>?_) hs
 exact zhv I1 hN hi hx r1 (λs2 I2=>⟨_,H1,I2,q1⟩) hf
def tWhile(c:TT)(tb:TS):TS:=λD σ H=>∃W:Nat→St→Hp→Prop,(∃m,W m σ H)∧∀m σ H,W m σ H →
 c σ H λb H1=>if b=true then ∃N:St→Hp→Prop,(∀σ' H',N σ' H'→∃m',m'<m∧W m' σ' H')∧tb {D with nx:=N,ct:=N,bk:=D.nx} σ H1 else D.nx σ H1
def zfs(hp:PassesOwn (model X.prog X.w) X.A X.env X.xe)(hc:PT X c tc)(hb:PSs X body tb):PS X (.While c body [] pos) (tWhile tc tb):=by
 intro a7 s σ H D I h
 obtain⟨W,⟨m0,w0⟩,turn⟩:=h
 refine wpAny_While (codeAny_whileLoop (λn s'=>∃σ' H',Inv X a7 σ' H' s'∧W n σ' H') ?_ m0 ⟨σ,H,I,w0⟩)
 rintro n s1 ⟨σ1,H1,I1,w1⟩
 refine wpAny_passesOwn hp (thn (hc a7 s1 σ1 H1 _ I1 (turn n σ1 H1 w1)) λb s2 ⟨H2,I2,q2⟩=>?_)
 cases b with
 | true =>
  obtain⟨N,hN,q2⟩:=q2
  rw[if_pos rfl]
  refine wpAny_passesOwn hp (thn (hb a7 s2 σ1 H2 _ I2 q2) λf s3 q3=>?_)
  cases f with
  |next =>
   obtain⟨σ3,H3,I3,n3⟩:=q3
   obtain⟨m',hm,w3⟩:=hN σ3 H3 n3
   exact⟨m',hm,σ3,H3,I3,w3⟩
  |cont =>
   obtain⟨σ3,H3,I3,n3⟩:=q3
   obtain⟨m',hm,w3⟩:=hN σ3 H3 n3
   exact⟨m',hm,σ3,H3,I3,w3⟩
  |brk=>exact q3
  |ret v=>exact q3
 |false =>
  rw[if_neg Zb]
  exact wpAny_execs_nil ⟨σ1,H2,I2,q2⟩
end
structure It where
 go:Nat→Hp→Prop
 yld:Nat→Hp→V→Hp→Prop
 stop:Nat→Hp→Prop
def FpOk(X:Cx)(a7:Nd)(H:Hp)(b:Nc):Prop :=
 H b=none∧b≠X.env.locals∧b∉X.fs∧(b∈X.ex∨X.s₀.heap.objs.size≤b)∧(∀x c,X.env.cells.lookup x=some c→c≠b)∧∀p∈X.pn++a7,p.1≠b
def Inv.fpOk{X:Cx}{a7:Nd}{σ:St}{H H':Hp}{s:Ng}{b:Nc}(I:Inv X a7 σ H s)(hb:s.heap.objs.size≤b)(hn:H' b=none):FpOk X a7 H' b:=by
 refine⟨hn,Wg (Zw I.lt hb),I.nofs hb,.inr (Zi I.sz hb),λx c e z=>?_,λp hp z=>?_⟩
 ·obtain ⟨v,q⟩:=I.cell x c e
  exact absurd (Zw q.lt (by rw[z];exact hb)) (Yr _)
 ·exact absurd (Zw (Qw (I.pin p hp).1) (by rw[z];exact hb)) (Yr _)
structure Turn(P:Ni)(w:Nl)(K:Na)(tg:Expr)(J:It)(fp:Nk)(it:Nc)(tn:Nat→Heap→Prop):Prop where
 mem:it∈fp
 obj:∀i h,tn i h→∀b∈fp,∃o,h.get? b=some o∧∀v,o.data≠.cell v
 keep:∀i h h',tn i h→(∀b∈fp,∀o,h.get? b=some o→h'.get? b=some o)→tn i h'
 item:∀(X:Cx),X.prog=P→X.w=w→X.K=K→X.calm=true→∀(i:Nat) (a7:Nd) (s:Ng) (σ:St) (H:Hp) (E:Nb),Inv X a7 σ H s→(∀b∈fp,FpOk X a7 H b)→tn i s.heap→J.go i H →
  wpAny (model P w) X.A (pyNext (.ref it)) (λr s1=>∃u,r=some u ∧
   wpAny (model P w) X.A (letOwnedTupleGo tg (.ref it) u) (λ_ s2=>∃x H',Inv X a7 σ H' s2∧RelV x u∧J.yld i H x H'∧tn (i+1) s2.heap∧∀b∈fp,H' b=none) E s1) E s
 done:∀(X:Cx),X.prog=P→X.w=w→X.K=K→X.calm=true→∀(i:Nat) (a7:Nd) (s:Ng) (σ:St) (H:Hp) (E:Nb),Inv X a7 σ H s→(∀b∈fp,FpOk X a7 H b)→tn i s.heap→J.stop i H →
  wpAny (model P w) X.A (pyNext (.ref it)) (λr s1=>r=none∧Inv X a7 σ H s1) E s
 self:∀(A:Nn) (i:Nat) (s:Ng) (Q:Nb) (E:Nb),tn i s.heap→Q (.ref it) s→wpAny (model P w) A (pyIter (.ref it)) Q E s
abbrev TI:=St→Hp→(It→Hp→Prop)→Prop
inductive PIE(X:Cx)(a7:Nd)(σ:St)(tg:Expr)(R:It→Hp→Prop)(itv:Value)(s2:Ng):Prop
 |mk (it:Nc) (fp:Nk) (tn:Nat→Heap→Prop) (J:It) (H':Hp) (h0:itv=.ref it) (h1:Inv X a7 σ H' s2) (h2:Turn X.prog X.w X.K tg J fp it tn) (h3:tn 0 s2.heap) (h4:(∀b∈fp,FpOk X a7 H' b)) (h5:R J H'):PIE X a7 σ tg R itv s2
def PI(X:Cx)(tg iter:Expr)(wi:TI):Prop :=
 ∀(a7:Nd) (s:Ng) (σ:St) (H:Hp) (R:It→Hp→Prop),Inv X a7 σ H s→wi σ H R →
  wpAny (model X.prog X.w) X.A (eval iter X.env) (λv s1=>wpAny (model X.prog X.w) X.A (pyIter v) (PIE X a7 σ tg R) X.xe s1) X.xe s
def go_of(ho:s.heap.get? it=some o)(hc:o.cls=.type n)(hd:o.data=.fields vs)(hn:["enumerate", "zip", "dict_itemiterator", "dict_reverseitemiterator", "odict_iterator", "itertools.zip_longest", "itertools.pairwise"].contains n=false)(hQ:Q () s):wpAny M A (letOwnedTupleGo tg (.ref it) u) Q E s:=by
 unfold letOwnedTupleGo
 cases tg <;> first
  |exact wpAny_pure hQ
  | (cases u <;> first
    |exact wpAny_pure hQ
    | (refine wpAny_bind (wpAny_load ho ?_)
       rw[hc,hd]
       show wpAny M A (if(["enumerate", "zip", "dict_itemiterator", "dict_reverseitemiterator", "odict_iterator", "itertools.zip_longest", "itertools.pairwise"].contains n&&vs[0]?==some (rawInt _))=true then _ else _) Q E s
       rw[if_neg (by intro h;rw[hn,Bool.false_and]at h;cases h)]
       exact wpAny_pure hQ))
def Itl(K:Na)(a:Nc):It :=
 ⟨λi H=>∃xs x,SqL K H a xs∧xs[i]?=some x,λi H x H'=>H'=H∧∀xs,SqL K H a xs→xs[i]?=some x,λi H=>∃xs,SqL K H a xs∧xs.length≤i⟩
def Itt(K:Na)(a:Nc):It :=
 ⟨λi H=>∃xs x,SqT K H a xs∧xs[i]?=some x,λi H x H'=>H'=H∧∀xs,SqT K H a xs→xs[i]?=some x,λi H=>∃xs,SqT K H a xs∧xs.length≤i⟩
def Itr(lo:Int)(n:Nat):It:=⟨λi _=>i<n,λi H x H'=>H'=H∧x=.int (lo+i),λi _=>n≤i⟩
theorem turn_list{P:Ni}{w:Nl}{K:Na}{tg:Expr}(a it:Nc):Turn P w K tg (Itl K a) [it] it (λi h=>h.IsListIter it a i) where
 mem:=by simp
 obj:=λi h st b hb=>by
  have e:b=it:=by simpa using hb
  subst e
  obtain⟨o,e,c,d⟩:=st
  exact⟨o,e,λv z=>by rw[d]at z;cases z⟩
 keep:=λi h h' st k=>st.at λo e=>k it (by simp) o e
 item:=by
  intro X hP hw hK hc i a7 s σ H E I hf st hg
  subst hP hw hK
  obtain⟨xs,x,hq,hx⟩:=hg
  obtain⟨a8,rv,p,hz⟩:=I.list hq
  obtain⟨u,hu,ru⟩:=rv.get hx
  obtain⟨f0,f1,f2,f3,f4,f5⟩:=hf it (by simp)
  refine wpAny_pyNext_list_item st p.isList (x:=u) (by simpa using hu) λh' a9 sb=>?_
  have I1:Inv X a7 σ H {s with heap:=h'}:=I.turned (t':=s.toks) (λb o hb e=>(sb.2 b hb).trans e) f0 f1 f3 f4 f5
  obtain⟨o,e,c,d⟩:=id a9
  exact⟨u,rfl,go_of (s:={s with heap:=h'}) e c d (by decide) ⟨x,H,I1,ru,⟨rfl,λys hy=>by rw[I.list_inj hy hq];exact hx⟩,a9,λb hb=>(hf b hb).1⟩⟩
 done:=by
  intro X hP hw hK hc i a7 s σ H E I hf st hg
  subst hP hw hK
  obtain⟨xs,hq,hx⟩:=hg
  obtain⟨a8,rv,p,hz⟩:=I.list hq
  obtain⟨f0,f1,f2,f3,f4,f5⟩:=hf it (by simp)
  have hl:=rv.length
  exact wpAny_pyNext_list_end (I.ok.hd hc) st p.isList (by simp;exact zd3 ‹_› ‹_›) λh' eb=>⟨rfl,I.turned (t':=s.toks) (λb o hb e=>eb b o hb e) f0 f1 f3 f4 f5⟩
 self:=λ_ _ _ _ _ st h=>wpAny_pyIter_listiter st h
theorem turn_tuple{P:Ni}{w:Nl}{K:Na}{tg:Expr}(a it:Nc):Turn P w K tg (Itt K a) [it] it (λi h=>h.IsTupleIter it a i) where
 mem:=by simp
 obj:=λi h st b hb=>by
  have e:b=it:=by simpa using hb
  subst e
  obtain⟨o,e,c,d⟩:=st
  exact⟨o,e,λv z=>by rw[d]at z;cases z⟩
 keep:=λi h h' st k=>st.at λo e=>k it (by simp) o e
 item:=by
  intro X hP hw hK hc i a7 s σ H E I hf st hg
  subst hP hw hK
  obtain⟨xs,x,hq,hx⟩:=hg
  obtain⟨a8,rv,p,hz⟩:=I.tuple hq
  obtain⟨u,hu,ru⟩:=rv.get hx
  obtain⟨f0,f1,f2,f3,f4,f5⟩:=hf it (by simp)
  refine wpAny_pyNext_tuple_item st (show s.heap.IsTuple a a8.toArray from p) (x:=u) (by simpa using hu) λh' a9 sb=>?_
  have I1:Inv X a7 σ H {s with heap:=h'}:=I.turned (t':=s.toks) (λb o hb e=>(sb.2 b hb).trans e) f0 f1 f3 f4 f5
  obtain⟨o,e,c,d⟩:=id a9
  exact⟨u,rfl,go_of (s:={s with heap:=h'}) e c d (by decide) ⟨x,H,I1,ru,⟨rfl,λys hy=>by rw[I.tuple_inj hy hq];exact hx⟩,a9,λb hb=>(hf b hb).1⟩⟩
 done:=by
  intro X hP hw hK hc i a7 s σ H E I hf st hg
  subst hP hw hK
  obtain⟨xs,hq,hx⟩:=hg
  obtain⟨a8,rv,p,hz⟩:=I.tuple hq
  obtain⟨f0,f1,f2,f3,f4,f5⟩:=hf it (by simp)
  have hl:=rv.length
  exact wpAny_pyNext_tuple_end (I.ok.hd hc) st (show s.heap.IsTuple a a8.toArray from p) (by simp;exact zd3 ‹_› ‹_›) λh' eb=>⟨rfl,I.turned (t':=s.toks) (λb o hb e=>eb b o hb e) f0 f1 f3 f4 f5⟩
 self:=λ_ _ _ _ _ st h=>wpAny_pyIter_tupleiter st h
theorem turn_range{P:Ni}{w:Nl}{K:Na}{tg:Expr}(it:Nc)(lo:Int)(n:Nat):Turn P w K tg (Itr lo n) [it] it (λi h=>IsRangeIter h it (lo+(i:Nat)*1) ((n:Int)-(i:Nat)) 1) where
 mem:=by simp
 obj:=λi h st b hb=>by
  have e:b=it:=by simpa using hb
  subst e
  exact⟨_,st,λv z=>by
   have z':Data.fields _=Data.cell v:=z
   cases z'⟩
 keep:=λi h h' st k=>k it (by simp) _ st
 item:=by
  intro X hP hw hK hc i a7 s σ H E I hf st hg
  subst hP hw hK
  obtain⟨f0,f1,f2,f3,f4,f5⟩:=hf it (by simp)
  have W:=Walks.range (prog:=X.prog) (w:=X.w) (I.ok.hd hc) it lo 1 n
  refine W.item i s _ _ hg st λv h' tk hv a9 kk=>?_
  obtain⟨t,rfl⟩:=hv
  have I1:Inv X a7 σ H {s with heap:=h',toks:=tk}:=I.turned (λb o hb e=>kk b o (by simpa using hb) e) f0 f1 f3 f4 f5
  refine⟨_,rfl,go_of (s:={s with heap:=h',toks:=tk}) (n := "range_iterator") a9 rfl rfl (by decide) ⟨.int (lo+i),H,I1,⟨t,?_⟩,⟨rfl,rfl⟩,a9,λb hb=>(hf b hb).1⟩⟩
  rw[Int.mul_one]
 done:=by
  intro X hP hw hK hc i a7 s σ H E I hf st hg
  subst hP hw hK
  obtain⟨f0,f1,f2,f3,f4,f5⟩:=hf it (by simp)
  exact wpAny_pyNext_range_end (I.ok.hd hc) st (by have:n≤i:=hg;lia) λh' eb=>⟨rfl,I.turned (t':=s.toks) (λb o hb e=>eb b o hb e) f0 f1 f3 f4 f5⟩
 self:=λ_ _ _ _ _ st h=>wpAny_pyIter_rangeiter st h
end L2
namespace L2
open PySem PySem.Spec PyProof.Rows
section
variable{X:Cx}{tg:Expr}
inductive RI1(x:V)(S R:Addr→Prop):Prop
 |mk (a:Nc) (e:x=.ref a) (s:S a) (q:R a):RI1 x S R
def iList(K:Na)(tl:TE):TI:=λ σ H R=>tl σ H λx H1=>RI1 x (λa=>∃xs,SqL K H1 a xs) λa=>R (Itl K a) H1
def iTup(K:Na)(tl:TE):TI:=λ σ H R=>tl σ H λx H1=>RI1 x (λa=>∃xs,SqT K H1 a xs) λa=>R (Itt K a) H1
def za7{l:Expr}{tl:TE}(hl:PE X l tl):PI X tg l (iList X.K tl):=by
 intro a7 s σ H R I h
 refine thn (hl a7 s σ H _ I h) λv s1 ⟨x,H1,I1,r1,q1⟩=>?_
 obtain⟨a,e,⟨xs,hq⟩,q⟩:=q1
 subst e
 cases r1
 obtain⟨a8,rv,p,hz⟩:=I1.list hq
 refine wpAny_pyIter_list p.isList ?_
 refine⟨s1.heap.objs.size,[s1.heap.objs.size],_,_,H1,rfl,I1.kept (t':=s1.toks) λb o e=>Qi _ e,turn_list a _,⟨_,Za _ rfl,rfl,rfl⟩,λb hb=>?_,q⟩
 have e:b=s1.heap.objs.size:=by simpa using hb
 subst e
 exact I1.fpOk (Qd _) (I1.hok.fresh (Qd _))
def pi_tup{l:Expr}{tl:TE}(hl:PE X l tl):PI X tg l (iTup X.K tl):=by
 intro a7 s σ H R I h
 refine thn (hl a7 s σ H _ I h) λv s1 ⟨x,H1,I1,r1,q1⟩=>?_
 obtain⟨a,e,⟨xs,hq⟩,q⟩:=q1
 subst e
 cases r1
 obtain⟨a8,rv,p,hz⟩:=I1.tuple hq
 refine wpAny_pyIter_tuple (show s1.heap.IsTuple a a8.toArray from p) ?_
 refine⟨s1.heap.objs.size,[s1.heap.objs.size],_,_,H1,rfl,I1.kept (t':=s1.toks) λb o e=>Qi _ e,turn_tuple a _,⟨_,Za _ rfl,rfl,rfl⟩,λb hb=>?_,q⟩
 have e:b=s1.heap.objs.size:=by simpa using hb
 subst e
 exact I1.fpOk (Qd _) (I1.hok.fresh (Qd _))
def range_it{a7:Nd}{σ:St}{H:Hp}{s:Ng}{R:It→Hp→Prop}{E:Nb}{lo hi:Int}{t u v:Tok}{tk:Nat}(I:Inv X a7 σ H s)(h1:-(2 ^ 62)≤lo)(h2:lo<2 ^ 62)(h3:-(2 ^ 62)≤hi)(h4:hi<2 ^ 62)(q:R (Itr lo (hi-lo).toNat) H):wpAny (model X.prog X.w) X.A (pyIter (.ref s.heap.objs.size)) (PIE X a7 σ tg R) E {s with heap:=s.heap.push {cls:=.type "range",data:=.fields #[.int lo t,.int hi u,.int 1 v]},toks:=tk}:=by
 refine wpAny_pyIter_range (IsRange.new ..) (small_one h1 h2 h3 h4) ?_
 have I1:Inv X a7 σ H {s with heap:=s.heap.push {cls:=.type "range",data:=.fields #[.int lo t,.int hi u,.int 1 v]},toks:=tk}:=I.kept λb o e=>Qi _ e
 refine⟨(s.heap.push {cls:=.type "range",data:=.fields #[.int lo t,.int hi u,.int 1 v]}).objs.size,[(s.heap.push {cls:=.type "range",data:=.fields #[.int lo t,.int hi u,.int 1 v]}).objs.size],_,_,H,rfl,
  I1.kept (t':=tk) λb o e=>Qi _ e,turn_range _ lo (hi-lo).toNat,?_,λb hb=>?_,q⟩
 ·have e1:lo+((0:Nat):Int)*1=lo:=by simp
  have e2:(((hi-lo).toNat:Nat):Int)-((0:Nat):Int)=Builtin.Range.rangeSize lo hi 1:=by rw[rangeSize_one];split<;>lia
  show IsRangeIter _ _ (lo+((0:Nat):Int)*1) ((((hi-lo).toNat:Nat):Int)-((0:Nat):Int)) 1
  rw[e1,e2]
  exact Za _ rfl
 ·have e:b=(s.heap.push { cls:=.type "range",data:=.fields #[.int lo t,.int hi u,.int 1 v] }).objs.size:=by simpa using hb
  subst e
  exact I1.fpOk (Qd _) (I1.hok.fresh (Qd _))
inductive RR1(vs:List V)(R:Int→Prop):Prop
 |mk (j:Int) (e:vs=[.int j]) (l:-(2 ^ 62)≤j) (u:j<2 ^ 62) (q:R j):RR1 vs R
def iRng1(ta:TA):TI:=λ σ H R=>ta σ H λvs H1=>RR1 vs λj=>R (Itr 0 j.toNat) H1
def zci{a:Expr}{ta:TA}{p pos:Pos}(hg:Gl X "range")(hm:X.mg "range" = none)(ha:PA X [a] ta)(hs:starEach [a] X.env=[(false,eval a X.env)]:=by rfl):PI X tg (.Call (.Name "range" p) [a] [] pos) (iRng1 ta):=by
 intro a7 s σ H R I h
 refine Call_ (ld_blt I hg hm boot_range (Kt (thn (ha pos a7 s σ H _ I h) λus s1 ⟨vs,H1,I1,r1,q1⟩=>?_) hs rfl))
 obtain⟨j,e,q1,q2,q⟩:=q1
 subst e
 cases r1 with
 |cons r rr =>
  cases rr
  obtain⟨t,rfl⟩:=r
  exact call_range_1 (range_it I1 (by lia) (by lia) q1 q2 (by simpa using q))
def tFor(wi:TI)(g:TG)(tb:TS):TS:=λD σ H=>wi σ H λJ H1=>∃W:Nat→Nat→St→Hp→Prop,(∃m,W 0 m σ H1)∧∀i m σ H,W i m σ H →
 (J.stop i H∧D.nx σ H)∨(J.go i H∧∃N:St→Hp→Prop,(∀σ' H',N σ' H'→∃m',m'<m∧W (i+1) m' σ' H')∧∀x H',J.yld i H x H'→g x σ H' λ σ2 H2=>tb {D with nx:=N,ct:=N,bk:=D.nx} σ2 H2)
def zbb(fp:Nk)(h:Nm):List (Addr×Obj):=fp.filterMap λb=>(h.get? b).map λo=>(b,o)
def za2(hb:b∈fp)(e:h.get? b=some o):(b,o)∈zbb fp h:=List.mem_filterMap.mpr ⟨b,hb,by rw[e];rfl⟩
def zcx(hp:p∈zbb fp h):p.1∈fp∧h.get? p.1=some p.2:=by
 obtain⟨b,hb,e⟩:=List.mem_filterMap.mp hp
 cases q:h.get? b with
 |none=>rw[q]at e;cases e
 |some o =>
  rw[q]at e
  have e':(b,o)=p:=Qs e
  subst e'
  exact⟨hb,q⟩
def Inv.pinned(I:Inv X a7 σ H s)(hf:∀b∈fp,FpOk X a7 H b)(ho:∀b∈fp,∃o,s.heap.get? b=some o∧∀v,o.data≠.cell v):Inv X (a7++zbb fp s.heap) σ H s :=
 I.pins_of λp hp=>(Qf.mp hp).elim (λz=>I.pin p (Qj _ z)) λz=>by
  obtain⟨hb,e⟩:=zcx z
  obtain⟨f0,f1,f2,_⟩:=hf p.1 hb
  obtain⟨o,e',d⟩:=ho p.1 hb
  rw[e]at e';cases e'
  exact⟨e,f0,f1,f2,d⟩
def Inv.unpinned(I:Inv X (a7++pl) σ H s):Inv X a7 σ H s:=I.pins_of λp hp=>I.pin p (Qj _ (Qv _ hp))
def zbq(hp:PassesOwn (model X.prog X.w) X.A X.env X.xe)(hc:X.calm=true)(hi:PI X tg iter wi)(hg:PG X tg g)(hb:PSs X body tb)(hs:∀x,foldedSetIterable iter X.env x=pure x:=by intro _;rfl):PS X (.For tg iter body [] pos) (tFor wi g tb):=by
 intro a7 s σ H D I h
 refine wpAny_For (thn (hi a7 s σ H _ I h) λv s1 h1=>thn h1 λitv s2 h2=>?_) hs
 obtain⟨it,fp,tn,J,H2,e,I2,T,aq,f2,W,⟨m0,w0⟩,turn⟩:=h2
 subst e
 have stat:∀{H':Hp},(∀b∈fp,H' b=none)→∀b∈fp,FpOk X a7 H' b:=λhn b hb=>⟨hn b hb,(f2 b hb).2⟩
 refine codeAny_forLoop_any (λn s'=>Ex3 λi σ' H'=>Aj4 (Inv X a7 σ' H' s') (tn i s'.heap) (∀b∈fp,H' b=none) (W i n σ' H')) ?_ m0 ⟨0,σ,H2,I2,aq,λb hb=>(f2 b hb).1,w0⟩
 rintro n s3 ⟨i,σ3,H3,I3,ai,fr3,w3⟩
 rcases turn i n σ3 H3 w3 with⟨stop,qn⟩ | ⟨go,N,hN,step⟩
 ·refine wpAny_passesOwn hp (thn (T.done X rfl rfl rfl hc i a7 s3 σ3 H3 X.xe I3 (stat fr3) ai stop) fun r s4 ⟨hr,I4⟩=>?_)
  subst hr
  exact wpAny_execs_nil ⟨σ3,H3,I4,qn⟩
 ·refine wpAny_passesOwn hp (thn (T.item X rfl rfl rfl hc i a7 s3 σ3 H3 X.xe I3 (stat fr3) ai go) fun r s4 ⟨u,hr,h4⟩=>?_)
  subst hr
  refine wpAny_passesOwn hp (thn h4 λ_ s5 ⟨x,H5,I5,r5,y5,i9,fr5⟩=>?_)
  have dE:=I5.pinned (stat fr5) (T.obj _ _ i9)
  refine wpAny_passesOwn hp (thn (hg _ s5 σ3 H5 x u _ dE r5 (step x H5 y5)) λ_ s6 ⟨σ6,H6,I6,q6⟩=>?_)
  refine wpAny_passesOwn hp (thn (hb _ s6 σ6 H6 _ I6 q6) λf s7 q7=>?_)
  have again:∀{σ7:St} {H7:Hp},Inv X (a7++zbb fp s5.heap) σ7 H7 s7→N σ7 H7→∃m,m<n∧Ex3 λi σ' H'=>Aj4 (Inv X a7 σ' H' s7) (tn i s7.heap) (∀b∈fp,H' b=none) (W i m σ' H'):=λ{σ7 H7} I7 n7=>by
   obtain⟨m',hm,w7⟩:=hN σ7 H7 n7
   refine⟨m',hm,i+1,σ7,H7,I7.unpinned,T.keep _ _ _ i9 λb hb o e=>(I7.pin (b,o) (Qj _ (Qj _ (za2 hb e)))).1,λb hb=>?_,w7⟩
   obtain⟨o,e,d⟩:=T.obj _ _ i9 b hb
   exact(I7.pin (b,o) (Qj _ (Qj _ (za2 hb e)))).2.1
  cases f with
  |next=>obtain⟨σ7,H7,I7,n7⟩:=q7;exact again I7 n7
  |cont=>obtain⟨σ7,H7,I7,n7⟩:=q7;exact again I7 n7
  |brk=>obtain⟨σ7,H7,I7,q7⟩:=q7;exact⟨σ7,H7,I7.unpinned,q7⟩
  |ret v=>obtain⟨x7,σ7,H7,I7,r7,q7⟩:=q7;exact⟨x7,σ7,H7,I7.unpinned,r7,q7⟩
end
def zbv{K:Na}{a:Nc}{xs:List V}{g:TG}{tb:TS}{D:Ends}{σ:St}{H:Hp}(Pv:Nat→St→Hp→Prop)(h0:Pv 0 σ H)(hl:∀i σ H,i≤xs.length→Pv i σ H→SqL K H a xs)(hs:∀i x σ H,xs[i]?=some x→Pv i σ H→g x σ H λ σ2 H2=>tb {D with nx:=Pv (i+1),ct:=Pv (i+1),bk:=D.nx} σ2 H2)(hd:∀σ H,Pv xs.length σ H→D.nx σ H) :
  ∃W:Nat→Nat→St→Hp→Prop,(∃m,W 0 m σ H)∧∀i m σ H,W i m σ H →
   ((Itl K a).stop i H∧D.nx σ H)∨((Itl K a).go i H∧∃N:St→Hp→Prop,(∀σ' H',N σ' H'→∃m',m'<m∧W (i+1) m' σ' H')∧∀x H',(Itl K a).yld i H x H'→g x σ H' λ σ2 H2=>tb {D with nx:=N,ct:=N,bk:=D.nx} σ2 H2):=by
 refine⟨λi m σ H=>m=xs.length-i∧i≤xs.length∧Pv i σ H,⟨xs.length,by simp,Zh _,h0⟩,?_⟩
 rintro i m σ H ⟨rfl,hi,p⟩
 have q:=hl i σ H hi p
 by_cases ae:i<xs.length
 ·refine .inr ⟨⟨xs,xs[i],q,by simp [ae]⟩,Pv (i+1),fun σ' H' p'=>⟨xs.length - (i+1),by exact zar1 ‹_›,rfl,ae,p'⟩,fun x H' y=>?_⟩
  obtain⟨e,y⟩:=y
  subst e
  exact hs i x σ _ (y xs q) p
 ·have e:i=xs.length:=by exact zar3 ‹_› ‹_›
  subst e
  exact .inl ⟨⟨xs,q,Qd _⟩,hd σ H p⟩
def for_tup{K:Na}{a:Nc}{xs:List V}{g:TG}{tb:TS}{D:Ends}{σ:St}{H:Hp}(Pv:Nat→St→Hp→Prop)(h0:Pv 0 σ H)(hl:∀i σ H,i≤xs.length→Pv i σ H→SqT K H a xs)(hs:∀i x σ H,xs[i]?=some x→Pv i σ H→g x σ H λ σ2 H2=>tb {D with nx:=Pv (i+1),ct:=Pv (i+1),bk:=D.nx} σ2 H2)(hd:∀σ H,Pv xs.length σ H→D.nx σ H) :
  ∃W:Nat→Nat→St→Hp→Prop,(∃m,W 0 m σ H)∧∀i m σ H,W i m σ H →
   ((Itt K a).stop i H∧D.nx σ H)∨((Itt K a).go i H∧∃N:St→Hp→Prop,(∀σ' H',N σ' H'→∃m',m'<m∧W (i+1) m' σ' H')∧∀x H',(Itt K a).yld i H x H'→g x σ H' λ σ2 H2=>tb {D with nx:=N,ct:=N,bk:=D.nx} σ2 H2):=by
 refine⟨λi m σ H=>m=xs.length-i∧i≤xs.length∧Pv i σ H,⟨xs.length,by simp,Zh _,h0⟩,?_⟩
 rintro i m σ H ⟨rfl,hi,p⟩
 have q:=hl i σ H hi p
 by_cases ae:i<xs.length
 ·refine .inr ⟨⟨xs,xs[i],q,by simp [ae]⟩,Pv (i+1),fun σ' H' p'=>⟨xs.length - (i+1),by exact zar1 ‹_›,rfl,ae,p'⟩,fun x H' y=>?_⟩
  obtain⟨e,y⟩:=y
  subst e
  exact hs i x σ _ (y xs q) p
 ·have e:i=xs.length:=by exact zar3 ‹_› ‹_›
  subst e
  exact .inl ⟨⟨xs,q,Qd _⟩,hd σ H p⟩
def zcl{lo:Int}{n:Nat}{g:TG}{tb:TS}{D:Ends}{σ:St}{H:Hp}(Pv:Nat→St→Hp→Prop)(h0:Pv 0 σ H)(hs:∀i σ H,i<n→Pv i σ H→g (.int (lo+i)) σ H λ σ2 H2=>tb {D with nx:=Pv (i+1),ct:=Pv (i+1),bk:=D.nx} σ2 H2)(hd:∀σ H,Pv n σ H→D.nx σ H) :
  ∃W:Nat→Nat→St→Hp→Prop,(∃m,W 0 m σ H)∧∀i m σ H,W i m σ H →
   ((Itr lo n).stop i H∧D.nx σ H)∨((Itr lo n).go i H∧∃N:St→Hp→Prop,(∀σ' H',N σ' H'→∃m',m'<m∧W (i+1) m' σ' H')∧∀x H',(Itr lo n).yld i H x H'→g x σ H' λ σ2 H2=>tb {D with nx:=N,ct:=N,bk:=D.nx} σ2 H2):=by
 refine⟨λi m σ H=>m=n-i∧i≤n∧Pv i σ H,⟨n,by simp,Zh _,h0⟩,?_⟩
 rintro i m σ H ⟨rfl,hi,p⟩
 by_cases ae:i<n
 ·refine .inr ⟨ae,Pv (i+1),fun σ' H' p'=>⟨n - (i+1),by exact zar1 ‹_›,rfl,ae,p'⟩,fun x H' y=>?_⟩
  obtain⟨e,y⟩:=y
  subst e y
  exact hs i σ _ ae p
 ·have e:i=n:=by exact zar3 ‹_› ‹_›
  subst e
  exact .inl ⟨Qd _,hd σ H p⟩
end L2
namespace L2
open PySem PySem.Spec PyProof.Rows
abbrev R2:=V→V→Hp→VK→Prop
def OpR(X:Cx)(f:Value→Value→Sem Value)(r:R2):Prop :=
 ∀(a7:Nd) (s:Ng) (σ:St) (H:Hp) (x y:V) (v u:Value) (Q:VK),Inv X a7 σ H s→RelV x v→RelV y u→r x y H Q →
  wpAny (model X.prog X.w) X.A (f v u) (EP X a7 σ Q) X.xe s
def UnR(X:Cx)(f:Value→Sem Value)(r:V→Hp→VK→Prop):Prop :=
 ∀(a7:Nd) (s:Ng) (σ:St) (H:Hp) (x:V) (v:Value) (Q:VK),Inv X a7 σ H s→RelV x v→r x H Q →
  wpAny (model X.prog X.w) X.A (f v) (EP X a7 σ Q) X.xe s
def zb3(X:Cx)(f:Value)(r:List V→Hp→VK→Prop):Prop :=
 ∀(a7:Nd) (s:Ng) (σ:St) (H:Hp) (xs:List V) (us:Nh) (Q:VK),Inv X a7 σ H s→Vals xs us→r xs H Q →
  wpAny (model X.prog X.w) X.A (call f us) (EP X a7 σ Q) X.xe s
def TruR(X:Cx)(r:V→Hp→(Bool→Hp→Prop)→Prop):Prop :=
 ∀(a7:Nd) (s:Ng) (σ:St) (H:Hp) (x:V) (v:Value) (Q:Bool→Hp→Prop),Inv X a7 σ H s→RelV x v→r x H Q →
  wpAny (model X.prog X.w) X.A (truthy v) (TP X a7 σ Q) X.xe s
def tOp(r:R2)(ta tb:TE):TE:=λ σ H Q=>ta σ H λx H1=>tb σ H1 λy H2=>r x y H2 Q
def tUn(r:V→Hp→VK→Prop)(ta:TE):TE:=λ σ H Q=>ta σ H λx H1=>r x H1 Q
inductive RrI(C:Int→Int→Prop)(g:Int→Int→V)(x:V)(y:V)(H:Hp)(Q:VK):Prop
 |mk (i:_) (j:_) (h0:x=.int i) (h1:y=.int j) (h2:C i j) (h3:Q (g i j) H):RrI C g x y H Q
def rI(C:Int→Int→Prop)(g:Int→Int→V):R2:=λx y H Q=>RrI C g x y H Q
inductive RrI0(g:Int→Int→V)(x:V)(y:V)(H:Hp)(Q:VK):Prop
 |mk (i:_) (j:_) (h0:x=.int i) (h1:y=.int j) (h2:Q (g i j) H):RrI0 g x y H Q
def rI0(g:Int→Int→V):R2:=λx y H Q=>RrI0 g x y H Q
def rU(g:Int→V):V→Hp→VK→Prop:=λx H Q=>∃i,x=.int i∧Q (g i) H
section
variable{X:Cx}{a b c:Expr}{ta tb tc:TE}{pos:Pos}
def binT(ha:PE X a ta)(hb:PE X b tb){a7:Nd}{s:Ng}{σ:St}{H:Hp}{R:V→V→Hp→Prop}(I:Inv X a7 σ H s)(h:ta σ H λx H1=>tb σ H1 λy H2=>R x y H2){Q:Nb}{f:Value→Value→Sem Value}(hf:∀v u s2 x y H2,Inv X a7 σ H2 s2→RelV x v→RelV y u→R x y H2→wpAny (model X.prog X.w) X.A (f v u) Q X.xe s2) :
  wpAny (model X.prog X.w) X.A (eval a X.env) (λv s₁=>wpAny (model X.prog X.w) X.A (eval b X.env) (λu s₂=>wpAny (model X.prog X.w) X.A (f v u) Q X.xe s₂) X.xe s₁) X.xe s:=by
 refine thn (ha a7 s σ H _ I h) λv s1 ⟨x,H1,I1,r1,q1⟩=>?_
 refine thn (hb a7 s1 σ H1 _ I1 q1) λu s2 ⟨y,H2,I2,r2,q2⟩=>?_
 exact hf v u s2 x y H2 I2 r1 r2 q2
def zav{op:Operator}{r:R2}(ho:OpR X (binaryOp op) r)(ha:PE X a ta)(hb:PE X b tb):PE X (.BinOp a op b pos) (tOp r ta tb):=by
 intro a7 s σ H Q I h
 exact wpAny_BinOp (binT ha hb I h λv u s2 x y H2 I2 rx ry q=>ho a7 s2 σ H2 x y v u Q I2 rx ry q)
def pe_un(ho:UnR X (unaryOp op) r)(ha:PE X a ta):PE X (.UnaryOp op a pos) (tUn r ta):=by
 intro a7 s σ H Q I h
 exact UnaryOp_ (thn (ha a7 s σ H _ I h) λv s1 ⟨x,H1,I1,r1,q1⟩=>ho a7 s1 σ H1 x v Q I1 r1 q1)
def opI{f:Value→Value→Sem Value}{C:Int→Int→Prop}{g:Int→Int→Int}(rule:∀(i j:Int) (t u:Tok) (s:Ng) (Q:Nb) (E:Nb),C i j→Q (.int (g i j) s.toks) {s with toks:=s.toks+1}→wpAny (model X.prog X.w) X.A (f (.int i t) (.int j u)) Q E s) :
  OpR X f (rI C λi j=>.int (g i j)):=by
 intro a7 s σ H x y v u Q I rx ry h
 obtain⟨i,j,rfl,rfl,hc,q⟩:=h
 obtain⟨t,rfl⟩:=rx
 obtain⟨t',rfl⟩:=ry
 exact rule i j t t' s _ _ hc ⟨.int (g i j),H,I.tok _,⟨_,rfl⟩,q⟩
def opI0{f:Value→Value→Sem Value}{g:Int→Int→Int}(rule:∀(i j:Int) (t u:Tok) (s:Ng) (Q:Nb) (E:Nb),Q (.int (g i j) s.toks) {s with toks:=s.toks+1}→wpAny (model X.prog X.w) X.A (f (.int i t) (.int j u)) Q E s) :
  OpR X f (rI0 λi j=>.int (g i j)):=by
 intro a7 s σ H x y v u Q I rx ry h
 obtain⟨i,j,rfl,rfl,q⟩:=h
 obtain⟨t,rfl⟩:=rx
 obtain⟨t',rfl⟩:=ry
 exact rule i j t t' s _ _ ⟨.int (g i j),H,I.tok _,⟨_,rfl⟩,q⟩
def opB0{f:Value→Value→Sem Value}{g:Int→Int→Bool}(rule:∀(i j:Int) (t u:Tok) (s:Ng) (Q:Nb) (E:Nb),Q (.bool (g i j)) s→wpAny (model X.prog X.w) X.A (f (.int i t) (.int j u)) Q E s) :
  OpR X f (rI0 λi j=>.bl (g i j)):=by
 intro a7 s σ H x y v u Q I rx ry h
 obtain⟨i,j,rfl,rfl,q⟩:=h
 obtain⟨t,rfl⟩:=rx
 obtain⟨t',rfl⟩:=ry
 exact rule i j t t' s _ _ ⟨.bl (g i j),H,I,rfl,q⟩
def CDiv(i j:Int):Prop:=0<j∧j<1073741824
def CPow(i j:Int):Prop:=0≤j∧j≤1000000∧i.natAbs<2 ^ 64
def CMul(i j:Int):Prop:=(-(2 ^ 64)<i∧i<2 ^ 64)∨(-(2 ^ 64)<j∧j<2 ^ 64)
def CMul.ok{i j:Int}(h:CMul i j):IntMulOk i j:=by
 rcases h with⟨h1,h2⟩ | ⟨h1,h2⟩
 ·exact .of_left (intBits_le_64 h1 h2)
 ·exact .of_right (intBits_le_64 h1 h2)
def zb0:OpR X (binaryOp .Add) (rI0 λi j=>.int (i+j)):=opI0 λ_ _ _ _ _ _ _ q=>add_int q
def op_sub:OpR X (binaryOp .Sub) (rI0 λi j=>.int (i-j)):=opI0 λ_ _ _ _ _ _ _ q=>sub_int q
def zga:OpR X (binaryOp .Mult) (rI CMul λi j=>.int (i*j)):=opI λ_ _ _ _ _ _ _ hc q=>mul_int q hc.ok
def zgc:OpR X (binaryOp .FloorDiv) (rI CDiv λi j=>.int (i/j)):=opI λi j _ _ _ _ _ hc q=>by
 have h1:(0:Int)<j:=hc.1
 have h2:j<1073741824:=hc.2
 exact floordiv_int (by lia) (by rw[Int.fdiv_eq_ediv_of_nonneg i (by lia)];exact q) (.inl (PyProof.noPylong_small (by lia)))
def zcq:OpR X (binaryOp .Mod) (rI (λ_ j=>0<j) λi j=>.int (i%j)):=opI λi j _ _ _ _ _ hc q=>by
 have h1:(0:Int)<j:=hc
 exact mod_int' (by lia) (by rw[Int.fmod_eq_emod_of_nonneg i (by lia)];exact q)
def op_pow:OpR X (binaryOp .Pow) (rI CPow λi j=>.int (i ^ j.toNat)):=opI λ_ _ _ _ _ _ _ hc q=>pow_int_small hc.1 hc.2.1 hc.2.2 q
def unI{f:Value→Sem Value}{g:Int→Int}(rule:∀(i:Int) (t:Tok) (s:Ng) (Q:Nb) (E:Nb),Q (.int (g i) s.toks) {s with toks:=s.toks+1}→wpAny (model X.prog X.w) X.A (f (.int i t)) Q E s) :
  UnR X f (rU λi=>.int (g i)):=by
 intro a7 s σ H x v Q I rx h
 obtain⟨i,rfl,q⟩:=h
 obtain⟨t,rfl⟩:=rx
 exact rule i t s _ _ ⟨.int (g i),H,I.tok _,⟨_,rfl⟩,q⟩
def un_neg:UnR X (unaryOp .USub) (rU λi=>.int (-i)):=unI λ_ _ _ _ _ q=>neg_int q
def scal:V→V→Bool
 |.non,.non=>true | .non,.int _=>true | .int _,.non=>true | .non,.bl _=>true | .bl _,.non=>true | .non,.str _=>true | .str _,.non=>true
 |.int _,.int _=>true | .bl _,.bl _=>true | .str _,.str _=>true | .byt _,.byt _=>true
 |.int _,.str _=>true | .str _,.int _=>true | .bl _,.str _=>true | .str _,.bl _=>true
 |_,_=>false
def rEq:R2:=λx y H Q=>scal x y=true∧Q (.bl (decide (x=y))) H
def rNe:R2:=λx y H Q=>scal x y=true∧Q (.bl (!decide (x=y))) H
def dec_int:decide (V.int i=V.int j)=(i==j):=by
 rw[Wm]
 simp
def dec_bl:decide (V.bl i=V.bl j)=(i==j):=by
 rw[Wm]
 simp
def dec_str:decide (V.str i=V.str j)=(i==j):=by
 rw[Wm]
 simp
def dec_byt:decide (V.byt i=V.byt j)=(i.toList==j.toList):=by
 rw[Wm]
 cases i
 cases j
 simp
def za4(I:Inv X a7 σ H s)(q:Q (.bl k) H)(e:k=k'):EP X a7 σ Q (.bool k') s:=by
 subst e
 exact⟨.bl k,H,I,rfl,q⟩
def op_eq:OpR X (compareOp .Eq) rEq:=by
 intro a7 s σ H x y v u Q I rx ry h
 obtain⟨hs,q⟩:=h
 cases x with
 |non =>
  cases rx
  cases y with
  |non=>cases ry;exact PySem.EqNone.eq_none_none (za4 I q (by simp))
  |bl j=>cases ry;exact PySem.EqNone.eq_none_bool (za4 I q (by simp))
  |int j=>obtain⟨t',rfl⟩:=ry;exact PySem.EqNone.eq_none_int (za4 I q (by simp))
  |str j=>obtain⟨t',rfl⟩:=ry;exact PySem.EqNone.eq_none_str (za4 I q (by simp))
  |_=>exact absurd (show false=true from hs) Zb
 |bl i =>
  cases rx
  cases y with
  |non=>cases ry;exact PySem.EqNone.eq_bool_none (za4 I q (by simp))
  |bl j=>cases ry;exact eq_bool (za4 I q dec_bl)
  |str j=>obtain⟨t',rfl⟩:=ry;exact PySem.EqMixed.eq_bool_str (za4 I q (by simp))
  |_=>exact absurd (show false=true from hs) Zb
 |int i =>
  obtain⟨t,rfl⟩:=rx
  cases y with
  |non=>cases ry;exact PySem.EqNone.eq_int_none (za4 I q (by simp))
  |int j=>obtain⟨t',rfl⟩:=ry;exact eq_int (za4 I q dec_int)
  |str j=>obtain⟨t',rfl⟩:=ry;exact PySem.EqMixed.eq_int_str (za4 I q (by simp))
  |_=>exact absurd (show false=true from hs) Zb
 |str i =>
  obtain⟨t,rfl⟩:=rx
  cases y with
  |non=>cases ry;exact PySem.EqNone.eq_str_none (za4 I q (by simp))
  |bl j=>cases ry;exact PySem.EqMixed.eq_str_bool (za4 I q (by simp))
  |int j=>obtain⟨t',rfl⟩:=ry;exact PySem.EqMixed.eq_str_int (za4 I q (by simp))
  |str j=>obtain⟨t',rfl⟩:=ry;exact eq_str (za4 I q dec_str)
  |_=>exact absurd (show false=true from hs) Zb
 |byt i =>
  obtain⟨t,rfl⟩:=rx
  cases y with
  |byt j=>obtain⟨t',rfl⟩:=ry;exact PySem.W.eq_bytes (za4 I q dec_byt)
  |_=>exact absurd (show false=true from hs) Zb
 |_=>cases y<;>exact absurd (show false=true from hs) Zb
def op_ne:OpR X (compareOp .NotEq) rNe:=by
 intro a7 s σ H x y v u Q I rx ry h
 obtain⟨hs,q⟩:=h
 cases x with
 |non =>
  cases rx
  cases y with
  |non=>cases ry;exact PySem.EqNone.ne_none_none (za4 I q (by simp))
  |bl j=>cases ry;exact PySem.EqNone.ne_none_bool (za4 I q (by simp))
  |int j=>obtain⟨t',rfl⟩:=ry;exact PySem.EqNone.ne_none_int (za4 I q (by simp))
  |str j=>obtain⟨t',rfl⟩:=ry;exact PySem.EqNone.ne_none_str (za4 I q (by simp))
  |_=>exact absurd (show false=true from hs) Zb
 |bl i =>
  cases rx
  cases y with
  |non=>cases ry;exact PySem.EqNone.ne_bool_none (za4 I q (by simp))
  |bl j=>cases ry;exact ne_bool (za4 I q (congrArg not dec_bl))
  |str j=>obtain⟨t',rfl⟩:=ry;exact PySem.EqMixed.ne_bool_str (za4 I q (by simp))
  |_=>exact absurd (show false=true from hs) Zb
 |int i =>
  obtain⟨t,rfl⟩:=rx
  cases y with
  |non=>cases ry;exact PySem.EqNone.ne_int_none (za4 I q (by simp))
  |int j=>obtain⟨t',rfl⟩:=ry;exact ne_int (za4 I q (congrArg not dec_int))
  |str j=>obtain⟨t',rfl⟩:=ry;exact PySem.EqMixed.ne_int_str (za4 I q (by simp))
  |_=>exact absurd (show false=true from hs) Zb
 |str i =>
  obtain⟨t,rfl⟩:=rx
  cases y with
  |non=>cases ry;exact PySem.EqNone.ne_str_none (za4 I q (by simp))
  |bl j=>cases ry;exact PySem.EqMixed.ne_str_bool (za4 I q (by simp))
  |int j=>obtain⟨t',rfl⟩:=ry;exact PySem.EqMixed.ne_str_int (za4 I q (by simp))
  |str j=>obtain⟨t',rfl⟩:=ry;exact ne_str (za4 I q (congrArg not dec_str))
  |_=>exact absurd (show false=true from hs) Zb
 |byt i =>
  obtain⟨t,rfl⟩:=rx
  cases y with
  |byt j=>obtain⟨t',rfl⟩:=ry;exact PySem.W.ne_bytes (za4 I q (congrArg not dec_byt))
  |_=>exact absurd (show false=true from hs) Zb
 |_=>cases y<;>exact absurd (show false=true from hs) Zb
def op_lt:OpR X (compareOp .Lt) (rI0 λi j=>.bl (decide (i<j))):=opB0 λ_ _ _ _ _ _ _ q=>lt_int q
def op_le:OpR X (compareOp .LtE) (rI0 λi j=>.bl (decide (i≤j))):=opB0 λ_ _ _ _ _ _ _ q=>le_int q
def op_gt:OpR X (compareOp .Gt) (rI0 λi j=>.bl (decide (j<i))):=opB0 λ_ _ _ _ _ _ _ q=>gt_int q
def op_lt_str:OpR X (compareOp .Lt) (λx y H Q=>Ex2 λi j=>Aj3 (x=.str i) (y=.str j) (Q (.bl (decide (i.cps.toList<j.cps.toList))) H)):=by
 intro a7 s σ H x y v u Q I rx ry h
 obtain⟨i,j,rfl,rfl,q⟩:=h
 obtain⟨t,rfl⟩:=rx
 obtain⟨t',rfl⟩:=ry
 exact lt_str (za4 I q rfl)
def op_isN:OpR X (compareOp .Is) (λx y H Q=>y=.non∧Q (.bl (decide (x=.non))) H):=by
 intro a7 s σ H x y v u Q I rx ry h
 obtain⟨rfl,q⟩:=h
 cases ry
 refine is_none_gen (za4 I q ?_)
 cases x<;>first
  |(cases rx;rfl)
  |(obtain⟨t,rfl⟩:=rx;rfl)
def zbt(b:Expr)(h:op≠.In:=by decide)(h2:op≠.NotIn:=by decide):behindInMarks op b=false:=by
 have e1:(op==CmpOp.In)=false:=by cases op<;>first | rfl | exact absurd rfl h
 have e2:(op==CmpOp.NotIn)=false:=by cases op<;>first | rfl | exact absurd rfl h2
 cases b<;>simp[behindInMarks,e1,e2]
def pe_cmpR{op:CmpOp}{r:R2}(ho:OpR X (compareOp op) r)(ha:PE X a ta)(hb:PE X b tb)(hm:behindInMarks op b=false):PE X (.Compare a [op] [b] pos) (tOp r ta tb):=by
 intro a7 s σ H Q I h
 exact wpAny_Compare1 (binT ha hb I h λv u s2 x y H2 I2 rx ry q=>ho a7 s2 σ H2 x y v u Q I2 rx ry q) hm
def tTest(t:TE):TT:=λ σ H Q=>t σ H λx H'=>RB x H' Q
def za5(ho:OpR X (compareOp op) r)(ha:PE X a ta)(hb:PE X b tb)(hm:behindInMarks op b=false):PT X (.Compare a [op] [b] pos) (tTest (tOp r ta tb)):=by
 intro a7 s σ H Q I h
 refine wpAny_isTrue_Compare1 (thn (ha a7 s σ H _ I h) λv s1 ⟨x,H1,I1,r1,q1⟩=>thn (hb a7 s1 σ H1 _ I1 q1) λu s2 ⟨y,H2,I2,r2,q2⟩ =>
  thn (ho a7 s2 σ H2 x y v u _ I2 r1 r2 q2) λc s3 ⟨z,H3,I3,r3,k,e,q3⟩=>?_) hm
 subst e
 cases r3
 exact wpAny_truthy_bool ⟨H3,I3,q3⟩
def tChain(r r':R2)(ta tb tc:TE):TE:=λ σ H Q=>ta σ H λx H1=>tb σ H1 λy H2=>r x y H2 λz H3=>RB z H3 λk H3 =>
 (if k=true then tc σ H3 λw' H4=>r' y w' H4 Q else Q (.bl false) H3)
def pe_chain(ho:OpR X (compareOp op) r)(aG:OpR X (compareOp op') r')(ha:PE X a ta)(hb:PE X b tb)(hc:PE X c tc)(hm:lastMarks [op,op'] [b,c]=false:=by with_unfolding_all rfl):PE X (.Compare a [op,op'] [b,c] pos) (tChain r r' ta tb tc):=by
 intro a7 s σ H Q I h
 refine Compare_chain (thn (ha a7 s σ H _ I h) λv s1 ⟨x,H1,I1,r1,q1⟩=>chain_link (thn (hb a7 s1 σ H1 _ I1 q1) λu s2 ⟨y,H2,I2,r2,q2⟩ =>
  thn (ho a7 s2 σ H2 x y v u _ I2 r1 r2 q2) λd s3 ⟨z,H3,I3,r3,k,e,q3⟩=>?_)) hm
 subst e
 cases r3
 refine wpAny_truthy_bool ?_
 cases k with
 |false=>exact ite_ff ⟨.bl false,H3,I3,rfl,q3⟩
 |true=>exact ite_tt (chain_last (thn (hc a7 s3 σ H3 _ I3 q3) λw' s4 ⟨z',H4,I4,r4,q4⟩=>aG a7 s4 σ H4 y z' u w' Q I4 r2 r4 q4))
def TruV(K:Na)(x:V)(H:Hp)(k:Bool):Prop :=
 match x with
 |.non=>k=false
 |.bl b=>k=b
 |.int i=>k=(i != 0)
 |.str y=>y.length≤sizeLine∧k=((y.length:Int) != 0)
 |.byt y=>y.size≤sizeLine∧k=((y.size:Int) != 0)
 |.ref p=>(∃xs,SqL K H p xs∧k=!xs.isEmpty)∨(∃xs,SqT K H p xs∧k=!xs.isEmpty)∨∃kvs,H p=some (.dK kvs)∧k=!kvs.isEmpty
 |_=>False
def isEmpty_kv{κ:Type}{kvs:List (κ×V)}{vs:List (κ×Value)}(r:KV kvs vs):(!vs.isEmpty)=!kvs.isEmpty:=by
 cases r<;>rfl
def zhi{xs:List V}{a8:Nh}(r:Vals xs a8):(!a8.toArray.isEmpty)=!xs.isEmpty:=by
 cases r<;>simp
def zeo:(sizeLine:Nat)<2 ^ 63:=by rw[sizeLine_eq];decide
inductive RTr(K:Na)(x:V)(H:Hp)(Q:Bool→Hp→Prop):Prop
 |mk (k:Bool) (t:TruV K x H k) (q:Q k H):RTr K x H Q
def tru_ok:TruR X (λx H Q=>RTr X.K x H Q):=by
 intro a7 s σ H x v Q I rx h
 obtain⟨k,e,q⟩:=h
 have hl:=zeo
 have hs:sizeLine=16777216:=sizeLine_eq
 cases x with
 |non =>
  cases rx
  have e':k=false:=e
  subst e'
  exact truthy_none ⟨H,I,q⟩
 |bl b =>
  cases rx
  have e':k=b:=e
  subst e'
  exact wpAny_truthy_bool ⟨H,I,q⟩
 |int i =>
  obtain⟨t,rfl⟩:=rx
  have e':k=(i != 0):=e
  subst e'
  exact PySem.P.truthy_int ⟨H,I,q⟩
 |str y =>
  obtain⟨t,rfl⟩:=rx
  obtain⟨hy,e'⟩:y.length≤sizeLine∧k=((y.length:Int) != 0):=e
  subst e'
  exact PySem.P.truthy_str (by lia) ⟨H,I.tok _,q⟩
 |byt y =>
  obtain⟨t,rfl⟩:=rx
  obtain⟨hy,e'⟩:y.size≤sizeLine∧k=((y.size:Int) != 0):=e
  subst e'
  exact PySem.W.truthy_bytes (by lia) ⟨H,I.tok _,q⟩
 | ref p =>
  cases rx
  have e':(∃xs,SqL X.K H p xs∧k=!xs.isEmpty)∨(∃xs,SqT X.K H p xs∧k=!xs.isEmpty)∨∃kvs,H p=some (.dK kvs)∧k=!kvs.isEmpty:=e
  rcases e' with⟨xs,hx,e'⟩ | ⟨xs,hx,e'⟩ | ⟨kvs,hx,e'⟩
  ·subst e'
   obtain⟨a8,r,pl,hz⟩:=I.list hx
   have ad:=r.length
   exact wpAny_truthy_list pl.isList (by simp only[Qn];lia) ⟨H,I.tok _,by rw[zhi r];exact q⟩
  ·subst e'
   obtain⟨a8,r,pl,hz⟩:=I.tuple hx
   have ad:=r.length
   exact truthy_tuple pl (by simp only[Qn];lia) ⟨H,I.tok _,by rw[zhi r];exact q⟩
  ·subst e'
   obtain⟨hz,hS,vs,r,m⟩:kvs.length≤sizeLine∧(p==sysModules)=false∧∃vs,KV kvs vs∧s.heap.DictOf (zaq X.prog X.w) p vs:=I.hok p _ hx
   have ad:kvs.length=vs.length:=Zt r
   exact wpAny_truthy_dict hS m (by lia) ⟨H,I.tok _,by rw[isEmpty_kv r];exact q⟩
 |_=>exact(show False from e).elim
def zfr(ha:PE X a ta)(he:∀whole,isTrue a X.env whole=(do let v ←whole;standAt a.pos;holding [v] (truthy v))) :
  PT X a (λ σ H Q=>ta σ H λx H'=>RTr X.K x H' Q):=by
 intro a7 s σ H Q I h
 exact isTrue_plain (thn (ha a7 s σ H _ I h) λv s1 ⟨x,H1,I1,r1,q1⟩=>tru_ok a7 s1 σ H1 x v Q I1 r1 q1) (he _)
def ze1:OpR X (binaryOp .Add) (λx y H Q=>Ex2 λi j=>Aj4 (x=.str i) (y=.str j) (i.length+j.length≤sizeLine) (Q (.str (i++j)) H)):=by
 intro a7 s σ H x y v u Q I rx ry h
 obtain⟨i,j,rfl,rfl,hz,q⟩:=h
 obtain⟨t,rfl⟩:=rx
 obtain⟨t',rfl⟩:=ry
 exact add_str (λt' tk=>⟨.str (i++j),H,I.tok _,⟨_,rfl⟩,q⟩) hz
def vals1(r:Vals [x] us):∃u,us=[u]∧RelV x u:=by
 cases r with
 |cons r1 r2=>cases r2;exact⟨_,rfl,r1⟩
def vals2(r:Vals [x,y] us):∃u w',us=[u,w']∧RelV x u∧RelV y w':=by
 cases r with
 |cons r1 r2 =>
  cases r2 with
  |cons r3 r4=>cases r4;exact⟨_,_,rfl,r1,r3⟩
def call_max2(hc:X.calm=true):zb3 X (.builtin "max") (λxs H Q=>Ex2 λi j=>Aj2 (xs=[.int i,.int j]) (Q (.int (if j>i then j else i)) H)):=by
 intro a7 s σ H xs us Q I r h
 obtain⟨i,j,rfl,q⟩:=h
 obtain⟨u,w',rfl,⟨t,rfl⟩,⟨t',rfl⟩⟩:=vals2 r
 refine max_two_ints (I.ok.hd hc) λh' tk k=>⟨_,H,I.kept k,?_,q⟩
 by_cases hj:j>i
 ·rw[if_pos hj,if_pos hj];exact⟨_,rfl⟩
 ·rw[if_neg hj,if_neg hj];exact⟨_,rfl⟩
def call_min2(hc:X.calm=true):zb3 X (.builtin "min") (λxs H Q=>Ex2 λi j=>Aj2 (xs=[.int i,.int j]) (Q (.int (if j<i then j else i)) H)):=by
 intro a7 s σ H xs us Q I r h
 obtain⟨i,j,rfl,q⟩:=h
 obtain⟨u,w',rfl,⟨t,rfl⟩,⟨t',rfl⟩⟩:=vals2 r
 refine min_two_ints (I.ok.hd hc) λh' tk k=>⟨_,H,I.kept k,?_,q⟩
 by_cases hj:j<i
 ·rw[if_pos hj,if_pos hj];exact⟨_,rfl⟩
 ·rw[if_neg hj,if_neg hj];exact⟨_,rfl⟩
end
end L2
namespace L2
open PySem PySem.Spec PyProof.Rows
structure ObjM(h:Nm)(x dx C:Nc)(mA:Nf):Prop where
 obj:h.get? x=some (PySem.W.instObj C dx)
 ns:h.Ns1 dx mA
 ne:dx≠x
def lookIn_ns{h:Nm}{mA:Nf}(n:h.Ns1 dx mA):∃od,h.get? dx=some od∧∀name,PySem.W.lookIn name od=some (mA name):=by
 obtain⟨o,es,ep,ho,hd,hk,_,hm⟩:=n
 refine⟨o,ho,λname=>?_⟩
 have e:=hm name
 unfold nsFind findBy at e
 rw[←Array.find?_toList]at e
 unfold PySem.W.lookIn
 rw[hd]
 dsimp only
 split
 ·rename_i y q
  rw[q]at e
  exact congrArg some e
 ·rename_i q
  rw[q]at e
  have a:es.toList.any (·.refKey)=false:=by
   rw[List.any_eq_false]
   intro y hy
   obtain⟨z,t,jg⟩:=hk y (Array.mem_toList_iff.mp hy)
   simp[DictEntry.refKey,jg]
  have a':¬es.toList.any (·.refKey)=true:=by rw[a];exact Zb
  rw[if_neg a']
  exact congrArg some e
def ObjM.look(I:ObjM h x dx C mA):∃od,PySem.W.InstAt h x (PySem.W.instObj C dx) C (some od)∧∀name,PySem.W.lookIn name od=some (mA name) :=
 let⟨od,ho,hl⟩:=lookIn_ns I.ns
 ⟨od,⟨I.obj,rfl,rfl,ho⟩,hl⟩
section
variable{prog:Ni}{w:Nl}{A:Nn}{E:Nb}{s:Ng}{K:Na}{x dx C f:Nc}{mA:Nf}{name:Str}{v:Value}
def get_map(X:K.In s.heap)(I:ObjM s.heap x dx C mA)(hg:PySem.W.plainGet K C name=true)(hh:PySem.W.hasDictIn K C=true)(ha:PySem.W.findIn K (.ref C) name=some none)(hv:mA name=some v)(dI:PySem.W.handedIn v=true)(h:Q v {s with toks:=s.toks+1}) :
  wpAny (model prog w) A (getAttr (.ref x) name expr) Q E s:=by
 obtain⟨od,J,hl⟩:=I.look
 exact PySem.W.get_value X J (PySem.W.plainGet_of hg).1 (PySem.W.findObj_own hh ha rfl (by rw[hl,hv])) dI h
def get_meth(X:K.In s.heap)(I:ObjM s.heap x dx C mA)(hg:PySem.W.plainGet K C name=true)(hf:PySem.W.findIn K (.ref C) name=some (some (.ref f)))(ht:PySem.W.isFn K (.ref f)=true)(hv:mA name=none)(h:Q (.ref f,[.ref x]) s) :
  wpAny (model prog w) A (getMethod (.ref x) name pl) Q E s:=by
 obtain⟨od,J,hl⟩:=I.look
 exact PySem.W.method_fn X J (PySem.W.plainGet_of hg).1 (PySem.W.plainGet_of hg).2 hf (beq_iff_eq.mp ht) (by show(PySem.W.lookIn name od).map (·.isSome)=some false;rw[hl,hv];rfl) h
def set_map(X:K.In s.heap)(I:ObjM s.heap x dx C mA)(hs:PySem.W.findIn K (.ref C) "__setattr__" = some (some (.builtin "object.__setattr__")))(hp:PySem.W.plainOver K C=true)(ht:PySem.W.takerIn K C name=some none)(hh:PySem.W.hasDictIn K C=true)(hw:PySem.Within mA ns)(hsz:ns.length≤sizeLine)(h:∀h',ObjM h' x dx C (λy=>if y=name then some v else mA y)→Heap.SameBut dx s.heap h'→Q () {s with heap:=h',toks:=s.toks+2}) :
  wpAny (model prog w) A (setAttr (.ref x) name v) Q E s:=by
 obtain⟨od,J,hl⟩:=I.look
 refine PySem.W.set_plain X J hs (PySem.W.osa_open (s:={s with toks:=s.toks+1}) (r:=none) X J hp ht λb=>?_)
 obtain⟨cd,hc,fk⟩:=PySem.W.any_some hh
 have hx:s.heap.get? x=some ⟨.ref C,some dx,.plain,#[]⟩:=I.obj
 refine wpAny_bind (wpAny_pure (wpAny_bind (wpAny_bind (wpAny_loadPart hx (wpAny_bind (PySem.W.Looks.here (s:={s with toks:=s.toks+1}) (PySem.W.looks_clsIn X hc) ?_))))))
 rw[fk]
 refine wpAny_pure (a:=some dx) (wpAny_bind (wpAny_pure (wpAny_bind ?_)))
 refine wpAny_nsSet1 (s:={s with toks:=s.toks+1}) I.ns λh' bg cj=>?_
 obtain⟨oD,esD,epD,hoD,hdD,gy⟩:=bg.count (PySem.Within.cons name v hw)
 refine wpAny_bind (wpAny_lookBehind hoD (by rw[hdD];exact pastItsLine_dict (Zi gy (by rw[Zg];exact zar4 ‹_›))) ?_)
 exact wpAny_pure (h _ ⟨(cj.2 _ (Zn I.ne)).trans I.obj,bg,I.ne⟩ cj)
def make_map(X:K.In s.heap)(hm:PySem.W.makesIn K C=true)(hi:PySem.W.findIn K (.ref C) "__init__" = some (some (.ref f)))(hf:PySem.W.typeIn K (.ref f)=some (.type "function"))(h:codeAny (model prog w) (A.under (.builtin "type.__call__" ⟨.ref C::vs,kw⟩)) (.call (.ref f) ⟨.ref (s.heap.objs.size+1)::vs,kw⟩) (PySem.W.InitBack (s.heap.objs.size+1) R)
   {s with heap:=(s.heap.push PySem.W.emptyDict).push (PySem.W.instObj C s.heap.objs.size)}) :
  codeAny (model prog w) A (.call (.ref C) ⟨vs,kw⟩) R s:=by
 obtain⟨hh,g,d,t,os⟩:=s
 exact PySem.W.make_core (PySem.W.makes_of X hm) (PySem.W.looks_findIn X hi) (λself=>PySem.W.bind_fn X self hf) (.inl rfl) h
end
def putF(f:Str)(v:V):List (Str×V)→List (Str×V)
 |[]=>[(f,v)]
 |(g,x)::r=>if g=f then(g,v)::r else(g,x)::putF f v r
theorem zgl(f g:Str)(v:V):∀fs:List (Str×V),(putF f v fs).lookup g=if g=f then some v else fs.lookup g
 | []=>by
  show List.lookup g [(f,v)]=_
  by_cases h:g=f
  ·have hb:(g == f)=true:=beq_iff_eq.mpr h
   simp only[List.lookup,hb,if_pos h]
  ·have hb:(g == f)=false:=beq_eq_false_iff_ne.mpr h
   simp only[List.lookup,hb,if_neg h]
 | (k,x)::r=>by
  have ih:=zgl f g v r
  rw[show putF f v ((k,x)::r)=(if k=f then(k,v)::r else(k,x)::putF f v r) from rfl]
  by_cases hk:k=f
  ·rw [if_pos hk]
   by_cases h:g=k
   ·have hb:(g == k)=true:=beq_iff_eq.mpr h
    simp only[List.lookup,hb,if_pos (h.trans hk)]
   ·have hb:(g == k)=false:=beq_eq_false_iff_ne.mpr h
    simp only[List.lookup,hb,if_neg (λe:g=f=>h (e.trans hk.symm))]
  ·rw [if_neg hk]
   by_cases h:g=k
   ·have hb:(g == k)=true:=beq_iff_eq.mpr h
    simp only[List.lookup,hb,if_neg (λe:g=f=>hk (h.symm.trans e))]
   ·have hb:(g == k)=false:=beq_eq_false_iff_ne.mpr h
    simp only[List.lookup,hb]
    exact ih
theorem zgo(f:Str)(v:V):∀fs:List (Str×V),f∈(putF f v fs).map (·.1)∧∀g,g∈fs.map (·.1)→g∈(putF f v fs).map (·.1)
 |[]=>⟨by simp[putF],λg h=>by simp at h⟩
 | (k,x)::r=>by
  obtain⟨i1,i2⟩:=zgo f v r
  rw[show putF f v ((k,x)::r)=(if k=f then(k,v)::r else(k,x)::putF f v r) from rfl]
  by_cases hk:k=f
  ·rw [if_pos hk]
   subst hk
   exact⟨by simp,λg h=>by simpa using h⟩
  ·rw [if_neg hk]
   refine⟨?_,λg h=>?_⟩
   ·rw [Qk]
    exact Qg _ i1
   ·rw [Qk] at h ⊢
    rcases Qh.mp h with e | e
    ·exact Qh.mpr (.inl e)
    ·exact Qg _ (i2 g e)
theorem zgm(f:Str)(v:V):∀fs:List (Str×V),(putF f v fs).length≤fs.length+1
 |[]=>by simp[putF]
 |(k,x)::r=>by
  have ih:=zgm f v r
  rw[show putF f v ((k,x)::r)=(if k=f then(k,v)::r else(k,x)::putF f v r) from rfl]
  by_cases hk:k=f
  ·rw[if_pos hk,Zg,Zg];exact Zy _ _
  ·rw[if_neg hk,Zg,Zg];exact zar4 ‹_›
def RelO.some_of(r:RelO (some v) o):∃u,o=some u∧RelV v u:=by
 cases o with
 |none=>exact(show False from r).elim
 |some u=>exact⟨u,rfl,r⟩
def RelO.none_of(r:RelO none o):o=none:=by
 cases o with
 |none=>rfl
 |some u=>exact(show False from r).elim
def handed_of(r:RelV v u):PySem.W.handedIn u=true:=by
 cases v with
 |non=>cases(show u=Value.none from r);rfl
 |bl b=>cases(show u=Value.bool b from r);rfl
 |int i=>obtain⟨t,e⟩:=(show ∃t,u=Value.int i t from r);cases e;rfl
 |str x=>obtain⟨t,e⟩:=(show ∃t,u=Value.str x t from r);cases e;rfl
 |byt b=>obtain⟨t,e⟩:=(show ∃t,u=Value.bytes b t from r);cases e;rfl
 |flt b=>obtain⟨t,e⟩:=(show ∃t,u=Value.float b t from r);cases e;rfl
 |ref a=>cases(show u=Value.ref a from r);rfl
 |ty n=>cases(show u=Value.type n from r);rfl
section
variable{P:Ni}{w:Nl}{H H':Hp}{h h':Nm}{a C dx:Nc}{fs oO:List (Str×V)}
def ins_get(hok:HOk P w H h)(e:H a=some (.ins C dx fs)):∃mA,ObjM h a dx C mA∧(∀f,RelO (fs.lookup f) (mA f))∧PySem.Within mA (fs.map (·.1))∧fs.length≤1000∧H dx=some (.own a):=by
 obtain⟨d,z,ne,ob,mA,n,r,q⟩:=(show zbo P w H h a (.ins C dx fs) from hok a _ e)
 exact⟨mA,⟨ob,n,ne⟩,r,q,z,d⟩
end
structure Cls(K:Na)(C:Nc):Prop where
 pg:PySem.W.plainGet K C Str.empty=true
 hd:PySem.W.hasDictIn K C=true
 po:PySem.W.plainOver K C=true
 sa:PySem.W.findIn K (.ref C) "__setattr__" = some (some (.builtin "object.__setattr__"))
def Cls.get{K:Na}{C:Nc}(c:Cls K C)(f:Str):PySem.W.plainGet K C f=true:=c.pg
def zdf(K:Na)(C:Nc)(f:Str):Prop:=PySem.W.findIn K (.ref C) f=some none
def zdf.taker{K:Na}{C:Nc}{f:Str}(n:zdf K C f):PySem.W.takerIn K C f=some none:=by
 unfold PySem.W.takerIn
 rw[show PySem.W.findIn K (.ref C) f=some none from n]
 rfl
structure Meth(K:Na)(C:Nc)(m:Str)(f:Nc):Prop where
 at_:PySem.W.findIn K (.ref C) m=some (some (.ref f))
 fn:PySem.W.isFn K (.ref f)=true
 kp:PySem.W.keepIn K (.ref f)=true
section
variable{X:Cx}{a7:Nd}{σ:St}{H:Hp}{s:Ng}{a C dx:Nc}{fs:List (Str×V)}{f:Str}{v:V}{A:Nn}{E:Nb}
def getattr_ok(I:Inv X a7 σ H s)(e:H a=some (.ins C dx fs))(c:Cls X.K C)(n:zdf X.K C f)(l:fs.lookup f=some v)(h:∀u s',Inv X a7 σ H s'→RelV v u→Q u s'):wpAny (model X.prog X.w) A (getAttr (.ref a) f b) Q E s:=by
 obtain⟨mA,O,r,_,_,_⟩:=ins_get I.hok e
 obtain⟨u,hu,ru⟩:=RelO.some_of (v:=v) (o:=mA f) (by rw[←l];exact r f)
 exact get_map I.kIn O (c.get f) c.hd n hu (handed_of ru) (h u _ (I.tok _) ru)
def zdx(I:Inv X a7 σ H s)(e:H a=some (.ins C dx fs))(c:Cls X.K C)(k:Meth X.K C m g)(l:fs.lookup m=none)(h:Q (.ref g,[.ref a]) s):wpAny (model X.prog X.w) A (getMethod (.ref a) m pl) Q E s:=by
 obtain⟨mA,O,r,_,_,_⟩:=ins_get I.hok e
 have hn:mA m=none:=RelO.none_of (by rw[←l];exact r m)
 exact get_meth I.kIn O (c.get m) k.at_ k.fn hn h
def setattr_ok(I:Inv X a7 σ H s)(e:H a=some (.ins C dx fs))(c:Cls X.K C)(n:zdf X.K C f)(hl:fs.length<1000)(ry:RelV y u)(h:∀s',Inv X a7 σ (upd H a (.ins C dx (putF f y fs))) s'→Q () s'):wpAny (model X.prog X.w) A (setAttr (.ref a) f u) Q E s:=by
 obtain⟨mA,O,r,wi,_,ho⟩:=ins_get I.hok e
 have hz:(fs.map (·.1)).length≤sizeLine:=by rw[Qa,sizeLine_eq];lia
 refine set_map I.kIn O c.sa c.po n.taker c.hd wi hz λh' O' sb=>h _ ?_
 have hd:∃o,h'.get? dx=some o:=let⟨o,_,_,e',_⟩:=O'.ns;⟨o,e'⟩
 refine I.write (x:=a) (e:=dx) (by rw[e];exact True.intro) (.inr ho) (λb q hb z=>(sb.2 b hb).trans z) hd ?_
 refine⟨by rw[zad O.ne];exact ho,?_,O.ne,O'.obj,_,O'.ns,λg=>?_,λg hg=>?_⟩
 ·have:=zgm f y fs;exact Zi ‹_› ‹_›
 ·show RelO ((putF f y fs).lookup g) (if g=f then some u else mA g)
  rw[zgl]
  by_cases q:g=f
  ·rw[if_pos q,if_pos q];exact ry
  ·rw[if_neg q,if_neg q];exact r g
 ·by_cases q:g=f
  ·rw[q];exact(zgo f y fs).1
  ·refine (zgo f y fs).2 g (wi g fun z=>hg ?_)
   show(if g=f then some u else mA g)=none
   rw[if_neg q];exact z
def Inv.made(I:Inv X a7 σ H s):Inv X a7 σ (upd (upd H s.heap.objs.size (.own (s.heap.objs.size+1))) (s.heap.objs.size+1) (.ins C s.heap.objs.size []))
  {s with heap:=(s.heap.push PySem.W.emptyDict).push (PySem.W.instObj C s.heap.objs.size)}:=by
 have e1:(s.heap.push PySem.W.emptyDict).get? s.heap.objs.size=some PySem.W.emptyDict:=Za s.heap rfl
 have e2:((s.heap.push PySem.W.emptyDict).push (PySem.W.instObj C s.heap.objs.size)).get? (s.heap.objs.size+1)=some (PySem.W.instObj C s.heap.objs.size):=by
  have:=Za (s.heap.push PySem.W.emptyDict) (o:=PySem.W.instObj C s.heap.objs.size) rfl
  rwa[Uh]at this
 have e3:(s.heap.push PySem.W.emptyDict).Ns s.heap.objs.size (λ_=>none):=⟨PySem.W.emptyDict,#[],_,e1,rfl,(λe he=>absurd he (by simp)),λ_=>rfl⟩
 have I1:=I.laid (a:=s.heap.objs.size) (o:=.own (s.heap.objs.size+1)) (h':=s.heap.push PySem.W.emptyDict) (t':=s.toks) (λb u q=>Qi _ q) (Qd _) ⟨_,e1⟩
 refine I1.laid (a:=s.heap.objs.size+1) (o:=.ins C s.heap.objs.size []) (t':=s.toks) (λb u q=>Qi _ q) (Nat.le_of_eq (Uh _ _)) ?_
 have ne:s.heap.objs.size≠s.heap.objs.size+1:=Zk (Yv _)
 refine⟨by rw[zad ne,zac],Zh _,ne,e2,λ_=>none,(Heap.Ns1.of_empty e3).at λo q=>Qi _ q,λ_=>True.intro,λy hy=>absurd rfl hy⟩
def attr_of(hb:attributeBase e f env (eval e env)=eval e env)(h:wpAny (model prog w) A (eval e env) (λo s₁=>wpAny (model prog w) A (getAttr o f true) Q E s₁) E s):wpAny (model prog w) A (eval (.Attribute e f pos) env) Q E s :=
 Attribute_any_ h (by rw[arm_eval_Attribute,hb])
end
inductive RFld(K:Na)(f:Str)(x:V)(H:Hp)(Q:VK):Prop
 |mk (a C dx:Nc) (fs:List (Str×V)) (v:V) (e:x=.ref a) (h:H a=some (.ins C dx fs)) (c:Cls K C) (n:zdf K C f) (l:fs.lookup f=some v) (q:Q v H):RFld K f x H Q
def tFld(K:Na)(ta:TE)(f:Str):TE:=λ σ H Q=>ta σ H λx H1=>RFld K f x H1 Q
inductive RFs(K:Na)(f:Str)(x y:V)(H:Hp)(N:Hp→Prop):Prop
 |mk (a C dx:Nc) (fs:List (Str×V)) (e:x=.ref a) (h:H a=some (.ins C dx fs)) (c:Cls K C) (n:zdf K C f) (l:fs.length<1000) (q:N (upd H a (.ins C dx (putF f y fs)))):RFs K f x y H N
def sFld(K:Na)(ta tv:TE)(f:Str):TS:=λD σ H=>tv σ H λy H1=>ta σ H1 λx H2=>RFs K f x y H2 (D.nx σ)
section
variable{X:Cx}{o e value:Expr}{f:Str}{pos bi tpos:Pos}{ta tv:TE}
def zf6(he:PE X e ta)(hb:attributeBase e f X.env (eval e X.env)=eval e X.env):PE X (.Attribute e f pos) (tFld X.K ta f):=by
 intro a7 s σ H Q I h
 refine attr_of hb (thn (he a7 s σ H _ I h) λu s1 ⟨x,H1,I1,rx,a,C,dx,fs,v,ex,ea,c,n,l,q⟩=>?_)
 subst ex
 obtain rfl:u=Value.ref a:=rx
 exact getattr_ok I1 ea c n l λu' s2 I2 ru=>⟨v,H1,I2,ru,q⟩
def ps_fld(ha:PE X o ta)(hv:PE X value tv)(hs:swapsWith value (some (.Attribute o f bi)) pos.line X.env=pure false):PS X (.Assign [.Attribute o f bi] value pos) (sFld X.K ta tv f):=by
 intro a7 s σ H D I h
 refine plainObj_wpAny_Assign_Attribute (thn (hv a7 s σ H _ I h) λu s1 ⟨y,H1,I1,ry,q⟩=>thn (ha a7 s1 σ H1 _ I1 q) λov s2 ⟨x,H2,I2,rx,a,C,dx,fs,ex,ea,c,n,l,q2⟩=>?_) hs
 subst ex
 obtain rfl:ov=Value.ref a:=rx
 exact setattr_ok I2 ea c n l ry λs3 I3=>⟨σ,_,I3,q2⟩
def methcall_of(he:PE X e te)(I:Inv X a7 σ H s)(h:te σ H fun x H1=>∃ a C dx fs g,x=.ref a∧H1 a=some (.ins C dx fs)∧Cls X.K C∧Meth X.K C m g∧fs.lookup m=none ∧
   ∀s1,Inv X a7 σ H1 s1→wpAny (model X.prog X.w) X.A (callWith pos (.ref g) [.ref a] (backTo pos (starEach args X.env)) (backToKw pos (keywordEach [] X.env))) Q X.xe s1)(ht:eval (.Call (.Attribute e m apos) args [] pos) X.env=(do
   let ov ←eval e X.env
   standAt apos.atName
   let(f,first) ←holding [ov] (getMethod ov m pl)
   callWith pos f first (backTo pos (starEach args X.env)) (backToKw pos (keywordEach [] X.env)))) :
  wpAny (model X.prog X.w) X.A (eval (.Call (.Attribute e m apos) args [] pos) X.env) Q X.xe s:=by
 refine Kf (pl:=pl) (thn (he a7 s σ H _ I h) λu s1 ⟨x,H1,I1,rx,a,C,dx,fs,g,ex,ea,c,k,l,q⟩=>?_) ht
 subst ex
 obtain rfl:u=Value.ref a:=rx
 exact zdx I1 ea c k l (q s1 I1)
end
section
variable{X:Cx}{a7:Nd}{σ:St}{H:Hp}{s:Ng}{A:Nn}{E:Nb}{Q:Nb}{c:Value}{b:Bool}
end
end L2
namespace L2
open PySem PySem.Spec PyProof.Rows
structure Room(k:Nat)(A:Nn):Prop where
 hd:A.handled=none
 dp:A.depth+3*k+5<recursionLimit
 un:A.units+16*k+200<cLine
def Room.mono(r:Room k A)(h:j≤k):Room j A:=⟨r.hd,by have:=r.dp;lia,by have:=r.un;lia⟩
def Room.deeper{k:Nat}{A:Nn}(r:Room (k+1) A)(env:Env):Room k (A.deeper env) :=
 ⟨r.hd,by have:=r.dp;show A.depth+1+3*k+5<_;lia,by have:=r.un;show A.units+3+16*k+200<_;lia⟩
def make_depth{A:Nn}:(A.under (.builtin "type.__call__" ⟨.ref C::us,kw⟩)).depth=A.depth+1:=by
 first | rfl | simp[Around.under,Code.weight,Code.isCreation,Code.isGuard,Code.isCaller,Code.frames,Code.isFrame,guardIds]
def make_units{A:Nn}:(A.under (.builtin "type.__call__" ⟨.ref C::us,kw⟩)).units=A.units+1:=by
 first | rfl | simp[Around.under,Code.cUnits,Code.frames,Code.isFrame]
def Room.make(r:Room (k+1) A)(C:Nc)(us:Nh)(kw:List (Str×Value)):Room k (A.under (.builtin "type.__call__" ⟨.ref C::us,kw⟩)) :=
 ⟨r.hd,by have:=r.dp;rw[make_depth];lia,by have:=r.un;rw[make_units];lia⟩
def Room.depth{k:Nat}{A:Nn}(r:Room k A):A.depth<recursionLimit:=by have:=r.dp;lia
def Room.units(r:Room k A):A.units+64<cLine:=by have:=r.un;lia
def tNil:TA:=λ_ H Q=>Q [] H
def tCons(ta:TE)(tr:TA):TA:=λ σ H Q=>ta σ H λx H1=>tr σ H1 λxs H2=>Q (x::xs) H2
section
variable{X:Cx}{e:Expr}{es:No}{te:TE}{t:TA}{pos:Pos}
def zaf:PA X [] tNil:=λ_ _ _ _ H Q I h=>Calls.spliced_nil ⟨[],H,I,.nil,h⟩
def zaa(ha:PE X e te)(hr:PA X es t)(hs:starEach (e::es) X.env=(false,eval e X.env)::starEach es X.env:=by rfl):PA X (e::es) (tCons te t):=by
 intro pos a7 s σ H Q I h
 rw[hs]
 show wpAny _ _ (spliced ((false,eval e X.env)::backTo pos (starEach es X.env))) _ _ s
 refine Calls.spliced_cons (thn (ha a7 s σ H _ I h) λu s1 ⟨x,H1,I1,r1,q1⟩=>?_)
 exact thn (hr pos a7 s1 σ H1 _ I1 q1) λus s2 ⟨xs,H2,I2,r2,q2⟩=>⟨x::xs,H2,I2,.cons r1 r2,q2⟩
def tTup(t:TA):TE:=λ σ H Q=>t σ H λxs H1=>xs.length≤sizeLine∧∀p,H1 p=none→Q (.ref p) (upd H1 p (.tup xs))
def tLst(t:TA):TE:=λ σ H Q=>t σ H λxs H1=>xs.length≤sizeLine∧∀p,H1 p=none→Q (.ref p) (upd H1 p (.lst xs))
def zdj{x1}(h:PA X es t):PE X (.Tuple es x1 pos) (tTup t):=by
 intro a7 s σ H Q I hq
 refine wpAny_Tuple_spliced (thn (h pos a7 s σ H _ I hq) λus s1 ⟨xs,H1,I1,r,z,q⟩=>⟨by rw[←r.length];exact z,?_⟩)
 have hf:H1 s1.heap.objs.size=none:=I1.hok.fresh (Qd _)
 refine⟨.ref s1.heap.objs.size,upd H1 s1.heap.objs.size (.tup xs),I1.laid (t':=s1.toks) (λb u e=>Qi _ e) (Qd _) ?_,rfl,q _ hf⟩
 exact⟨z,us,r,⟨_,Za _ rfl,rfl,_,rfl⟩⟩
def zbj(h:PA X es t):PE X (.List es pos) (tLst t):=by
 intro a7 s σ H Q I hq
 refine wpAny_List_spliced (thn (h pos a7 s σ H _ I hq) λus s1 ⟨xs,H1,I1,r,z,q⟩=>⟨by rw[←r.length];exact z,?_⟩)
 have hf:H1 s1.heap.objs.size=none:=I1.hok.fresh (Qd _)
 refine⟨.ref s1.heap.objs.size,upd H1 s1.heap.objs.size (.lst xs),I1.laid (t':=s1.toks) (λb u e=>Qi _ e) (Qd _) ?_,rfl,q _ hf⟩
 exact⟨z,us,0,r,Za _ rfl⟩
end
abbrev Sp:=List V→Hp→VK→XK→Prop
abbrev CXT:=List Env→Hp→Shared→XK→Value→Shared→Prop
structure Env0(P:Ni)(w:Nl)(K:Na)(mg:Nf)(base:Nm)(A:Nn)(outer:List Env)(s:Ng)(H:Hp):Prop where
 frames:A.frames=some outer
 mod:Mod K mg base
 bs:∀b o,base.get? b=some o→s.heap.get? b=some o∧H b=none
 bsz:base.objs.size≤s.heap.objs.size
 funs:s.heap.FunFrames base outer
 frf:∀b∈frs outer,H b=none
 hok:HOk P w H s.heap
 bare:AllBare s.gens
inductive CE(outer:List Env)(P:Ni)(w:Nl)(H:Hp)(s:Ng)(Q:VK)(u:Value)(s':Ng):Prop
 |mk (v:_) (H':_) (h0:s'.os=s.os) (h1:AllBare s'.gens) (h2:Un (frs outer) [] H H' s.heap s'.heap) (h3:HOk P w H' s'.heap) (h4:RelV v u) (h5:Q v H'):CE outer P w H s Q u s'
def CR(CX:CXT)(outer:List Env)(P:Ni)(w:Nl)(H:Hp)(s:Ng)(Q:VK)(E:XK)(r:Result)(s':Ng):Prop :=
 match r with
 |.ok (.ret u)=>CE outer P w H s Q u s'
 |.ok _=>False
 |.error e=>CX outer H s E e s'
structure FnOk(P:Ni)(w:Nl)(K:Na)(mg:Nf)(base:Nm)(CX:CXT)(k:Nat)(f:Nc)(fd:Nr)(ps:Nj)(sp:Sp):Prop where
 len:∀vs H Q E,sp vs H Q E→vs.length=ps.length
 run:∀(A:Nn) (outer:List Env) (s:Ng) (H:Hp) (args:Args) (us:Nh) (vs:List V) (Q:VK) (E:XK),Room k A→Env0 P w K mg base A outer s H→BindsTo s fd args (ps.zip us)→Vals vs us→sp vs H Q E →
  codeAny (model P w) A (.call (.ref f) args) (CR CX outer P w H s Q E) s
def FnOk.imp{P:Ni}{w:Nl}{K:Na}{mg:Nf}{base:Nm}{CX:CXT}{k:Nat}{f:Nc}{fd:Nr}{ps:Nj}{sp sp':Sp}(F:FnOk P w K mg base CX k f fd ps sp)(h:∀vs H Q E,sp' vs H Q E→sp vs H Q E):FnOk P w K mg base CX k f fd ps sp' :=
 ⟨λvs H Q E q=>F.len vs H Q E (h _ _ _ _ q),λA outer s H args us vs Q E hr he hb hv hs=>F.run A outer s H args us vs Q E hr he hb hv (h _ _ _ _ hs)⟩
def Env0.make{P:Ni}{w:Nl}{K:Na}{mg:Nf}{base:Nm}{A:Nn}{outer:List Env}{s:Ng}{H:Hp}(e:Env0 P w K mg base A outer s H)(C:Nc)(us:Nh)(kw:List (Str×Value)) :
  Env0 P w K mg base (A.under (.builtin "type.__call__" ⟨.ref C::us,kw⟩)) outer s H:=⟨by first | exact e.frames | (simpa[Around.under,Code.envs,Code.isFrame,pushEnvs] using e.frames),e.mod,e.bs,e.bsz,e.funs,e.frf,e.hok,e.bare⟩
section
variable{X:Cx}{a7:Nd}{σ:St}{H:Hp}{s s':Ng}
def Inv.env0(I:Inv X a7 σ H s):Env0 X.prog X.w X.K X.mg X.base X.A X.stack s H :=
 ⟨I.ok.frames,I.ok.mod,I.bs,Zi I.ok.bsz I.sz,I.stack,I.stkFree,I.hok,I.bare⟩
def Inv.after(I:Inv X a7 σ H s)(h:CE X.stack X.prog X.w H s Q u s'):EP X a7 σ Q u s':=by
 obtain⟨v,H',os,bare,un,hok,r,q⟩:=h
 obtain⟨hh,g,d,t,pj⟩:=s'
 obtain rfl:pj=s.os:=os
 exact⟨v,H',I.call (h':=hh) (g':=g) (d':=d) (t':=t) (ch:=[]) un hok bare (λb z=>absurd z (by simp)),r,q⟩
end
def tCall(sp:Sp)(dvs:List V)(E:XK)(t:TA):TE:=λ σ H Q=>t σ H λvs H1=>sp (vs++dvs) H1 Q E
inductive RMe(C:Nc)(m:Str)(x:V)(H:Hp)(R:Prop):Prop
 |mk (a dx:Nc) (fs:List (Str×V)) (e:x=.ref a) (h:H a=some (.ins C dx fs)) (l:fs.lookup m=none) (q:R):RMe C m x H R
def tMeth(C:Nc)(m:Str)(sp:Sp)(dvs:List V)(E:XK)(ta:TE)(t:TA):TE:=λ σ H Q=>ta σ H λx H1=>RMe C m x H1 <|
 t σ H1 λvs H2=>sp (x::(vs++dvs)) H2 Q E
def tMake(C:Nc)(sp:Sp)(dvs:List V)(E:XK)(t:TA):TE:=λ σ H Q=>t σ H λvs H1=>∀x dx,H1 x=none→H1 dx=none→dx≠x →
 sp (.ref x::(vs++dvs)) (upd (upd H1 dx (.own x)) x (.ins C dx [])) (λv H2=>v=.non∧Q (.ref x) H2) E
def Binds(K:Na)(fd:Nr)(ps:Nj)(ds:Nh):Prop :=
 ∀(s:Ng) (us:Nh),K.In s.heap→(us++ds).length=ps.length→BindsTo s fd ⟨us,[]⟩ (ps.zip (us++ds))
def Binds.all{K:Na}{fd:Nr}{ps:Nj}(h:∀us:List Value,us.length=ps.length→bindArgs fd ⟨us,[]⟩=pure (ps.zip us)):Binds K fd ps []:=λs us _ hl=>by
 rw[Zs]at hl ⊢
 exact .of_eq (h us hl)
def zgz(CX:CXT)(X:Cx)(E:XK):Prop:=∀(a7:Nd) (σ:St) (H:Hp) (s:Ng) (e:Value) (s':Ng),Inv X a7 σ H s→CX X.stack H s E e s'→X.xe e s'
section
variable{X:Cx}{CX:CXT}{k:Nat}{f C:Nc}{fd:Nr}{ps:Nj}{sp:Sp}{dvs:List V}{ds:Nh}{E:XK}{x m:Str}{p pos apos:Pos}{e o:Expr}{es:No}{ta:TE}{t:TA}
def run_fn(F:FnOk X.prog X.w X.K X.mg X.base CX k f fd ps sp)(hr:Room k X.A)(hb:Binds X.K fd ps ds)(hd:Vals dvs ds)(hx:zgz CX X E)(I:Inv X a7 σ H s)(r:Vals vs us)(h:sp (vs++dvs) H Q E):wpAny (model X.prog X.w) X.A (call (.ref f) us) (EP X a7 σ Q) X.xe s:=by
 have r2:Vals (vs++dvs) (us++ds):=r.append hd
 have hl:(us++ds).length=ps.length:=by rw[←r2.length];exact F.len _ _ _ _ h
 refine wpAny_call (codeAny_mono (F.run X.A X.stack s H ⟨us,[]⟩ (us++ds) (vs++dvs) Q E hr I.env0 (hb s us I.kIn hl) r2 h) λr s' hq=>?_)
 cases r with
 |error e=>exact hx a7 σ H s e s' I hq
 |ok fl =>
  cases fl with
  |ret u=>exact I.after hq
  |next=>exact False.elim hq
  |brk=>exact False.elim hq
  |cont=>exact False.elim hq
def zam(F:FnOk X.prog X.w X.K X.mg X.base CX k f fd ps sp)(hr:Room k X.A)(hg:Gl X x)(hm:X.mg x=some (.ref f))(hk:PySem.W.keepIn X.K (.ref f)=true)(hb:Binds X.K fd ps ds)(hd:Vals dvs ds)(hx:zgz CX X E)(ha:PA X (e::es) t)(dz:(x==("__debug__" : Str))=false:=by decide)(he:starEach (e::es) X.env=(false,eval e X.env)::starEach es X.env:=by rfl)(cE:(backTo pos (starEach es X.env)).any (·.1)=false:=by rfl) :
  PE X (.Call (.Name x p) (e::es) [] pos) (tCall sp dvs E t):=by
 intro a7 s σ H Q I h
 refine wpAny_Call_Name_kw (zgn I hg hm ?_ dz)
 refine Ku (h₀:=X.base) I.ok.mod.kin hk (thn (ha pos a7 s σ H _ I h) λus s1 ⟨vs,H1,I1,r,q⟩=>⟨I1.kIn,?_⟩) he cE
 exact run_fn F hr hb hd hx I1 r q
def pe_meth(he:PE X o ta)(c:Cls X.K C)(hm:Meth X.K C m f)(F:FnOk X.prog X.w X.K X.mg X.base CX k f fd ps sp)(hr:Room k X.A)(hb:Binds X.K fd ps ds)(hd:Vals dvs ds)(hx:zgz CX X E)(ha:PA X (e::es) t)(az:starEach (e::es) X.env=(false,eval e X.env)::starEach es X.env:=by rfl)(cE:(backTo pos (starEach es X.env)).any (·.1)=false:=by rfl)(ht:eval (.Call (.Attribute o m apos) (e::es) [] pos) X.env=(do
   let ov ←eval o X.env
   standAt apos.atName
   let(f,first) ←holding [ov] (getMethod ov m pl)
   callWith pos f first (backTo pos (starEach (e::es) X.env)) (backToKw pos (keywordEach [] X.env))):=by rfl) :
  PE X (.Call (.Attribute o m apos) (e::es) [] pos) (tMeth C m sp dvs E ta t):=by
 intro a7 s σ H Q I h
 refine Kf (pl:=pl) (thn (he a7 s σ H _ I h) λu s1 ⟨x,H1,I1,rx,a,dx,fs,ex,ea,l,q⟩=>?_) ht
 subst ex
 obtain rfl:u=Value.ref a:=rx
 refine zdx I1 ea c hm l ?_
 refine Ku (first:=[.ref a]) (h₀:=X.base) I.ok.mod.kin hm.kp (thn (ha pos a7 s1 σ H1 _ I1 q) λus s2 ⟨vs,H2,I2,r,q2⟩=>⟨I2.kIn,?_⟩) az cE
 exact run_fn (us:=.ref a::us) (vs:=.ref a::vs) F hr hb hd hx I2 (.cons rfl r) q2
def pe_meth0(he:PE X o ta)(c:Cls X.K C)(hm:Meth X.K C m f)(F:FnOk X.prog X.w X.K X.mg X.base CX k f fd ps sp)(hr:Room k X.A)(hb:Binds X.K fd ps ds)(hd:Vals dvs ds)(hx:zgz CX X E)(ht:eval (.Call (.Attribute o m apos) [] [] pos) X.env=(do
   let ov ←eval o X.env
   standAt apos.atName
   let(f,first) ←holding [ov] (getMethod ov m pl)
   callWith pos f first (backTo pos (starEach [] X.env)) (backToKw pos (keywordEach [] X.env))):=by rfl) :
  PE X (.Call (.Attribute o m apos) [] [] pos) (tMeth C m sp dvs E ta tNil):=by
 intro a7 s σ H Q I h
 refine Kf (pl:=pl) (thn (he a7 s σ H _ I h) λu s1 ⟨x,H1,I1,rx,a,dx,fs,ex,ea,l,q⟩=>?_) ht
 subst ex
 obtain rfl:u=Value.ref a:=rx
 refine zdx I1 ea c hm l ?_
 exact PySem.W.callWith_K0 (first:=[.ref a]) I1.kIn hm.kp (run_fn (us:=[.ref a]) (vs:=[.ref a]) F hr hb hd hx I1 (.cons rfl .nil) q)
structure Mk(K:Na)(C f:Nc):Prop where
 makes:PySem.W.makesIn K C=true
 init:PySem.W.findIn K (.ref C) "__init__" = some (some (.ref f))
 fn:PySem.W.isFn K (.ref f)=true
 kp:PySem.W.keepIn K (.ref C)=true
def run_make(M:Mk X.K C f)(F:FnOk X.prog X.w X.K X.mg X.base CX k f fd ps sp)(hr:Room (k+1) X.A)(hb:Binds X.K fd ps ds)(hd:Vals dvs ds)(hx:zgz CX X E)(I:Inv X a7 σ H s)(r:Vals vs us)(h:∀x dx,H x=none→H dx=none→dx≠x→sp (.ref x::(vs++dvs)) (upd (upd H dx (.own x)) x (.ins C dx [])) (λv H2=>v=.non∧Q (.ref x) H2) E) :
  wpAny (model X.prog X.w) X.A (call (.ref C) us) (EP X a7 σ Q) X.xe s:=by
 have hq:=h (s.heap.objs.size+1) s.heap.objs.size (I.hok.fresh (Kb _)) (I.hok.fresh (Qd _)) (Zk (Yv _))
 have I2:=Inv.made (C:=C) I
 have r2:Vals (V.ref (s.heap.objs.size+1)::(vs++dvs)) (Value.ref (s.heap.objs.size+1)::(us++ds)):=.cons rfl (r.append hd)
 have hl:(Value.ref (s.heap.objs.size+1)::us++ds).length=ps.length:=by
  have e:=r2.length
  rw[F.len _ _ _ _ hq]at e
  exact e.symm
 refine wpAny_call (make_map (f:=f) I.kIn M.makes M.init (beq_iff_eq.mp M.fn) (codeAny_mono (F.run _ X.stack _ _ ⟨Value.ref (s.heap.objs.size+1)::us,[]⟩ (Value.ref (s.heap.objs.size+1)::(us++ds)) _ _ E (hr.make C us [])
  (I2.env0.make C us []) (hb _ (Value.ref (s.heap.objs.size+1)::us) I2.kIn hl) r2 hq) λr s' gi=>?_))
 cases r with
 |error e=>exact hx a7 σ _ _ e s' I2 gi
 | ok fl =>
  cases fl with
  |ret u =>
   obtain⟨v,H',I3,rv,ev,q3⟩:=I2.after gi
   subst ev
   exact⟨rv,⟨V.ref (s.heap.objs.size+1),H',I3,rfl,q3⟩⟩
  |next=>exact False.elim gi
  |brk=>exact False.elim gi
  |cont=>exact False.elim gi
def pe_make(M:Mk X.K C f)(F:FnOk X.prog X.w X.K X.mg X.base CX k f fd ps sp)(hr:Room (k+1) X.A)(hg:Gl X x)(hm:X.mg x=some (.ref C))(hb:Binds X.K fd ps ds)(hd:Vals dvs ds)(hx:zgz CX X E)(ha:PA X (e::es) t)(dz:(x==("__debug__" : Str))=false:=by decide)(he:starEach (e::es) X.env=(false,eval e X.env)::starEach es X.env:=by rfl)(cE:(backTo pos (starEach es X.env)).any (·.1)=false:=by rfl) :
  PE X (.Call (.Name x p) (e::es) [] pos) (tMake C sp dvs E t):=by
 intro a7 s σ H Q I h
 refine wpAny_Call_Name_kw (zgn I hg hm ?_ dz)
 refine Ku (h₀:=X.base) I.ok.mod.kin M.kp (thn (ha pos a7 s σ H _ I h) λus s1 ⟨vs,H1,I1,r,q⟩=>⟨I1.kIn,?_⟩) he cE
 exact run_make M F hr hb hd hx I1 r q
end
section
variable{X:Cx}{CX:CXT}{k:Nat}{f C:Nc}{fd:Nr}{ps ks:Nj}{sp:Sp}{E:XK}{x m:Str}{p pos apos kpos:Pos}{e o:Expr}{es:No}{kws:List Keyword}{te ta:TE}{t tk:TA}{nm:Option Str}
variable{g:List Value→List Value→List Value}{gV:List V→List V→List V}
end
structure zap(N P:Nj)(sc:Scope):Prop where
 kind:sc.kind=.function
 co:sc.isCoroutine=false
 gen:sc.isGenerator=false
 nd:N.Nodup
 pre:N.take P.length=P
 par:∀x∈P,sc.names.lookup x=some .local∨sc.names.lookup x=some .cell
 nofree:∀y∈sc.names,y.2≠.free
theorem bindL_out{kindOf:Str→Option NameKind}{x:Str}:∀{binds:List (Str×Value)} {m:Nf},(∀v,(x,v)∉binds)→bindL kindOf binds m x=m x
 |[],_,_=>rfl
 | (n,v)::r,m,h=>by
  unfold bindL
  rw[bindL_out λw hw=>h w (Qg _ hw)]
  split
  ·have:x≠n:=by rintro rfl;exact h v Qe
   simp[this]
  ·rfl
theorem bindC_out{kindOf:Str→Option NameKind}{x:Str}:∀{binds:List (Str×Value)} {m:Nf},(∀v,(x,v)∉binds)→bindC kindOf binds m x=m x
 |[],_,_=>rfl
 | (n,v)::r,m,h=>by
  unfold bindC
  rw[bindC_out λw hw=>h w (Qg _ hw)]
  split
  ·rfl
  ·have:x≠n:=by rintro rfl;exact h v Qe
   simp[this]
theorem bindL_get{kindOf:Str→Option NameKind}{x:Str}{v:Value}:∀{P:Nj} {vs:Nh} {i:Nat} {m:Nf},P.Nodup→P[i]?=some x→vs[i]?=some v→kindOf x=some .local →
  bindL kindOf (P.zip vs) m x=some v
 |[],_,_,_,_,h,_,_=>by simp at h
 |_::_,[],_,_,_,_,h,_=>by simp at h
 |p::P,w::vs,0,m,nd,h1,h2,hk=>by
  simp at h1 h2;subst h1;subst h2
  show bindL kindOf ((p,w)::P.zip vs) m p=_
  unfold bindL
  rw[bindL_out λv hv=>(Qz.mp nd).1 (List.of_mem_zip hv).1,if_pos hk]
  simp
 |p::P,w::vs,i+1,m,nd,h1,h2,hk=>by
  show bindL kindOf ((p,w)::P.zip vs) m x=_
  unfold bindL
  exact bindL_get (i:=i) (Qz.mp nd).2 (by simpa using h1) (by simpa using h2) hk
theorem bindC_get{kindOf:Str→Option NameKind}{x:Str}{v:Value}:∀{P:Nj} {vs:Nh} {i:Nat} {m:Nf},P.Nodup→P[i]?=some x→vs[i]?=some v→kindOf x≠some .local →
  bindC kindOf (P.zip vs) m x=some v
 |[],_,_,_,_,h,_,_=>by simp at h
 |_::_,[],_,_,_,_,h,_=>by simp at h
 |p::P,w::vs,0,m,nd,h1,h2,hk=>by
  simp at h1 h2;subst h1;subst h2
  show bindC kindOf ((p,w)::P.zip vs) m p=_
  unfold bindC
  rw[bindC_out λv hv=>(Qz.mp nd).1 (List.of_mem_zip hv).1,if_neg hk]
  simp
 |p::P,w::vs,i+1,m,nd,h1,h2,hk=>by
  show bindC kindOf ((p,w)::P.zip vs) m x=_
  unfold bindC
  exact bindC_get (i:=i) (Qz.mp nd).2 (by simpa using h1) (by simpa using h2) hk
def start(N:Nj)(vs:List V):St:=vs.map some++List.replicate (N.length-vs.length) none
def cxOf(CX:CXT)(P:Ni)(w:Nl)(K:Na)(mg:Nf)(base:Nm)(N:Nj)(qual:Str)(scope:Scope)(f:Nc)(cd:Value)(A:Nn)(outer:List Env)(s:Ng)(H:Hp)(E:XK):Cx where
 prog:=P
 w:=w
 K:=K
 mg:=mg
 base:=base
 A:=A.deeper (envOfC qual scope s.heap.objs.size f cd)
 N:=N
 s₀:=s
 H₀:=H
 env:=envOfC qual scope s.heap.objs.size f cd
 outer:=outer
 stack:=envOfC qual scope s.heap.objs.size f cd::outer
 ex:=[]
 calm:=true
 fn:=λ_=>true
 pn:=[]
 xe:=λe s'=>wpAny (model P w) (A.deeper (envOfC qual scope s.heap.objs.size f cd)) (leaving (envOfC qual scope s.heap.objs.size f cd) e) (λ_ kL=>CX outer H s E e kL) (λe' kL=>CX outer H s E e' kL) s'
def cell_has{sc:Scope}{n:Nat}{x:Str}(h:sc.names.lookup x=some .cell):∃c,(cellsFrom n sc.names []).lookup x=some c:=by
 have q:=PySem.W.cellsFrom_some sc.names n [] (.inl h)
 exact Option.isSome_iff_exists.mp q
def inv_start{CX:CXT}{P:Ni}{w:Nl}{K:Na}{mg:Nf}{base:Nm}{N ps:Nj}{qual:Str}{scope:Scope}{f:Nc}{cd:Value}{A:Nn}{outer:List Env}{s s1:Ng}{H:Hp}{E:XK}{us:Nh}{vs:List V}(S:zap N ps scope)(hd:A.handled=none)(e0:Env0 P w K mg base A outer s H)(hl:vs.length=ps.length)(r:Vals vs us)(x:InCallC s s.heap.objs.size (bindL (envOfC qual scope s.heap.objs.size f cd).kindOf (ps.zip us) λ_=>none) (cellsFrom (s.heap.objs.size+1) scope.names []) (bindC (envOfC qual scope s.heap.objs.size f cd).kindOf (ps.zip us) λ_=>none) s1) :
  Inv (cxOf CX P w K mg base N qual scope f cd A outer s H E) [] (start N vs) H s1:=by
 have cE:ps.length≤N.length:=by have:=congrArg List.length S.pre;rw[Zc]at this;lia
 obtain⟨h1,tk,rfl,hk⟩:=x.done
 have noA:∀b:Addr,b∉(cxOf CX P w K mg base N qual scope f cd A outer s H E).ex:=λb z=>absurd (show b∈([]:List Addr) from z) (by simp)
 refine⟨⟨e0.mod,S.kind,rfl,rfl,Qd _,λy z c h1 h2=>?_,λy hy=>?_,λy c _ h=>?_,λ_=>hd,Around.frames_deeper e0.frames,.inr ⟨rfl,rfl⟩,λb z=>absurd z (noA b),e0.bs,e0.bsz,λb _ _=>noA b,λb z=>absurd z (noA b),e0.funs,e0.frf⟩,
  rfl,e0.bare,Un.kept hk,⟨_,x.toInCall.ns,λi y v h1 h2 h3=>?_⟩,λy c h=>⟨_,x.cell y c h⟩,e0.hok.fresh (Qd _),λy c h=>?_,λp hp=>absurd (show p∈([]:List (Addr×Obj)) from hp) (by simp),e0.hok.kept hk,?_⟩
 ·exact name_of_addr x.apart (Ww h1) (Ww h2)
 ·have hy:scope.names.lookup y=some .cell∨scope.names.lookup y=some .free:=hy
  rcases hy with hy | hy
  ·exact cell_has hy
  ·exact absurd rfl (S.nofree _ (Ww hy))
 ·exact Zo (x.above y c (Ww h))
 ·have hi:i < vs.length:=by
   unfold start at h2
   by_cases hi:i<vs.length
   ·exact hi
   ·rw [Ur (by simpa using hi)] at h2
    rw[List.getElem?_replicate]at h2
    split at h2<;>cases h2
  have ha:vs[i]?=some v:=by
   unfold start at h2
   rw[Kv (by simpa using hi),Qr]at h2
   cases e:vs[i]? with
   |none=>rw[e]at h2;cases h2
   |some a=>rw[e]at h2;cases h2;rfl
  obtain⟨u,hu,rv⟩:=r.get ha
  have hp:ps[i]?=some y:=by
   rw[←S.pre,List.getElem?_take_of_lt (by exact zar7 ‹_› ‹_›)];exact h1
  have ndP:ps.Nodup:=by rw[←S.pre];exact S.nd.sublist (Jl _ _)
  refine⟨u,rv,?_⟩
  rcases S.par y (Yz hp) with k | k
  ·exact .inl ⟨k,bindL_get ndP hp hu k⟩
  ·obtain ⟨c,e⟩:=cell_has (n:=s.heap.objs.size+1) k
   refine .inr ⟨.inl k,c,e,?_⟩
   have q:=x.cell y c e
   rw[bindC_get ndP hp hu (by show scope.names.lookup y≠_;rw[k];decide)]at q
   exact q
 ·exact e0.hok.fresh (Zo (x.above y c (Ww h)))
 ·unfold start
  show _=N.length
  rw[Qm,Qa,Ba]
  lia
def fn_of{CX:CXT}{P:Ni}{w:Nl}{K:Na}{mg:Nf}{base:Nm}{k:Nat}{f:Nc}{name qual:Str}{params:Arguments}{body:List Stmt}{scope:Scope}{dV kV doc pm cdv ct oc:Value}{an od:Option Addr}{osl:Array (Option Value)}{N ps:Nj}{sp:Sp}(lk:K.lookup f=some ⟨oc,od,.func (PySem.W.fnOf name qual params body scope dV kV doc pm an cdv ct),osl⟩)(aO:PySem.W.codeIn K cdv qual=true)(S:zap N ps scope)(len:∀vs H Q E,sp vs H Q E→vs.length=ps.length)(bo:∀ (A:Nn) (outer:List Env) (s:Ng) (H:Hp) (vs:List V) (Q:VK) (E:XK),Room k (A.deeper (envOfC qual scope s.heap.objs.size f cdv))→sp vs H Q E →
   ∃t,PSs (cxOf CX P w K mg base N qual scope f cdv A outer s H E) body t∧t {nx:=λ_ H'=>Q .non H',rt:=Q} (start N vs) H) :
  FnOk P w K mg base CX (k+1) f (PySem.W.fnOf name qual params body scope dV kV doc pm an cdv ct) ps sp:=by
 refine⟨len,λA outer s H args us vs Q E hr e0 hb r br=>?_⟩
 have hl:=len _ _ _ _ br
 have KX:K.In s.heap:=e0.mod.kin.keeps λb o e=>(e0.bs b o e).1
 have lim:s.heap.NoLimit:=e0.mod.nolimit.keeps λb o e=>(e0.bs b o e).1
 have d8:∀y∈ps.zip us,scope.names.lookup y.1=some .local∨(scope.names.lookup y.1=some .cell∧((cellsFrom (s.heap.objs.size+1) scope.names []).lookup y.1).isSome=true):=λ⟨n,v⟩ hy=>by
  rcases S.par n (List.of_mem_zip hy).1 with q | q
  ·exact .inl q
  ·exact .inr ⟨q,PySem.W.cellsFrom_some _ _ _ (.inl q)⟩
 refine codeAny_call_function hr.depth (KX _ _ lk) rfl S.co S.gen rfl (PySem.W.codeRec_of KX aO) (hb _ _ _ _ ?_)
 refine wpAny_newFunctionEnv_cells S.kind d8 λenv he s1 x=>?_
 subst he
 refine⟨lim.keeps x.toInCall.keep,codeAny_func ?_⟩
 obtain⟨t,ht,hq⟩:=bo A outer s H vs Q E (hr.deeper _) br
 have I:Inv (cxOf CX P w K mg base N qual scope f cdv A outer s H E) [] (start N vs) H s1:=inv_start S hr.hd e0 hl r x
 refine wpAny_mono (ht [] s1 (start N vs) H _ I hq) (λfl s' hs=>?_) λe s' hs=>hs
 have fin:∀{σ':St} {H':Hp} {v:V} {u:Value},Inv (cxOf CX P w K mg base N qual scope f cdv A outer s H E) [] σ' H' s'→RelV v u→Q v H'→CE outer P w H s Q u s' :=
  λ{σ' H' v u} J rv q=>⟨v,H',J.os,J.bare,J.base,J.hok,rv,q⟩
 cases fl with
 |ret u =>
  obtain⟨v,σ',H',J,rv,q⟩:=hs
  exact fin J rv q
 |next =>
  obtain⟨σ',H',J,q⟩:=hs
  exact fin (v:=V.non) (u:=Value.none) J rfl q
 |brk =>
  obtain⟨_,_,_,q⟩:=hs
  exact False.elim q
 |cont =>
  obtain⟨_,_,_,q⟩:=hs
  exact False.elim q
end L2
namespace L2
open PySem PySem.Spec PyProof.Rows
section
variable{X:Cx}{x:Str}{p pos:Pos}{e:Expr}{es:No}{t:TA}{id T:String}{r:List V→Hp→VK→Prop}
def tCB(r:List V→Hp→VK→Prop)(t:TA):TE:=λ σ H Q=>t σ H λvs H1=>r vs H1 Q
def zaj(hc:zb3 X (.builtin id) r)(hg:Gl X x)(hm:X.mg x=none)(hv:bootBuiltins x=some (.builtin id))(ha:PA X (e::es) t)(hn:x ≠ "__name__" := by decide)(dz:(x==("__debug__" : Str))=false:=by decide)(he:starEach (e::es) X.env=(false,eval e X.env)::starEach es X.env:=by rfl)(cE:(backTo pos (starEach es X.env)).any (·.1)=false:=by rfl):PE X (.Call (.Name x p) (e::es) [] pos) (tCB r t):=by
 intro a7 s σ H Q I h
 refine wpAny_Call_Name_kw (ld_blt I hg hm hv ?_ hn dz)
 exact PyProof.Rows.callWith_builtin1 (thn (ha pos a7 s σ H _ I h) λus s1 ⟨vs,H1,I1,r1,q1⟩=>hc a7 s1 σ H1 vs us Q I1 r1 q1) he cE
def zca(hc:zb3 X (.type T) r)(hg:Gl X x)(hm:X.mg x=none)(hv:bootBuiltins x=some (.type T))(ha:PA X (e::es) t)(hn:x ≠ "__name__" := by decide)(dz:(x==("__debug__" : Str))=false:=by decide)(he:starEach (e::es) X.env=(false,eval e X.env)::starEach es X.env:=by rfl)(cE:(backTo pos (starEach es X.env)).any (·.1)=false:=by rfl):PE X (.Call (.Name x p) (e::es) [] pos) (tCB r t):=by
 intro a7 s σ H Q I h
 refine wpAny_Call_Name_kw (ld_blt I hg hm hv ?_ hn dz)
 exact Kt (thn (ha pos a7 s σ H _ I h) λus s1 ⟨vs,H1,I1,r1,q1⟩=>hc a7 s1 σ H1 vs us Q I1 r1 q1) he cE
end
end L2
namespace L2
open PySem PySem.Spec PyProof.Rows
section
variable{κ:Type}[DecidableEq κ]
def valV(kvs:List (κ×V))(k:κ):Option V:=(kvs.find? λkv=>decide (kv.1=k)).map (·.2)
def putK(kvs:List (κ×V))(k:κ)(v:V):List (κ×V) :=
 if(kvs.any λkv=>decide (kv.1=k))=true then kvs.map (λkv=>if kv.1=k then(kv.1,v) else kv) else kvs++[(k,v)]
def zc4{p:κ×V}{r:List (κ×V)}{k:κ}(e:p.1=k):valV (p::r) k=some p.2:=by simp[valV,Jv,e]
def zby{p:κ×V}{r:List (κ×V)}{k:κ}(e:¬p.1=k):valV (p::r) k=valV r k:=by simp[valV,Jv,e]
theorem zht(k:κ):∀kvs:List (κ×V),(kvs.any λkv=>decide (kv.1=k))=(valV kvs k).isSome
 |[]=>rfl
 |p::r=>by
  rw[Xf]
  by_cases e:p.1=k
  ·simp only[zc4 e,decide_eq_true e,Bool.true_or,Option.isSome_some]
  ·rw[zby e,decide_eq_false e,Bool.false_or];exact zht k r
def zd9(kvs:List (κ×V))(k:κ)(v:V):(putK kvs k v).length≤kvs.length+1:=by
 unfold putK
 split
 ·rw[Qa];exact Zy _ _
 ·rw[Qm,Zg,Jj];exact Qd _
def zfq{kvs:List (κ×V)}{k:κ}(v:V)(h:valV kvs k=none):putK kvs k v=kvs++[(k,v)]:=by
 unfold putK
 rw[zht,h]
 exact if_neg (by decide)
def RelO.isSome_eq(r:RelO o u):o.isSome=u.isSome:=by
 cases o with
 |none=>cases u with
  |none=>rfl
  |some _=>exact(show False from r).elim
 |some _=>cases u with
  |none=>exact(show False from r).elim
  |some _=>rfl
def RelO.getD(r:RelO o u)(rd:RelV d d'):RelV (o.getD d) (u.getD d'):=by
 cases o with
 |none=>cases u with
  |none=>exact rd
  |some _=>exact(show False from r).elim
 |some _=>cases u with
  |none=>exact(show False from r).elim
  |some _=>exact r
def KV.val{kvs:List (κ×V)}{vs:List (κ×Value)}(r:KV kvs vs)(k:κ):RelO (valV kvs k) (valueAt vs k):=by
 unfold KV at r
 induction r with
 |nil=>exact True.intro
 | @cons p q ps qs h t ih =>
  obtain⟨h1,h2⟩:=h
  by_cases e:p.1=k
  ·have e':q.1=k:=h1.symm.trans e
   have b:valueAt (q::qs) k=some q.2:=by simp[valueAt,Jv,e']
   rw[zc4 e,b];exact h2
  ·have e':¬ q.1=k:=fun z=>e (h1.trans z)
   have b:valueAt (q::qs) k=valueAt qs k:=by simp[valueAt,Jv,e']
   rw[zby e,b];exact ih
def KV.any(r:KV kvs vs)(k:κ):(kvs.any λkv=>decide (kv.1=k))=vs.any λkv=>decide (kv.1=k):=by
 unfold KV at r
 induction r with
 |nil=>rfl
 |cons h t ih=>rw[Xf,Xf,ih,h.1]
def KV.repl(r:KV kvs vs)(k:κ)(ry:RelV y u) :
  KV (kvs.map λkv=>if kv.1=k then(kv.1,y) else kv) (vs.map λkv=>if kv.1=k then(kv.1,u) else kv):=by
 unfold KV at r ⊢
 induction r with
 |nil=>exact .nil
 |@cons p q ps qs h t ih =>
  rw[Qk,Qk]
  refine .cons ?_ ih
  obtain⟨h1,h2⟩:=h
  by_cases e:p.1=k
  ·rw[if_pos e,if_pos (h1.symm.trans e)];exact⟨h1,ry⟩
  ·rw[if_neg e,if_neg (λz=>e (h1.trans z))];exact⟨h1,h2⟩
def KV.put(r:KV kvs vs)(k:κ)(ry:RelV y u):KV (putK kvs k y) (stored vs k u):=by
 unfold putK stored
 rw[r.any k]
 by_cases e:(vs.any λkv=>decide (kv.1=k))=true
 ·rw[if_pos e,if_pos e];exact r.repl k ry
 ·rw[if_neg e,if_neg e];exact Paired.snoc r ⟨rfl,ry⟩
def KV.length{kvs:List (κ×V)}{vs:List (κ×Value)}(r:KV kvs vs):kvs.length=vs.length:=Zt r
end
def kV_is(r:RelV (kV k) u):(zaq P w).is k u=true:=by
 cases k with
 |inl i=>obtain⟨t,e⟩:=(show ∃t,u=Value.int i t from r);subst e;exact mixKind_int P w i t
 |inr x=>obtain⟨t,e⟩:=(show ∃t,u=Value.str x t from r);subst e;exact zgj P w x t
theorem items_are:∀{ks:List Key} {us:Nh},Vals (ks.map kV) us→ItemsAre (zaq P w) ks us
 |[],_,r=>by rw[Xp]at r;cases r;exact .nil
 |k::ks,_,r=>by
  rw[Qk]at r
  cases r with
  |cons h t=>exact .cons (kV_is h) (items_are t)
abbrev KT(H:Hp):List (List Key×V)→List (List Key×Addr×Value)→Prop:=Paired λp q=>p.1=q.1∧H q.2.1=some (.tup (p.1.map kV))∧RelV p.2 q.2.2
def KT.val{H:Hp}{kvs:List (List Key×V)}{xs:List (List Key×Addr×Value)}(r:KT H kvs xs)(k:List Key):RelO (valV kvs k) ((atKey xs k).map (·.2)):=by
 induction r with
 |nil=>exact True.intro
 | @cons p q ps qs h t ih =>
  obtain⟨h1,_,h2⟩:=h
  by_cases e:p.1=k
  ·have e':q.1=k:=h1.symm.trans e
   have b:atKey (q::qs) k=some q.2:=by simp[atKey,Jv,e']
   rw[zc4 e,b];exact h2
  ·have e':¬ q.1=k:=fun z=>e (h1.trans z)
   have b:atKey (q::qs) k=atKey qs k:=by simp[atKey,Jv,e']
   rw[zby e,b];exact ih
def KT.repl(r:KT H kvs xs)(k:List Key)(ry:RelV y u) :
  KT H (kvs.map λkv=>if kv.1=k then(kv.1,y) else kv) (xs.map (putAt k u)):=by
 induction r with
 |nil=>exact .nil
 |@cons p q ps qs h t ih =>
  rw[Qk,Qk]
  refine .cons ?_ ih
  obtain⟨h1,h2,h3⟩:=h
  unfold putAt
  by_cases e:p.1=k
  ·rw[if_pos e,if_pos (h1.symm.trans e)];exact⟨h1,h2,ry⟩
  ·rw[if_neg e,if_neg (λz=>e (h1.trans z))];exact⟨h1,h2,h3⟩
def KT.put(r:KT H kvs xs)(k:List Key)(hb:H b=some (.tup (k.map kV)))(ry:RelV y u) :
  KT H (putK kvs k y) (storedH xs k b u):=by
 have e:(kvs.any λkv=>decide (kv.1=k))=(atKey xs k).isSome:=by
  rw[zht,(r.val k).isSome_eq,Option.isSome_map]
 unfold putK storedH
 rw[e]
 by_cases q:(atKey xs k).isSome=true
 ·rw[if_pos q,if_pos q];exact r.repl k ry
 ·rw[if_neg q,if_neg q];exact Paired.snoc r ⟨rfl,hb,ry⟩
def KT.keeps(r:KT H kvs xs)(ht:∀b ys,H b=some (.tup ys)→H' b=some (.tup ys)):KT H' kvs xs :=
 Paired.mapP r λ_ _ z=>⟨z.1,ht _ _ z.2.1,z.2.2⟩
section
variable{P:Ni}{w:Nl}{H:Hp}{h:Nm}{a:Nc}
def rd_of(ok:HOk P w H h)(e:Rd H a u):zbo P w H h a u:=e.ok ok
def dk_rd(ok:HOk P w H h)(e:Rd H a (.dK kvs)):kvs.length≤sizeLine∧(a==sysModules)=false∧∃vs,KV kvs vs∧h.DictOf (zaq P w) a vs :=
 show zbo P w H h a (.dK kvs) from rd_of ok e
def dk_of(ok:HOk P w H h)(e:H a=some (.dK kvs)):kvs.length≤sizeLine∧(a==sysModules)=false∧∃vs,KV kvs vs∧h.DictOf (zaq P w) a vs:=dk_rd ok (.inl e)
def zhh(ok:HOk P w H h)(e:H a=some (.tup (ks.map kV))):(tupleKind (zaq P w)).is h ks a:=by
 obtain⟨_,a8,r,o,h1,h2,n,h3⟩:=(show zbo P w H h a (.tup (ks.map kV)) from ok a _ e)
 exact⟨o,a8.toArray,n,h1,h2,h3,by simpa using items_are r⟩
def dt_rd(ok:HOk P w H h)(e:Rd H a (.dT kvs)):kvs.length≤sizeLine∧(a == sysModules)=false ∧
  ∃xs,KT H kvs xs∧h.DictOfH (tupleKind (zaq P w)) a xs:=by
 obtain⟨z,y,xs,r,o,es,ep,h1,h2,h3,h4,h5⟩:=(show zbo P w H h a (.dT kvs) from rd_of ok e)
 refine⟨z,y,xs,r,o,es,ep,h1,h2,h3,h4,λx hx=>?_,h5⟩
 have all:∀{l:List (List Key×V)} {m:List (List Key×Addr×Value)},KT H l m→∀x∈m,(tupleKind (zaq P w)).is h x.1 x.2.1:=by
  intro l m q
  induction q with
  |nil=>intro x hx;exact nomatch hx
  | @cons p q ps qs hq t ih =>
   intro x hx
   rcases Qh.mp hx with e | hx
   ·subst e
    exact zhh ok (by rw[←hq.1];exact hq.2.1)
   ·exact ih x hx
 exact all r x hx
def dt_of(ok:HOk P w H h)(e:H a=some (.dT kvs)):kvs.length≤sizeLine∧(a==sysModules)=false ∧
  ∃xs,KT H kvs xs∧h.DictOfH (tupleKind (zaq P w)) a xs:=dt_rd ok (.inl e)
end
def DGet(H:Hp)(a:Nc)(y:V)(r:Option V):Prop :=
 (∃kvs k,Rd H a (.dK kvs)∧y=kV k∧r=valV kvs k)∨∃kvs k b,Rd H a (.dT kvs)∧y=.ref b∧H b=some (.tup (k.map kV))∧r=valV kvs k
def DPut(H:Hp)(a:Nc)(y v:V)(H':Hp):Prop :=
 (∃kvs k,H a=some (.dK kvs)∧y=kV k∧kvs.length<sizeLine∧H'=upd H a (.dK (putK kvs k v))) ∨
 ∃kvs k b,H a=some (.dT kvs)∧y=.ref b∧H b=some (.tup (k.map kV))∧kvs.length<sizeLine∧H'=upd H a (.dT (putK kvs k v))
def DGet.k{H:Hp}{a:Nc}{kvs:List (Key×V)}{k:Key}(e:H a=some (.dK kvs)):DGet H a (kV k) (valV kvs k):=.inl ⟨kvs,k,.inl e,rfl,rfl⟩
def DGet.t{H:Hp}{a b:Nc}{kvs:List (List Key×V)}{k:List Key}(e:H a=some (.dT kvs))(eb:H b=some (.tup (k.map kV))):DGet H a (.ref b) (valV kvs k):=.inr ⟨kvs,k,b,.inl e,rfl,eb,rfl⟩
def DPut.k{H:Hp}{a:Nc}{kvs:List (Key×V)}{k:Key}{v:V}(e:H a=some (.dK kvs))(hl:kvs.length<sizeLine):DPut H a (kV k) v (upd H a (.dK (putK kvs k v))):=.inl ⟨kvs,k,e,rfl,hl,rfl⟩
def DPut.t{H:Hp}{a b:Nc}{kvs:List (List Key×V)}{k:List Key}{v:V}(e:H a=some (.dT kvs))(eb:H b=some (.tup (k.map kV)))(hl:kvs.length<sizeLine) :
  DPut H a (.ref b) v (upd H a (.dT (putK kvs k v))):=.inr ⟨kvs,k,b,e,rfl,eb,hl,rfl⟩
section
variable{X:Cx}{a7:Nd}{σ:St}{H:Hp}{s:Ng}{a:Nc}{y v:V}{u r:Value}{o:Option V}{A:Nn}{E:Nb}
def Inv.big(I:Inv X a7 σ H s):sysModules<s.heap.objs.size:=by
 have h:mainGlobals<s.heap.objs.size:=(I.mod.glob.keeps I.bk).lt
 exact Ws (by decide) h
def d_getItem(hu:A.units+1<cLine)(I:Inv X a7 σ H s)(g:DGet H a y (some v))(ry:RelV y u)(h:∀w' s',Inv X a7 σ H s'→RelV v w'→Q w' s') :
  wpAny (model X.prog X.w) A (getItem (.ref a) u) Q E s:=by
 rcases g with⟨kvs,k,e,ey,l⟩ | ⟨kvs,k,b,e,ey,eb,l⟩
 ·subst ey
  obtain⟨z,hd,vs,rel,dd⟩:=dk_rd I.hok e
  obtain⟨w',hw,db⟩:=RelO.some_of (v:=v) (o:=valueAt vs k) (by rw[l];exact rel.val k)
  exact wpAny_getItem_of (kV_is ry) dd.mapOf hw (h w' _ (I.tok _) db)
 ·subst ey
  cases(show u=Value.ref b from ry)
  obtain⟨z,hd,xs,rel,dd⟩:=dt_rd I.hok e
  obtain⟨w',hw,db⟩:=RelO.some_of (v:=v) (o:=(atKey xs k).map (·.2)) (by rw[l];exact rel.val k)
  obtain⟨p,hp,aS⟩:=Option.map_eq_some_iff.mp hw
  refine wpAny_getItem_heap (tupleKind_room_in1 hu) (zhh I.hok eb) dd hp ?_
  rw[aS]
  exact h w' _ (I.tok _) db
def d_in(hu:A.units+1<cLine)(I:Inv X a7 σ H s)(g:DGet H a y o)(ry:RelV y u)(h:∀s',Inv X a7 σ H s'→Q (.bool o.isSome) s') :
  wpAny (model X.prog X.w) A (compareOp .In u (.ref a)) Q E s:=by
 rcases g with⟨kvs,k,e,ey,l⟩ | ⟨kvs,k,b,e,ey,eb,l⟩
 ·subst ey
  obtain⟨z,hd,vs,rel,dd⟩:=dk_rd I.hok e
  refine wpAny_in_of (kV_is ry) hd dd.mapOf ?_
  rw[←(rel.val k).isSome_eq,←l]
  exact h _ (I.tok _)
 ·subst ey
  cases(show u=Value.ref b from ry)
  obtain⟨z,hd,xs,rel,dd⟩:=dt_rd I.hok e
  refine wpAny_in_heap (tupleKind_room_in1 hu) (zhh I.hok eb) hd dd ?_
  have q:=(rel.val k).isSome_eq
  rw[Option.isSome_map]at q
  rw[←q,←l]
  exact h _ (I.tok _)
def d_notIn(hu:A.units+1<cLine)(I:Inv X a7 σ H s)(g:DGet H a y o)(ry:RelV y u)(h:∀s',Inv X a7 σ H s'→Q (.bool (!o.isSome)) s') :
  wpAny (model X.prog X.w) A (compareOp .NotIn u (.ref a)) Q E s:=by
 rcases g with⟨kvs,k,e,ey,l⟩ | ⟨kvs,k,b,e,ey,eb,l⟩
 ·subst ey
  obtain⟨z,hd,vs,rel,dd⟩:=dk_rd I.hok e
  refine wpAny_notIn_of (kV_is ry) hd dd.mapOf ?_
  rw[←(rel.val k).isSome_eq,←l]
  exact h _ (I.tok _)
 ·subst ey
  cases(show u=Value.ref b from ry)
  obtain⟨z,hd,xs,rel,dd⟩:=dt_rd I.hok e
  refine wpAny_notIn_heap (tupleKind_room_in1 hu) (zhh I.hok eb) hd dd ?_
  have q:=(rel.val k).isSome_eq
  rw[Option.isSome_map]at q
  rw[←q,←l]
  exact h _ (I.tok _)
def d_write(I:Inv X a7 σ H s)(mu:Mut (H a))(hs:Heap.SameBut a s.heap h')(he:∃q,h'.get? a=some q)(new:zbo X.prog X.w (upd H a ob) h' a ob) :
  Inv X a7 σ (upd H a ob) {s with heap:=h',toks:=t'} :=
 I.write (x:=a) (e:=a) mu (.inl rfl) (λb q hb z=>(hs.2 b hb).trans z) he new
def dk_new(z:kvs.length≤sizeLine)(hd:(a==sysModules)=false)(rel:KV kvs vs)(dd:h'.DictOf (zaq P w) a vs) :
  zbo P w H' h' a (.dK kvs):=⟨z,hd,vs,rel,dd⟩
def d_setItem(hu:A.units+1<cLine)(I:Inv X a7 σ H s)(g:DPut H a y v H')(ry:RelV y u)(rv:RelV v r)(h:∀s',Inv X a7 σ H' s'→Q () s') :
  wpAny (model X.prog X.w) A (setItem (.ref a) u r) Q E s:=by
 rcases g with⟨kvs,k,e,ey,l,eH⟩ | ⟨kvs,k,b,e,ey,eb,l,eH⟩
 ·subst ey eH
  obtain⟨z,hd,vs,rel,dd⟩:=dk_of I.hok e
  have hz:vs.length≤sizeLine:=by rw[←rel.length];exact z
  have hl:(putK kvs k v).length≤sizeLine:=by have:=zd9 kvs k v;exact Zi ‹_› ‹_›
  refine wpAny_setItem_pairs (hsz:=hz) (kV_is ry) dd λh' jH hs=>h _ ?_
  have he:∃q,h'.get? a=some q:=let⟨q,_,_,hq,_⟩:=jH;⟨q,hq⟩
  exact d_write I (by rw[e];exact True.intro) hs he (dk_new hl hd (rel.put k rv) jH)
 ·subst ey eH
  cases(show u=Value.ref b from ry)
  obtain⟨z,hd,xs,rel,dd⟩:=dt_of I.hok e
  have hz:xs.length≤sizeLine:=by rw[←Zt rel];exact z
  have hl:(putK kvs k v).length≤sizeLine:=by have:=zd9 kvs k v;exact Zi ‹_› ‹_›
  refine wpAny_setItem_heap (hsz:=hz) (tupleKind_room_in1 hu) (zhh I.hok eb) dd λh' jH hs=>h _ ?_
  obtain⟨q,es,ep,hq,h2,h3,h4,_,h5⟩:=jH
  refine d_write I (by rw[e];exact True.intro) hs ⟨q,hq⟩ ⟨hl,hd,_,(rel.put k eb rv).keeps λc ys ec=>?_,q,es,ep,hq,h2,h3,h4,h5⟩
  rw[zad (za3 ec e (λz=>nomatch z))]
  exact ec
end
section
variable{X:Cx}{a7:Nd}{σ:St}{H:Hp}{s:Ng}{a:Nc}{kvs:List (Key×V)}{k:Key}{u:Value}{A:Nn}{E:Nb}
end
def NoSl(i:Expr):Prop:=∀ov iv,subscripted i false ov iv=operate [ov,iv] (getItem ov iv)
def subD_of{prog:Ni}{w:Nl}{A:Nn}{E:Nb}{s:Ng}{env:Env}{value slice:Expr}{pos:Pos}{T id:String}{Q:Nb}(hl:typeLookup (.type T) "__getitem__" = pure (some (.builtin id)))(hs:NoSl slice)(h:wpAny (model prog w) A (eval value env) (λo s₁=>wpAny (model prog w) A (eval slice env) (λi s₂=>s₂.TypeIs o T∧wpAny (model prog w) A (getItem o i) Q E s₂) E s₁) E s) :
  wpAny (model prog w) A (eval (.Subscript value slice pos) env) Q E s:=by
 refine Subscript_ (wpAny_mono h (λo s₁ h₁=>wpAny_mono h₁ (λi s₂ h₂=>?_) λ_ _ x=>x) λ_ _ x=>x)
 obtain⟨hT,h₂⟩:=h₂
 unfold subscriptTail
 refine wpAny_bind ?_
 rw[getitemInPython_of_ne hT.not_modules]
 refine wpAny_bind (wpAny_specialOf hT hl ?_)
 have fin:wpAny (model prog w) A (subscripted slice false o i) (λr s₃=>wpAny (model prog w) A (letTemporaryGo value o r >>= λ_=>pure r) Q E s₃) E s₂:=by
  rw[hs o i]
  exact wpAny_operating (wpAny_mono h₂ (λr s₃ h₃=>wpAny_bind (wpAny_letTemporaryGo (wpAny_pure h₃))) λ_ _ x=>x)
 first
  |exact wpAny_pure (wpAny_bind fin)
  |exact wpAny_bind (wpAny_pure (wpAny_bind fin))
  |exact wpAny_bind fin
def dict_typeIs(I:Inv X a7 σ H s)(g:DGet H a y o):s.TypeIs (.ref a) "dict" := by
 rcases g with⟨kvs,k,e,_,_⟩ | ⟨kvs,k,b,e,_,_,_⟩
 ·obtain ⟨_,_,vs,_,dd⟩:=dk_rd I.hok e
  exact dd.typeIs
 ·obtain ⟨_,_,xs,_,dd⟩:=dt_rd I.hok e
  exact dd.typeIs
inductive RDG(x y:V)(H:Hp)(Q:VK):Prop
 |mk (a:Nc) (v:V) (e:x=.ref a) (g:DGet H a y (some v)) (q:Q v H):RDG x y H Q
inductive RDI(x y:V)(H:Hp)(R:Option V→Prop):Prop
 |mk (a:Nc) (o:Option V) (e:x=.ref a) (g:DGet H a y o) (q:R o):RDI x y H R
inductive RDP(x y v:V)(H:Hp)(N:Hp→Prop):Prop
 |mk (a:Nc) (H4:Hp) (e:x=.ref a) (p:DPut H a y v H4) (q:N H4):RDP x y v H N
def tDGet(td ty:TE):TE:=λ σ H Q=>td σ H λx H1=>ty σ H1 λy H2=>RDG x y H2 Q
def tDIn(ty td:TE):TE:=λ σ H Q=>ty σ H λy H1=>td σ H1 λx H2=>RDI x y H2 λo=>Q (.bl o.isSome) H2
def tDNotIn(ty td:TE):TE:=λ σ H Q=>ty σ H λy H1=>td σ H1 λx H2=>RDI x y H2 λo=>Q (.bl (!o.isSome)) H2
def sDPut(td ty tv:TE):TS:=λD σ H=>tv σ H λv H1=>td σ H1 λx H2=>ty σ H2 λy H3=>RDP x y v H3 (D.nx σ)
section
variable{X:Cx}{o i e value:Expr}{pos bi tpos:Pos}{td ty tv:TE}
def pe_dget(hu:X.A.units+1<cLine)(ho:PE X o td)(hi:PE X i ty)(hs:NoSl i):PE X (.Subscript o i pos) (tDGet td ty):=by
 intro a7 s σ H Q I h
 refine subD_of PySem.F.slot_dict_getitem.lookup hs (thn (ho a7 s σ H _ I h) λu s1 ⟨x,H1,I1,rx,q1⟩=>thn (hi a7 s1 σ H1 _ I1 q1) λiv s2 ⟨y,H2,I2,ry,a,v,ex,g,q2⟩=>?_)
 subst ex
 obtain rfl:u=Value.ref a:=rx
 exact⟨dict_typeIs I2 g,d_getItem hu I2 g ry λw' s3 I3 db=>⟨v,H2,I3,db,q2⟩⟩
def pc_din(hu:X.A.units+1<cLine)(hi:PE X i ty)(ho:PE X o td):PC X .In i o (tDIn ty td):=by
 intro a7 s σ H Q I h
 refine thn (hi a7 s σ H _ I h) λiv s1 ⟨y,H1,I1,ry,q1⟩=>thn (ho a7 s1 σ H1 _ I1 q1) λu s2 ⟨x,H2,I2,rx,a,ov,ex,g,q2⟩=>?_
 subst ex
 obtain rfl:u=Value.ref a:=rx
 exact d_in hu I2 g ry λs3 I3=>⟨.bl ov.isSome,H2,I3,rfl,q2⟩
def zdk(hu:X.A.units+1<cLine)(hi:PE X i ty)(ho:PE X o td):PC X .NotIn i o (tDNotIn ty td):=by
 intro a7 s σ H Q I h
 refine thn (hi a7 s σ H _ I h) λiv s1 ⟨y,H1,I1,ry,q1⟩=>thn (ho a7 s1 σ H1 _ I1 q1) λu s2 ⟨x,H2,I2,rx,a,ov,ex,g,q2⟩=>?_
 subst ex
 obtain rfl:u=Value.ref a:=rx
 exact d_notIn hu I2 g ry λs3 I3=>⟨.bl (!ov.isSome),H2,I3,rfl,q2⟩
def zh6(hu:X.A.units+1<cLine)(ho:PE X o td)(hi:PE X i ty)(hv:PE X value tv)(hs:swapsWith value (some (.Subscript o i bi)) pos.line X.env=pure false) :
  PS X (.Assign [.Subscript o i bi] value pos) (sDPut td ty tv):=by
 intro a7 s σ H D I h
 refine wpAny_Assign_Subscript (thn (hv a7 s σ H _ I h) λr s1 ⟨v,H1,I1,rv,q1⟩=>thn (ho a7 s1 σ H1 _ I1 q1) λu s2 ⟨x,H2,I2,rx,q2⟩=>thn (hi a7 s2 σ H2 _ I2 q2) λiv s3 ⟨y,H3,I3,ry,a,H4,ex,g,q3⟩=>?_) hs
 subst ex
 obtain rfl:u=Value.ref a:=rx
 exact d_setItem hu I3 g ry rv λs4 I4=>⟨σ,H4,I4,q3⟩
end
def dk_empty(h:Nm)(hb:sysModules<h.objs.size):zbo P w H (h.push {cls:=.type "dict",data:=.dict #[]}) h.objs.size (.dK []) :=
 ⟨Zh _,beq_eq_false_iff_ne.mpr (Zn (Zk hb)),[],.nil,Heap.DictOf.new h⟩
def dt_empty(h:Nm)(hb:sysModules<h.objs.size):zbo P w H (h.push {cls:=.type "dict",data:=.dict #[]}) h.objs.size (.dT []) :=
 ⟨Zh _,beq_eq_false_iff_ne.mpr (Zn (Zk hb)),[],.nil,_,#[],0,Za _ rfl,⟨rfl,rfl,rfl⟩,rfl,rfl,Yc⟩
def tDNewK:TE:=λ_ H Q=>∀p,H p=none→Q (.ref p) (upd H p (.dK []))
def tDNewT:TE:=λ_ H Q=>∀p,H p=none→Q (.ref p) (upd H p (.dT []))
section
variable{X:Cx}{pos:Pos}
def pe_dnewK:PE X (.Dict [] [] pos) tDNewK:=λa7 s σ H Q I h =>
 wpAny_Dict_empty ⟨.ref s.heap.objs.size,_,I.laid (a:=s.heap.objs.size) (o:=.dK []) (t':=s.toks) (λ_ _ q=>Qi _ q) (Qd _) (dk_empty s.heap I.big),rfl,h _ (I.hok.fresh (Qd _))⟩
def pe_dnewT:PE X (.Dict [] [] pos) tDNewT:=λa7 s σ H Q I h =>
 wpAny_Dict_empty ⟨.ref s.heap.objs.size,_,I.laid (a:=s.heap.objs.size) (o:=.dT []) (t':=s.toks) (λ_ _ q=>Qi _ q) (Qd _) (dt_empty s.heap I.big),rfl,h _ (I.hok.fresh (Qd _))⟩
end
def tPairs:List (TE×TE)→St→Hp→(List (V×V)→Hp→Prop)→Prop
 |[],_,H,Q=>Q [] H
 |(tk,tv)::r,σ,H,Q=>tk σ H λx H1=>tv σ H1 λy H2=>tPairs r σ H2 λps H3=>Q ((x,y)::ps) H3
abbrev VV:List (V×V)→List (Value×Value)→Prop:=Paired λp q=>RelV p.1 q.1∧RelV p.2 q.2
def PPs(X:Cx)(pos:Pos)(keys:List (Option Expr))(values:No)(trs:List (TE×TE)):Prop :=
 ∀(a7:Nd) (s:Ng) (σ:St) (H:Hp) (Q:List (V×V)→Hp→Prop),Inv X a7 σ H s→tPairs trs σ H Q →
  wpAny (model X.prog X.w) X.A (evalPairs (pairTrees keys values X.env pos)) (λvs s'=>∃ps H',Inv X a7 σ H' s'∧VV ps vs∧Q ps H') X.xe s
def pps_nil:PPs X pos [] [] []:=λa7 s σ H Q I h=>pairTrees_nil_walk ⟨[],H,I,.nil,h⟩
def pps_cons(hk:PE X k tk)(hv:PE X v tv)(hr:PPs X pos ks vs trs) :
  PPs X pos (some k::ks) (v::vs) ((tk,tv)::trs):=λa7 s σ H Q I h =>
 pairTrees_cons_walk (thn (hk a7 s σ H _ I h) λu s1 ⟨x,H1,I1,rx,q1⟩=>thn (hv a7 s1 σ H1 _ I1 q1) λw2 s2 ⟨y,H2,I2,ry,q2⟩ =>
  thn (hr a7 s2 σ H2 _ I2 q2) λws s3 ⟨ps,H3,I3,rel,q3⟩=>⟨(x,y)::ps,H3,I3,.cons ⟨rx,ry⟩ rel,q3⟩)
def zhg(kvs more:List (Key×V)):List (Key×V):=more.foldl (λaf kv=>putK af kv.1 kv.2) kvs
def KV.merge:∀{more:List (Key×V)} {rs:List (Key×Value)} {kvs:List (Key×V)} {vs:List (Key×Value)},KV more rs→KV kvs vs→KV (zhg kvs more) (merged vs rs):=by
 intro more rs kvs vs r
 unfold KV at r
 induction r generalizing kvs vs with
 |nil=>intro q;exact q
 | @cons p q ps qs h t ih =>
  intro r0
  have e:KV (putK kvs p.1 p.2) (stored vs q.1 q.2):=by
   have:=r0.put p.1 h.2
   rw[←h.1];exact this
  exact ih e
theorem zep:∀(more kvs:List (Key×V)),(zhg kvs more).length≤kvs.length+more.length
 |[],kvs=>by show kvs.length≤kvs.length+0;exact Qd _
 |p::r,kvs=>by
  have h1:=zep r (putK kvs p.1 p.2)
  have h2:=zd9 kvs p.1 p.2
  show(zhg (putK kvs p.1 p.2) r).length≤_
  rw[Zg];lia
theorem zhn:∀{kvs:List (Key×V)} {ws:List (Value×Value)},VV (kvs.map λkv=>(kV kv.1,kv.2)) ws→∃rs,Carries (zaq P w) ws rs∧KV kvs rs
 |[],_,r=>by rw[Xp]at r;cases r;exact⟨[],True.intro,.nil⟩
 | p::kvs,_,r=>by
  rw[Qk]at r
  cases r with
  |@cons a b as bs h t =>
   obtain⟨rs,c,q⟩:=zhn (P:=P) (w:=w) t
   obtain⟨b1,b2⟩:=b
   exact⟨(p.1,b2)::rs,⟨kV_is h.1,rfl,c⟩,.cons ⟨rfl,h.2⟩ q⟩
def tDisp(trs:List (TE×TE)):TE:=λ σ H Q=>∀p,H p=none→tPairs trs σ (upd H p (.dK [])) λps H2=>H2 p=some (.dK [])∧∃kvs:List (Key×V),ps=kvs.map (λkv=>(kV kv.1,kv.2))∧kvs.length≤15∧Q (.ref p) (upd H2 p (.dK (zhg [] kvs)))
def pe_disp(h:PPs X pos keys values trs)(cC:keys.all (·.isSome)=true)(hl:keys.length=values.length)(h0:keys≠[])(h15:keys.length≤15):PE X (.Dict keys values pos) (tDisp trs):=by
 intro a7 s σ H Q I q
 have hn:=I.hok.fresh (Qd s.heap.objs.size)
 have I1:=I.laid (a:=s.heap.objs.size) (o:=.dK []) (h':=s.heap.push {cls:=.type "dict",data:=.dict #[]}) (t':=s.toks) (λ_ _ q=>Qi _ q) (Qd _) (dk_empty s.heap I.big)
 refine wpAny_Dict_walk (knd:=zaq X.prog X.w) cC hl h0 h15 (thn (h a7 _ σ _ _ I1 (q _ hn)) λws s2 ⟨ps,H2,I2,rel,e,kvs,ep,lk,q2⟩=>?_)
 subst ep
 obtain⟨rs,c,rk⟩:=zhn (P:=X.prog) (w:=X.w) rel
 obtain⟨z,hd,vs0,r0,dd⟩:=dk_of I2.hok e
 cases r0
 refine⟨rs,c,dd,λh' jH hs=>⟨.ref s.heap.objs.size,_,?_,rfl,q2⟩⟩
 have hz:(zhg [] kvs).length≤sizeLine:=by
  have h1:=zep kvs []
  rw[Jj]at h1
  rw[sizeLine_eq];lia
 have he:∃q,h'.get? s.heap.objs.size=some q:=let⟨q,_,_,hq,_⟩:=jH;⟨q,hq⟩
 exact d_write I2 (by rw[e];exact True.intro) hs he (dk_new hz hd (rk.merge .nil) jH)
structure M2(X:Cx)(o:Expr)(m:Str)(apos:Pos)(e f:Expr)(cpos:Pos):Prop where
 base:attributeBase o m X.env (eval o X.env)=eval o X.env
 few:((backTo cpos (starEach [e,f] X.env)).all (λx=>!x.1)&&(backToKw cpos (keywordEach [] X.env)).all (λx=>x.1.isSome)
  && decide (([e,f]:List Expr).length+([]:List Keyword).length+(if([]:List Keyword).isEmpty then 0 else 1)<30))=true
 line:(apos.endLine==cpos.line)=true
 trees:backTo cpos (starEach [e,f] X.env)=[(false,eval e X.env),(false,eval f X.env)]
def IsD(H:Hp)(a:Nc):Prop:=(∃kvs,Rd H a (.dK kvs))∨∃kvs,Rd H a (.dT kvs)
def isD_at(I:Inv X a7 σ H s)(d:IsD H a) :
  s.TypeIs (.ref a) "dict" ∧ (∀b,Value.ref a=.ref b→∃ob,s.heap.get? b=some ob∧ob.dict=none)∧(a==sysModules)=false:=by
 rcases d with⟨kvs,e⟩ | ⟨kvs,e⟩
 ·obtain ⟨_,hd,vs,_,dd⟩:=dk_rd I.hok e
  refine⟨dd.typeIs,λb q=>?_,hd⟩
  cases q
  obtain⟨ob,_,_,h1,h2,_⟩:=dd
  exact⟨ob,h1,h2.2.1⟩
 ·obtain ⟨_,hd,xs,_,dd⟩:=dt_rd I.hok e
  refine⟨dd.typeIs,λb q=>?_,hd⟩
  cases q
  obtain⟨ob,_,_,h1,h2,_⟩:=dd
  exact⟨ob,h1,h2.2.1⟩
section
variable{X:Cx}{a7:Nd}{σ:St}{H:Hp}{s:Ng}{a:Nc}{y d:V}{u r:Value}{o:Option V}{A:Nn}{E:Nb}
def d_get2(hu:A.units+1<cLine)(I:Inv X a7 σ H s)(g:DGet H a y o)(ry:RelV y u)(rd:RelV d r)(h:∀w' s',Inv X a7 σ H s'→RelV (o.getD d) w'→Q w' s') :
  wpAny (model X.prog X.w) A (call (.builtin "dict.get") [.ref a,u,r]) Q E s:=by
 rcases g with⟨kvs,k,e,ey,l⟩ | ⟨kvs,k,b,e,ey,eb,l⟩
 ·subst ey
  obtain⟨z,hd,vs,rel,dd⟩:=dk_rd I.hok e
  refine call_meetsIn Xw dd.typeIs PySem.F.entry_dict_get (PySem.F.args_dict_get_3 _ _ _) (meets_dict_get_default (zaq X.prog X.w) a (kV_is ry) hd r) ⟨_,dd.mapOf,h _ _ (I.tok _) ?_⟩
  rw[l]
  exact(rel.val k).getD rd
 ·subst ey
  cases(show u=Value.ref b from ry)
  obtain⟨z,hd,xs,rel,dd⟩:=dt_rd I.hok e
  refine call_meetsIn Xw dd.typeIs PySem.F.entry_dict_get (PySem.F.args_dict_get_3 _ _ _) (meetsH_dict_get_default (tupleKind (zaq X.prog X.w)) a b hd r) ⟨tupleKind_room_in1 hu,k,xs,zhh I.hok eb,dd,h _ _ (I.tok _) ?_⟩
  rw[l]
  exact(rel.val k).getD rd
end
def tDGet2(td ty tx:TE):TE:=λ σ H Q=>td σ H λx H1=>∃a,x=.ref a∧IsD H1 a∧ty σ H1 λy H2=>tx σ H2 λz H3=>∃o,DGet H3 a y o∧Q (o.getD z) H3
section
variable{X:Cx}{o e f:Expr}{apos cpos:Pos}{td ty tx:TE}
def pe_dget2(hu:X.A.units+1<cLine)(ho:PE X o td)(he:PE X e ty)(hf:PE X f tx)(m:M2 X o "get" apos e f cpos):PE X (.Call (.Attribute o "get" apos) [e,f] [] cpos) (tDGet2 td ty tx):=by
 intro a7 s σ H Q I h
 refine wpAny_Call_method m.base m.few m.line PySem.F.plainAttrs_dict Xw PySem.F.type_dict_get (thn (ho a7 s σ H _ I h) λu s1 ⟨x,H1,I1,rx,a,ex,d,q1⟩=>?_)
 subst ex
 obtain rfl:u=Value.ref a:=rx
 obtain⟨t1,t2,_⟩:=isD_at I1 d
 refine⟨t1,t2,?_⟩
 rw[m.trees]
 refine Calls.callWith_builtin rfl (Calls.evalArgs_plain (Calls.spliced_cons (thn (he a7 s1 σ H1 _ I1 q1) λiv s2 ⟨y,H2,I2,ry,q2⟩ =>
  Calls.spliced_cons (thn (hf a7 s2 σ H2 _ I2 q2) λfv s3 ⟨z,H3,I3,rz,ov,g,q3⟩=>Calls.spliced_nil ?_))))
 exact d_get2 hu I3 g ry rz λw' s4 I4 db=>⟨_,H3,I4,db,q3⟩
end
section
variable{X:Cx}{a7:Nd}{σ:St}{H:Hp}{s:Ng}{a:Nc}{kvs:List (Key×V)}{A:Nn}{E:Nb}
end
section
variable{X:Cx}{a7:Nd}{σ:St}{H:Hp}{s:Ng}{a:Nc}{y:V}{u:Value}{A:Nn}{E:Nb}
end
end L2
namespace HT
open PySem PyProof.Rows
section
open PySem.SeqAt
open PySem.AutoSeq1 (wpAny_loadPart')
open PySem.MeetsSeq PySem.MeetsSeq2 PySem.MeetsSeq3
end
section
variable{prog:Ni}{w:Nl}{A:Nn}{E:Nb}{s:Ng}
def sIx(n d:Nat):Option Int→Nat
 |none=>d
 |some v=>if v<0 then(v+(n:Int)).toNat else min v.toNat n
def sIx_nat(n d k:Nat):sIx n d (some (k:Int))=min k n:=by
 show(if(k:Int)<0 then((k:Int)+(n:Int)).toNat else min (k:Int).toNat n)=min k n
 rw[if_neg (by lia),Jm]
end
end HT
namespace L2
open PySem PySem.Spec PyProof.Rows
abbrev TO:=St→Hp→(Option Int→Hp→Prop)→Prop
def PO(X:Cx)(e:Option Expr)(t:TO):Prop :=
 ∀(a7:Nd) (s:Ng) (σ:St) (H:Hp) (Q:Option Int→Hp→Prop),Inv X a7 σ H s→t σ H Q →
  wpAny (model X.prog X.w) X.A (evalPart e X.env) (λu s'=>∃o H',Inv X a7 σ H' s'∧IsPart u o∧Q o H') X.xe s
def tNoPart:TO:=λ_ H Q=>Q none H
inductive RPt(x:V)(R:Int→Prop):Prop
 |mk (i:Int) (e:x=.int i) (q:R i):RPt x R
def tPart(t:TE):TO:=λ σ H Q=>t σ H λx H1=>RPt x λi=>Q (some i) H1
section
variable{X:Cx}{e:Expr}{te:TE}{lo hi:Option Expr}{tl th:TO}{pos p2:Pos}
def zbz:PO X none tNoPart:=by
 intro a7 s σ H Q I h
 rw[evalPart_none]
 exact wpAny_pure ⟨none,H,I,.none,h⟩
def zb5(h:PE X e te):PO X (some e) (tPart te):=by
 intro a7 s σ H Q I hw
 rw[evalPart_some]
 refine thn (h a7 s σ H _ I hw) λu s1 ⟨x,H1,I1,r1,q1⟩=>?_
 obtain⟨i,rfl,q⟩:=q1
 obtain⟨t,rfl⟩:=r1
 exact⟨some i,H1,I1,.int i t,q⟩
def SlR(X:Cx)(r:V→Option Int→Option Int→Hp→VK→Prop):Prop :=
 ∀(a7:Nd) (s:Ng) (σ:St) (H:Hp) (x:V) (v vl vu:Value) (lo hi:Option Int) (sl:Nc) (Q:VK),Inv X a7 σ H s→RelV x v→s.heap.IsSliceOf sl vl vu .none→IsPart vl lo→IsPart vu hi→r x lo hi H Q →
  ∃T id,typeLookup (.type T) "__getitem__" = pure (some (.builtin id))∧s.TypeIs v T∧wpAny (model X.prog X.w) X.A (getItem v (.ref sl)) (EP X a7 σ Q) X.xe s
def tSl(r:V→Option Int→Option Int→Hp→VK→Prop)(te:TE)(tl th:TO):TE:=λ σ H Q=>te σ H λx H1=>tl σ H1 λl H2=>th σ H2 λu H3=>r x l u H3 Q
def zbu(hr:SlR X r)(he:PE X e te)(hl:PO X lo tl)(hu:PO X hi th):PE X (.Subscript e (.Slice lo hi none p2) pos) (tSl r te tl th):=by
 intro a7 s σ H Q I h
 refine Subscript_ (thn (he a7 s σ H _ I h) λv s1 ⟨x,H1,I1,r1,q1⟩=>?_)
 refine wpAny_Slice (thn (hl a7 s1 σ H1 _ I1 q1) λvl s2 ⟨l,H2,I2,pl,q2⟩=>thn (hu a7 s2 σ H2 _ I2 q2) λvu s3 ⟨u,H3,I3,pu,q3⟩=>?_)
 rw[evalPart_none]
 refine wpAny_pure ?_
 have I4:Inv X a7 σ H3 {s3 with heap:=s3.heap.push {cls:=.type "slice",data:=.fields #[vl,vu,.none]}}:=I3.kept (t':=s3.toks) λb ob q=>Qi _ q
 obtain⟨T,id,hT,ht,hg⟩:=hr a7 {s3 with heap:=s3.heap.push {cls:=.type "slice",data:=.fields #[vl,vu,.none]}} σ H3 x v vl vu l u s3.heap.objs.size Q I4 r1 (Heap.IsSliceOf.new ..) pl pu q3
 show wpAny (model X.prog X.w) X.A (subscriptTail e (.Slice lo hi none p2) v (.ref s3.heap.objs.size)) (EP X a7 σ Q) X.xe {s3 with heap:=s3.heap.push {cls:=.type "slice",data:=.fields #[vl,vu,.none]}}
 exact tail_any (ops:=[.ref s3.heap.objs.size,v]) ht hT hg (by with_unfolding_all rfl)
def cutV(xs:List V)(lo hi:Option Int):List V:=(xs.drop (HT.sIx xs.length 0 lo)).take (HT.sIx xs.length xs.length hi-HT.sIx xs.length 0 lo)
def zco(xs:List V)(lo hi:Option Int):(cutV xs lo hi).length≤xs.length:=by
 unfold cutV
 rw[Zc,Yj]
 lia
end
end L2
namespace L2
open PySem PySem.Spec PyProof.Rows
def ixN(n:Nat)(i:Int):Option Nat:=if 0≤i then(if i<n then some i.toNat else none) else if -(n:Int)≤i then some (i+n).toNat else none
def atI{α:Type}(xs:List α)(i:Int):Option α:=(ixN xs.length i).bind λj=>xs[j]?
def ixN_seq(h:ixN n i=some j):seqIndex? i n=some j∧j<n∧-(n:Int)≤i∧i<n:=by
 unfold ixN at h
 by_cases h0:0≤i
 ·rw [if_pos h0] at h
  by_cases h1:i<n
  ·rw [if_pos h1] at h
   have e:i.toNat=j:=Qs h
   exact⟨by rw[seqIndex_of h0 h1,e],by lia,by lia,h1⟩
  ·rw[if_neg h1]at h;cases h
 ·rw [if_neg h0] at h
  by_cases h1:-(n:Int)≤i
  ·rw [if_pos h1] at h
   have e:(i+n).toNat=j:=Qs h
   exact⟨by rw[seqIndex_neg (by lia) h1,e],by lia,h1,by lia⟩
  ·rw[if_neg h1]at h;cases h
def atI_get{α:Type}{xs:List α}{i:Int}{v:α}(h:atI xs i=some v):∃j,seqIndex? i xs.length=some j∧xs[j]?=some v∧j<xs.length∧-(xs.length:Int)≤i∧i<xs.length:=by
 unfold atI at h
 cases e:ixN xs.length i with
 |none=>rw[e]at h;cases h
 |some j =>
  rw[e]at h
  obtain⟨h1,h2,h3,h4⟩:=ixN_seq e
  exact⟨j,h1,h,h2,h3,h4⟩
def zax{α:Type}{xs:List α}{j:Nat}{v:α}(h:xs[j]?=some v):atI xs (j:Int)=some v:=by
 have hj:j<xs.length:=(Zd.mp h).1
 have e:ixN xs.length (j:Int)=some j:=by
  unfold ixN
  rw[if_pos (by lia),if_pos (by exact zar9 ‹_›)];simp
 unfold atI;rw[e];exact h
def PlainIx(b:Expr):Prop:=∀o i,subscripted b false o i=operate [o,i] (getItem o i)
def IxR(X:Cx)(r:R2):Prop :=
 ∀(value slice:Expr) (a7:Nd) (s:Ng) (σ:St) (H:Hp) (x y:V) (v u:Value) (Q:VK),Inv X a7 σ H s→RelV x v→RelV y u→r x y H Q →
  subscripted slice false v u=operate [v,u] (getItem v u)→wpAny (model X.prog X.w) X.A (subscriptTail value slice v u) (EP X a7 σ Q) X.xe s
def MtR(X:Cx)(id:String)(r:V→List V→Hp→VK→Prop):Prop :=
 ∀(a7:Nd) (s:Ng) (σ:St) (H:Hp) (x:V) (xs:List V) (v:Value) (us:Nh) (Q:VK),Inv X a7 σ H s→RelV x v→Vals xs us→r x xs H Q →
  wpAny (model X.prog X.w) X.A (call (.builtin id) (v::us)) (EP X a7 σ Q) X.xe s
section
variable{X:Cx}{a b:Expr}{ta tb:TE}{pos:Pos}
def zbg(hr:IxR X r)(ha:PE X a ta)(hb:PE X b tb)(hs:PlainIx b):PE X (.Subscript a b pos) (tOp r ta tb):=by
 intro a7 s σ H Q I h
 exact Subscript_ (binT ha hb I h λv u s2 x y H2 I2 rx ry q=>hr a b a7 s2 σ H2 x y v u Q I2 rx ry q (hs _ _))
inductive RrIxL(K:Na)(x:V)(y:V)(H:Hp)(Q:VK):Prop
 |mk (p:_) (xs:_) (i:_) (v:_) (h0:x=.ref p) (h1:y=.int i) (h2:SqL K H p xs) (h3:atI xs i=some v) (h4:Q v H):RrIxL K x y H Q
def rIxL(K:Na):R2:=λx y H Q=>RrIxL K x y H Q
inductive RrIxT(K:Na)(x:V)(y:V)(H:Hp)(Q:VK):Prop
 |mk (p:_) (xs:_) (i:_) (v:_) (h0:x=.ref p) (h1:y=.int i) (h2:SqT K H p xs) (h3:atI xs i=some v) (h4:Q v H):RrIxT K x y H Q
def rIxT(K:Na):R2:=λx y H Q=>RrIxT K x y H Q
inductive RrIxS(x:V)(y:V)(H:Hp)(Q:VK):Prop
 |mk (z:_) (i:_) (c:_) (h0:x=.str z) (h1:y=.int i) (h2:z.length≤sizeLine) (h3:atI z.cps.toList i=some c) (h4:Q (.str ⟨#[c]⟩) H):RrIxS  x y H Q
def rIxS:R2:=λx y H Q=>RrIxS  x y H Q
def zat:IxR X (rIxL X.K):=by
 intro value slice a7 s σ H x y v u Q I rx ry h hs
 obtain⟨p,xs,i,z,rfl,rfl,hq,he,q⟩:=h
 cases rx
 obtain⟨t,rfl⟩:=ry
 obtain⟨a8,r,pl,hz⟩:=I.list hq
 obtain⟨j,h1,h2,h3,h4,h5⟩:=atI_get he
 obtain⟨w,ew,db⟩:=r.get h2
 have hl:=r.length
 have hn:=zeo
 have fin:EP X a7 σ Q w s:=⟨z,H,I,db,q⟩
 by_cases h0:0≤i
 ·have hj:i.toNat=j:=by
   rw[seqIndex_of h0 h5]at h1
   exact Qs h1
  exact item_listR pl.isList h0 (by lia) (by rw[hj];simpa using ew) fin hs
 ·have hj:(i+(a8.toArray.size:Int)).toNat=j:=by
   rw[seqIndex_neg (by lia) h4]at h1
   rw[Qn,←hl]
   exact Qs h1
  exact subscriptTail_builtinR (x:=w) pl.isList.typeIs slot_list_getitem.lookup
   (wpAny_getItem_list_neg (Q:=λr s'=>r=w∧EP X a7 σ Q r s') pl.isList (by lia) (by rw[Qn]<;>lia) (by lia) (by rw[hj];simpa using ew) ⟨rfl,fin⟩) hs
def ix_tup:IxR X (rIxT X.K):=by
 intro value slice a7 s σ H x y v u Q I rx ry h hs
 obtain⟨p,xs,i,z,rfl,rfl,hq,he,q⟩:=h
 cases rx
 obtain⟨t,rfl⟩:=ry
 obtain⟨a8,r,pl,hz⟩:=I.tuple hq
 obtain⟨j,h1,h2,h3,h4,h5⟩:=atI_get he
 obtain⟨w,ew,db⟩:=r.get h2
 have hl:=r.length
 have hn:=zeo
 have fin:EP X a7 σ Q w s:=⟨z,H,I,db,q⟩
 exact subscriptTail_builtinR (x:=w) pl.typeIs slot_tuple_getitem.lookup
  (getItem_tuple (j:=j) (Q:=λr s'=>r=w∧EP X a7 σ Q r s') pl (by lia) (by lia) (by rw[Qn,←hl];exact h1) (by simpa using ew) ⟨rfl,fin⟩) hs
def ix_str:IxR X rIxS:=by
 intro value slice a7 s σ H x y v u Q I rx ry h hs
 obtain⟨z,i,c,rfl,rfl,hz,he,q⟩:=h
 obtain⟨t,rfl⟩:=rx
 obtain⟨t',rfl⟩:=ry
 obtain⟨j,h1,h2,h3,h4,h5⟩:=atI_get he
 have hl:z.cps.toList.length=z.length:=by simp[Str.length]
 rw[hl]at h1 h4 h5
 have hn:=zeo
 exact tail_any (typeIs_str s z t) slot_str_getitem.lookup (getItem_str (c:=c) (by
  have e1:decide (i < -(2 ^ 63:Int))=false:=decide_eq_false (by lia)
  have e2:decide (i≥2 ^ 63)=false:=decide_eq_false (by lia)
  rw[e1,e2,Bool.or_false]) (by rw[h1];simpa using h2) ⟨.str ⟨#[c]⟩,H,I.tok _,⟨_,rfl⟩,q⟩) hs
def mapSeq_set(a8:Nh)(n j:Nat)(u:Value):Obj.mapSeq (·.setIfInBounds j u) {cls:=.type "list",data:=.seq a8.toArray n}={cls:=.type "list",data:=.seq (a8.set j u).toArray n}:=by
 simp[Obj.mapSeq]
def Inv.lst{a7:Nd}{σ:St}{H:Hp}{s:Ng}{p:Nc}{xs:List V}(I:Inv X a7 σ H s)(h:H p=some (.lst xs)) :
  ∃(a8:Nh) (n:Nat),Vals xs a8∧s.heap.get? p=some {cls:=.type "list",data:=.seq a8.toArray n}∧xs.length≤sizeLine:=by
 obtain⟨z,a8,n,r,e⟩:=I.hok p _ h
 exact⟨a8,n,r,e,z⟩
def Inv.lstUpd{s:Ng}{xs ys:List V}{a8 its':Nh}{n n':Nat}{f:Obj→Obj}(I:Inv X a7 σ H s)(h:H p=some (.lst xs))(ho:s.heap.get? p=some {cls:=.type "list",data:=.seq a8.toArray n})(hf:f {cls:=.type "list",data:=.seq a8.toArray n}={cls:=.type "list",data:=.seq its'.toArray n'})(r:Vals ys its')(hz:ys.length≤sizeLine)(t:Nat) :
  Inv X a7 σ (upd H p (.lst ys)) {s with heap:=s.heap.update p f,toks:=t}:=by
 have e:(s.heap.update p f).get? p=some {cls:=.type "list",data:=.seq its'.toArray n'}:=by
  rw[Heap.get?_update_self f ho (by rw[hf]<;>rfl),hf]
 refine I.write (x:=p) (e:=p) (by rw[h];trivial) (.inl rfl) (λb u hb q=>(Uv _ _ (Zn hb)).trans q) ⟨_,e⟩ ?_
 exact⟨hz,its',n',r,e⟩
inductive RrSetL(o:V)(i:V)(v:V)(H:Hp)(Q:Hp→Prop):Prop
 |mk (p:_) (xs:_) (k:_) (j:_) (h0:o=.ref p) (h1:i=.int k) (h2:H p=some (.lst xs)) (h3:ixN xs.length k=some j) (h4:Q (upd H p (.lst (xs.set j v)))):RrSetL  o i v H Q
def rSetL:V→V→V→Hp→(Hp→Prop)→Prop:=λo i v H Q=>RrSetL  o i v H Q
def set_list:PSet X rSetL:=by
 intro a7 s σ H o i v ov iv u Q I ro ri rv h
 obtain⟨p,xs,k,j,rfl,rfl,hp,hj,q⟩:=h
 cases ro
 obtain⟨t,rfl⟩:=ri
 obtain⟨a8,n,r,ho,hz⟩:=I.lst hp
 obtain⟨h1,h2,h3,h4⟩:=ixN_seq hj
 have hl:=r.length
 have hn:=zeo
 have I':Inv X a7 σ (upd H p (.lst (xs.set j v))) {s with heap:=s.heap.update p (Obj.mapSeq (·.setIfInBounds j u))} :=
  I.lstUpd hp ho (mapSeq_set a8 n j u) (r.set rv j) (by rw[Uw];exact hz) s.toks
 by_cases h0:0≤k
 ·have hk:k.toNat=j:=by
   rw[seqIndex_of h0 h4]at h1
   exact Qs h1
  exact PySem.W.ki_setAt ho h0 (by lia) (by rw[Qn,←hl];exact h4) (by rw[hk];exact⟨_,I',q⟩)
 ·have hk:(k+(a8.toArray.size:Int)).toNat=j:=by
   rw[seqIndex_neg (by lia) h3]at h1
   rw[Qn,←hl]
   exact Qs h1
  exact PySem.W.ki_setBack ho (by lia) (by rw[Qn,←hl];exact h3) (by lia) (by rw[hk];exact⟨_,I',q⟩)
def slice_bounds(lo hi:Option Int)(n:Nat):(sliceBounds lo hi none n).1=((HT.sIx n 0 lo:Nat):Int)∧(sliceBounds lo hi none n).2.1=((HT.sIx n n hi:Nat):Int)∧(sliceBounds lo hi none n).2.2=1:=by
 refine⟨?_,?_,rfl⟩
 ·cases lo with
  |none=>simp[sliceBounds,HT.sIx]
  |some i =>
   simp only[sliceBounds,HT.sIx,Option.getD_none,show(1:Int)>0 by decide,if_true]
   by_cases h:i<0
   ·simp only[h,if_true]<;>lia
   ·simp only[h,if_false]<;>lia
 ·cases hi with
  |none=>simp[sliceBounds,HT.sIx]
  |some i =>
   simp only[sliceBounds,HT.sIx,Option.getD_none,show(1:Int)>0 by decide,if_true]
   by_cases h:i<0
   ·simp only[h,if_true]<;>lia
   ·simp only[h,if_false]<;>lia
def zhw(a8:Nh)(lo hi:Option Int):slicePick a8.toArray lo hi none=((a8.drop (HT.sIx a8.length 0 lo)).take (HT.sIx a8.length a8.length hi-HT.sIx a8.length 0 lo)).toArray:=by
 obtain⟨h1,h2,h3⟩:=slice_bounds lo hi a8.toArray.size
 unfold slicePick
 rw[h1,h2,h3]
 simp only[sliceRange_one,pick_run,Qn]<;>rfl
inductive RrSlL(K:Na)(x:V)(lo:Option Int)(hi:Option Int)(H:Hp)(Q:VK):Prop
 |mk (a:_) (xs:_) (h0:x=.ref a) (h1:SqL K H a xs) (h2:∀p,H p=none→Q (.ref p) (upd H p (.lst (cutV xs lo hi)))):RrSlL K x lo hi H Q
def rSlL(K:Na):V→Option Int→Option Int→Hp→VK→Prop:=λx lo hi H Q=>RrSlL K x lo hi H Q
def zcs:SlR X (rSlL X.K):=by
 intro a7 s σ H x v vl vu lo hi sl Q I rx hs pl pu h
 obtain⟨a,xs,rfl,hx,q⟩:=h
 cases rx
 obtain⟨a8,r,ht,hz⟩:=I.list hx
 have ad:=r.length
 refine⟨"list",_,slot_list_getitem.lookup,ht.isList.typeIs,?_⟩
 refine wpAny_getItem_list_slice ht.isList hs pl pu .none (by simp) ?_ (by rw[Qn]<;>exact zd3 ‹_› ‹_›)
 rw[zhw,←ad]
 refine⟨.ref s.heap.objs.size,_,I.laid (t':=s.toks) (o:=.lst (cutV xs lo hi)) (λb ob q=>Qi _ q) (Qd _) ?_,rfl,q _ (I.hok.fresh (Qd _))⟩
 exact⟨Zi (zco xs lo hi) hz,_,0,(r.drop (HT.sIx xs.length 0 lo)).take (HT.sIx xs.length xs.length hi-HT.sIx xs.length 0 lo),Za _ rfl⟩
def zdo:V→Bool
 |.non=>true
 |.bl _=>true
 |.int _=>true
 |.str _=>true
 |_=>false
def eqV:V→V→Bool
 |.non,.non=>true
 |.bl a,.bl b=>a==b
 |.bl a,.int b=>(if a then 1 else 0)==b
 |.int a,.bl b=>a==(if b then 1 else 0)
 |.int a,.int b=>a==b
 |.str a,.str b=>a==b
 |_,_=>false
def eqAt_V(ry:RelV y u)(rx:RelV x v)(fy:zdo y=true)(fx:zdo x=true):SeqAt.EqAt A s u v (eqV y x):=by
 cases y with
 |non =>
  cases ry
  cases x with
  |non=>cases rx;exact SeqAt.EqAt.same _
  |bl b=>cases rx;exact SeqAt.EqAt.none_bool b
  |int b=>obtain⟨t,rfl⟩:=rx;exact SeqAt.EqAt.none_int b t
  |str b=>obtain⟨t,rfl⟩:=rx;exact SeqAt.EqAt.none_str b t
  |_=>exact absurd (show false=true from fx) Zb
 |bl a =>
  cases ry
  cases x with
  |non=>cases rx;exact SeqAt.EqAt.bool_none a
  |bl b=>cases rx;exact SeqAt.EqAt.bool_bool a b
  |int b=>obtain⟨t,rfl⟩:=rx;exact SeqAt.EqAt.bool_int a b t
  |str b=>obtain⟨t,rfl⟩:=rx;exact SeqAt.EqAt.bool_str a b t
  |_=>exact absurd (show false=true from fx) Zb
 |int a =>
  obtain⟨t',rfl⟩:=ry
  cases x with
  |non=>cases rx;exact SeqAt.EqAt.int_none a t'
  |bl b=>cases rx;exact SeqAt.EqAt.int_bool a t' b
  |int b=>obtain⟨t,rfl⟩:=rx;exact SeqAt.EqAt.int_int a t' b t
  |str b=>obtain⟨t,rfl⟩:=rx;exact SeqAt.EqAt.int_str a t' b t
  |_=>exact absurd (show false=true from fx) Zb
 |str a =>
  obtain⟨t',rfl⟩:=ry
  cases x with
  |non=>cases rx;exact SeqAt.EqAt.str_none a t'
  |bl b=>cases rx;exact SeqAt.EqAt.str_bool a t' b
  |int b=>obtain⟨t,rfl⟩:=rx;exact SeqAt.EqAt.str_int a t' b t
  |str b=>obtain⟨t,rfl⟩:=rx;exact SeqAt.EqAt.str_str a t' b t
  |_=>exact absurd (show false=true from fx) Zb
 |_=>exact absurd (show false=true from fy) Zb
def eqU(x:V)(u:Value):Bool:=match u with
 |.none=>eqV .non x
 |.bool b=>eqV (.bl b) x
 |.int i _=>eqV (.int i) x
 |.str z _=>eqV (.str z) x
 |_=>false
def eqU_of(r:RelV y u)(f:zdo y=true):eqU x u=eqV y x:=by
 cases y with
 |non=>cases r;rfl
 |bl b=>cases r;rfl
 |int i=>obtain⟨t,rfl⟩:=r;rfl
 |str z=>obtain⟨t,rfl⟩:=r;rfl
 |_=>exact absurd (show false=true from f) Zb
theorem zgx:∀{xs:List V} {us:Nh},Vals xs us→xs.all zdo=true→us.any (eqU x)=xs.any λy=>eqV y x
 |_,_,.nil,_=>rfl
 |y::xs,u::us,.cons r t,f=>by
  rw[List.all_cons,Kk]at f
  rw[Xf,Xf,eqU_of r f.1,zgx t f.2]
theorem zdu(rx:RelV x v)(fx:zdo x=true):∀{xs:List V} {us:Nh},Vals xs us→xs.all zdo=true→∀u∈us,SeqAt.EqAt A s u v (eqU x u)
 |_,_,.nil,_=>λu hu=>by cases hu
 |y::xs,u::us,.cons r t,f=>λu' hu=>by
  rw[List.all_cons,Kk]at f
  rcases Qh.mp hu with rfl | hu
  ·rw[eqU_of r f.1];exact eqAt_V r rx f.1 fx
  ·exact zdu rx fx t f.2 u' hu
def inV(x:V)(xs:List V):Bool:=xs.any λy=>eqV y x
inductive RrIn(K:Na)(neg:Bool)(x:V)(y:V)(H:Hp)(Q:VK):Prop
 |mk (p:_) (xs:_) (h0:y=.ref p) (h1:(SqL K H p xs∨SqT K H p xs)) (h2:zdo x=true) (h3:xs.all zdo=true) (h4:Q (.bl (if neg then !inV x xs else inV x xs)) H):RrIn K neg x y H Q
def rIn(K:Na)(neg:Bool):R2:=λx y H Q=>RrIn K neg x y H Q
def zgb:OpR X (compareOp .In) (rIn X.K false):=by
 intro a7 s σ H x y v u Q I rx ry h
 obtain⟨p,xs,rfl,hq,fx,fs,q⟩:=h
 cases ry
 rcases hq with hq | hq
 ·obtain ⟨a8,r,pl,hz⟩:=I.list hq
  refine SeqAt.in_listAt (eqU x) pl.isList (λw hw=>zdu rx fx r fs w (by simpa using hw)) ⟨.bl _,H,I,rfl,?_⟩
  rw[show a8.toArray.any (eqU x)=a8.any (eqU x) by simp,zgx r fs]
  exact q
 ·obtain ⟨a8,r,pl,hz⟩:=I.tuple hq
  refine SeqAt.in_tupleAt (eqU x) pl (λw hw=>zdu rx fx r fs w (by simpa using hw)) ⟨.bl _,H,I,rfl,?_⟩
  rw[show a8.toArray.any (eqU x)=a8.any (eqU x) by simp,zgx r fs]
  exact q
def zff:OpR X (compareOp .NotIn) (rIn X.K true):=by
 intro a7 s σ H x y v u Q I rx ry h
 obtain⟨p,xs,rfl,hq,fx,fs,q⟩:=h
 cases ry
 rcases hq with hq | hq
 ·obtain ⟨a8,r,pl,hz⟩:=I.list hq
  refine SeqAt.notIn_listAt (eqU x) pl.isList (λw hw=>zdu rx fx r fs w (by simpa using hw)) ⟨.bl _,H,I,rfl,?_⟩
  rw[show a8.toArray.any (eqU x)=a8.any (eqU x) by simp,zgx r fs]
  exact q
 ·obtain ⟨a8,r,pl,hz⟩:=I.tuple hq
  refine SeqAt.notIn_tupleAt (eqU x) pl (λw hw=>zdu rx fx r fs w (by simpa using hw)) ⟨.bl _,H,I,rfl,?_⟩
  rw[show a8.toArray.any (eqU x)=a8.any (eqU x) by simp,zgx r fs]
  exact q
def zan:zb3 X (.builtin "len") (λxs H Q=>Ex2 λp ys=>Aj3 (xs=[.ref p]) ((SqL X.K H p ys)∨( SqT X.K H p ys)) (Q (.int ys.length) H)):=by
 intro a7 s σ H xs us Q I r h
 obtain⟨p,ys,rfl,hq,q⟩:=h
 obtain⟨u,rfl,rx⟩:=vals1 r
 cases rx
 have hn:=zeo
 rcases hq with hq | hq
 ·obtain ⟨a8,r',pl,hz⟩:=I.list hq
  have ad:=r'.length
  exact Calls.call_len_list pl.isList (by simp only[Qn]<;>lia) ⟨.int ys.length,H,I.tok _,⟨s.toks+1,by rw[Qn,ad]⟩,q⟩
 ·obtain ⟨a8,r',pl,hz⟩:=I.tuple hq
  have ad:=r'.length
  exact len_tuple pl (by simp only[Qn]<;>lia) ⟨.int ys.length,H,I.tok _,⟨s.toks+1,by rw[Qn,ad]⟩,q⟩
def zcb:zb3 X (.builtin "len") (λxs H Q=>Ex1 λz=>Aj3 (xs=[.str z]) (z.length≤sizeLine) (Q (.int z.length) H)):=by
 intro a7 s σ H xs us Q I r h
 obtain⟨z,rfl,hz,q⟩:=h
 obtain⟨u,rfl,t,rfl⟩:=vals1 r
 have hn:=zeo
 exact len_str (by lia) ⟨.int z.length,H,I.tok _,⟨_,rfl⟩,q⟩
def zdp:zb3 X (.type "list") (λxs H Q=>Ex2 λp ys=>Aj3 (xs=[.ref p]) ((SqL X.K H p ys)∨( SqT X.K H p ys)) (∀l,H l=none→Q (.ref l) (upd H l (.lst ys)))):=by
 intro a7 s σ H xs us Q I r h
 obtain⟨p,ys,rfl,hq,q⟩:=h
 obtain⟨u,rfl,rx⟩:=vals1 r
 cases rx
 have fin:∀(a8:Nh),Vals ys a8→ys.length≤sizeLine→∀(h':Nm) (c':Nat),(∀b o',s.heap.get? b=some o'→h'.get? b=some o') →
   h'.get? s.heap.objs.size=some {cls:=.type "list",dict:=none,data:=.seq a8.toArray c',slots:=#[]}→EP X a7 σ Q (.ref s.heap.objs.size) {s with heap:=h'}:=λa8 r' hz h' c' kp e =>
  ⟨.ref s.heap.objs.size,_,I.laid (t':=s.toks) kp (Qd _) (show zbo X.prog X.w _ h' _ (.lst ys) from⟨hz,a8,c',r',e⟩),rfl,q _ (I.hok.fresh (Qd _))⟩
 rcases hq with hq | hq
 ·obtain ⟨a8,r',pl,hz⟩:=I.list hq
  have ad:=r'.length
  obtain⟨o,ho,hc,n,hd⟩:=pl.isList
  exact call_list_seq p (.inl rfl) ho hc hd (λh' c' kp e=>fin a8 r' hz h' c' kp e) (by simp only[Qn]<;>exact zd3 ‹_› ‹_›)
 ·obtain ⟨a8,r',pl,hz⟩:=I.tuple hq
  have ad:=r'.length
  obtain⟨o,ho,hc,n,hd⟩:=pl
  exact call_list_seq p (.inr rfl) ho hc hd (λh' c' kp e=>fin a8 r' hz h' c' kp e) (by simp only[Qn]<;>exact zd3 ‹_› ‹_›)
def zim:zb3 X (.type "tuple") (λxs H Q=>Ex2 λp ys=>Aj2 (xs=[.ref p]) ((Aj2 (SqL X.K H p ys) (∀l,H l=none→Q (.ref l) (upd H l (.tup ys))))∨(Aj2 (SqT X.K H p ys) (Q (.ref p) H)))):=by
 intro a7 s σ H xs us Q I r h
 obtain⟨p,ys,rfl,h⟩:=h
 obtain⟨u,rfl,rx⟩:=vals1 r
 cases rx
 rcases h with⟨hq,q⟩ | ⟨hq,q⟩
 ·obtain ⟨a8,r',pl,hz⟩:=I.list hq
  have ad:=r'.length
  refine call_tuple_list pl.isList (λh' kp=>?_) (by simp only[Qn]<;>exact zd3 ‹_› ‹_›)
  have I1:Inv X a7 σ H {s with heap:=h'}:=I.kept (t':=s.toks) kp
  have I2:Inv X a7 σ (upd H h'.objs.size (.tup ys)) {s with heap:=h'.push {cls:=.type "tuple",data:=.seq a8.toArray}} :=
   I1.laid (t':=s.toks) (λb o e=>Qi _ e) (Qd _) (show zbo X.prog X.w _ _ _ (.tup ys) from⟨hz,a8,r',IsTup.new _ _⟩)
  exact⟨.ref h'.objs.size,_,I2,rfl,q _ (I1.hok.fresh (Qd _))⟩
 ·obtain ⟨a8,r',pl,hz⟩:=I.tuple hq
  exact call_tuple_same pl ⟨.ref p,H,I,rfl,q⟩
def tyV(K:Na)(T:String)(x:V)(H:Hp):Prop:=match x with
 |.str _=>T = "str"
 |.int _=>T = "int"
 | .ref p=>(T = "list" ∧ ∃ xs,SqL K H p xs)∨(T = "tuple" ∧ ∃ o,K.lookup p=some o∧o.cls=.type "tuple" ∧ o.dict=none) ∨
   (T = "dict" ∧ ((∃kvs,H p=some (.dK kvs))∨∃kvs,H p=some (.dT kvs)))∨(T = "set" ∧ ∃S n,H p=some (.set S n))
 |_=>False
def tyV_is(I:Inv X a7 σ H s)(r:RelV x v)(ty:tyV X.K T x H) :
  s.TypeIs v T∧∀a,v=.ref a→∃ob,s.heap.get? a=some ob∧ob.dict=none:=by
 cases x with
 |str z =>
  obtain⟨t,rfl⟩:=r
  cases(show T = "str" from ty)
  exact⟨typeIs_str s z t,λ_ e=>nomatch e⟩
 |int i =>
  obtain⟨t,rfl⟩:=r
  cases(show T = "int" from ty)
  exact⟨typeIs_int s i t,λ_ e=>nomatch e⟩
 | ref p =>
  cases r
  rcases ty with⟨rfl,xs,hq⟩ | ⟨rfl,o,hk,hc,hd⟩ | ⟨rfl,hk⟩ | ⟨rfl,S,n,hk⟩
  ·obtain ⟨a8,_,pl,_⟩:=I.list hq
   refine⟨pl.isList.typeIs,λa e=>?_⟩
   cases e
   obtain⟨o,n,e,c,hd,_⟩:=pl
   exact⟨o,e,hd⟩
  ·refine ⟨⟨o,I.kIn p o hk,hc⟩,fun a e=>?_⟩
   cases e
   exact⟨o,I.kIn _ o hk,hd⟩
  ·have z:∃ o,s.heap.get? p=some o∧o.ExactDict:=by
    rcases hk with⟨kvs,hk⟩ | ⟨kvs,hk⟩
    ·obtain ⟨_,_,_,_,o,_,_,e,ex,_⟩:=I.hok p _ hk
     exact⟨o,e,ex⟩
    ·obtain ⟨_,_,_,_,o,_,_,e,ex,_⟩:=I.hok p _ hk
     exact⟨o,e,ex⟩
   obtain⟨o,e,ex⟩:=z
   refine⟨⟨o,e,ex.1⟩,λa e2=>?_⟩
   cases e2
   exact⟨o,e,ex.2.1⟩
  ·obtain ⟨o,_,_,_,e,ex,_⟩:=I.hok p _ hk
   refine⟨⟨o,e,ex.1⟩,λa e2=>?_⟩
   cases e2
   exact⟨o,e,ex.2.1⟩
 |_=>exact False.elim ty
def tBM0(K:Na)(T:String)(r:V→List V→Hp→VK→Prop)(to:TE):TE:=λ σ H Q=>to σ H λx H1=>tyV K T x H1∧r x [] H1 Q
def tBM(K:Na)(T:String)(r:V→List V→Hp→VK→Prop)(to:TE)(t:TA):TE:=λ σ H Q=>to σ H λx H1=>tyV K T x H1∧t σ H1 λxs H2=>r x xs H2 Q
variable{o e:Expr}{es:No}{to:TE}{t:TA}{name:Str}{apos cpos:Pos}{T id:String}{r:V→List V→Hp→VK→Prop}
def pe_bm0(pa:PlainAttrs T)(slot:Slot T name id)(q5:typeOf (.builtin id)=pure (.type "method_descriptor"))(hm:MtR X id r)(ho:PE X o to)(fB:attributeBase o name X.env (eval o X.env)=eval o X.env:=by rfl)(eG:(apos.endLine==cpos.line)=true:=by rfl):PE X (.Call (.Attribute o name apos) [] [] cpos) (tBM0 X.K T r to):=by
 intro a7 s σ H Q I h
 refine wpAny_Call_method0_late fB eG (thn (ho a7 s σ H _ I h) λv s1 ⟨x,H1,I1,r1,ty,q1⟩=>?_)
 obtain⟨h1,h2⟩:=tyV_is I1 r1 ty
 exact⟨T,id,pa,slot,q5,h1,h2,Calls.callWith_builtin rfl (PySem.evalArgs_none (hm a7 s1 σ H1 x [] v [] Q I1 r1 .nil q1))⟩
def zcj(pa:PlainAttrs T)(slot:Slot T name id)(q5:typeOf (.builtin id)=pure (.type "method_descriptor"))(hm:MtR X id r)(ho:PE X o to)(ha:PA X (e::es) t)(fB:attributeBase o name X.env (eval o X.env)=eval o X.env:=by rfl)(rP:((backTo cpos (starEach (e::es) X.env)).all (fun x=>!x.1) && (backToKw cpos (keywordEach [] X.env)).all (fun x=>x.1.isSome)
   && decide ((e::es).length+([]:List Keyword).length+(if([]:List Keyword).isEmpty then 0 else 1)<30))=true:=by rfl)(eG:(apos.endLine==cpos.line)=true:=by rfl)(hs:starEach (e::es) X.env=(false,eval e X.env)::starEach es X.env:=by rfl)(iL:(backTo cpos (starEach es X.env)).any (·.1)=false:=by rfl) :
  PE X (.Call (.Attribute o name apos) (e::es) [] cpos) (tBM X.K T r to t):=by
 intro a7 s σ H Q I h
 refine wpAny_Call_method_late fB rP eG rfl (thn (ho a7 s σ H _ I h) λv s1 ⟨x,H1,I1,r1,ty,q1⟩=>?_)
 obtain⟨h1,h2⟩:=tyV_is I1 r1 ty
 refine⟨T,id,pa,slot,q5,h1,h2,?_⟩
 have hA:=ha cpos a7 s1 σ H1 _ I1 q1
 rw[hs]at hA ⊢
 refine Calls.callWith_builtin (by show(false||(backTo cpos (starEach es X.env)).any (·.1))=false;rw[iL]<;>rfl) (Calls.evalArgs_plain ?_)
 exact thn hA λus s2 ⟨vs,H2,I2,r2,q2⟩=>hm a7 s2 σ H2 x vs v us Q I2 r1 r2 q2
end
end L2
namespace L2
open PySem PySem.Spec PyProof.Rows
def MtM(X:Cx)(id:String)(r:V→List V→Hp→VK→Prop):Prop :=
 ∀(a7:Nd) (s:Ng) (σ:St) (H:Hp) (x:V) (xs:List V) (v:Value) (us:Nh) (Q:VK),Inv X a7 σ H s→RelV x v→Vals xs us→r x xs H Q →
  wpAny (model X.prog X.w) X.A (call (.builtin id) (v::us)) (EP X a7 σ Q) X.xe s
theorem Vals.one:∀{x:V} {us:Nh},Vals [x] us→∃u,us=[u]∧RelV x u
 |_,_,.cons r .nil=>⟨_,rfl,r⟩
theorem Vals.two:∀{x y:V} {us:Nh},Vals [x,y] us→∃u v,us=[u,v]∧RelV x u∧RelV y v
 |_,_,_,.cons r (.cons q .nil)=>⟨_,_,rfl,r,q⟩
theorem Vals.zero:∀{us:Nh},Vals [] us→us=[]
 |_,.nil=>rfl
def Vals.dropLast{xs:List V}{us:Nh}(h:Vals xs us):Vals xs.dropLast us.dropLast:=by
 induction h with
 |nil=>exact .nil
 |cons r t ih =>
  cases t with
  |nil=>exact .nil
  |cons q t'=>exact .cons r ih
def Vals.reverse{xs:List V}{us:Nh}(h:Vals xs us):Vals xs.reverse us.reverse:=by
 induction h with
 |nil=>exact .nil
 |cons r t ih=>rw[Kz,Kz];exact Vals.append ih (.cons r .nil)
def erase_last{α:Type}(l:List α):l.eraseIdx (l.length - 1)=l.dropLast:=by
 induction l with
 |nil=>rfl
 | cons a r ih =>
  cases r with
  |nil=>rfl
  | cons b r =>
   have e:(a::b::r).length-1=((b::r).length-1)+1:=by
    have h1:(a::b::r).length=r.length+2:=rfl
    have h2:(b::r).length=r.length+1:=rfl
    assumption
   rw[e,List.eraseIdx_cons_succ,ih]
   all_goals rfl
section
variable{X:Cx}{a7:Nd}{σ:St}{H:Hp}{s:Ng}{l b:Nc}{xs ys zs:List V}
def Inv.lset{a8 its':Nh}{n:Nat}{f:Array Value→Array Value}{t':Nat}(I:Inv X a7 σ H s)(hH:H l=some (.lst xs))(e:s.heap.get? l=some {cls:=.type "list",data:=.seq a8.toArray n})(hf:f a8.toArray=its'.toArray)(hv:Vals ys its')(hz:ys.length≤sizeLine) :
  Inv X a7 σ (upd H l (.lst ys)) {s with heap:=s.heap.update l (Obj.mapSeq f),toks:=t'}:=by
 have q:=PySem.IsL.update e f
 rw[hf]at q
 refine I.write (x:=l) (e:=l) (by rw[hH];exact trivial) (.inl rfl) (λb' u hb hu=>(Uv s.heap (Obj.mapSeq f) (Zn hb)).trans hu) ⟨_,q⟩ ?_
 exact⟨hz,its',_,hv,q⟩
def Inv.lnew(I:Inv X a7 σ H s)(hv:Vals ys a8)(hz:ys.length≤sizeLine) :
  Inv X a7 σ (upd H s.heap.objs.size (.lst ys)) {s with heap:=s.heap.push {cls:=.type "list",data:=.seq a8.toArray},toks:=t'} :=
 I.laid (λ_ _ q=>Qi _ q) (Qd _) ⟨hz,a8,0,hv,Za _ rfl⟩
def Inv.fresh(I:Inv X a7 σ H s):H s.heap.objs.size=none:=I.hok.fresh (Qd _)
def Inv.lstM(I:Inv X a7 σ H s)(hH:H l=some (.lst xs)):xs.length≤sizeLine∧∃(a8:Nh) (n:Nat),Vals xs a8∧xs.length=a8.length∧s.heap.get? l=some {cls:=.type "list",data:=.seq a8.toArray n}:=by
 obtain⟨z,a8,n,r,e⟩:=I.hok l _ hH
 exact⟨z,a8,n,r,r.length,e⟩
def notLongL{n:Nat}(h:n≤sizeLine):Builtin.List.listTooLong n=false:=by
 unfold Builtin.List.listTooLong
 exact decide_eq_false (by lia)
end
section
variable{X:Cx}
inductive RrAppend(x:V)(vs:List V)(H:Hp)(Q:VK):Prop
 |mk (l:_) (xs:_) (y:_) (h0:x=.ref l) (h1:vs=[y]) (h2:H l=some (.lst xs)) (h3:xs.length<sizeLine) (h4:Q .non (upd H l (.lst (xs++[y])))):RrAppend  x vs H Q
def rAppend:V→List V→Hp→VK→Prop:=λx vs H Q=>RrAppend  x vs H Q
def zbc:MtM X "list.append" rAppend:=by
 intro a7 s σ H x vs v us Q I rx rv h
 obtain⟨l,xs,y,rfl,rfl,hH,hz,q⟩:=h
 cases rx
 obtain⟨u,rfl,ru⟩:=rv.one
 obtain⟨z,a8,n,r,hl,e⟩:=I.lstM hH
 refine call_meets F.slot_list_append ⟨_,e,rfl⟩ F.entry_list_append (F.args_list_append_2 _ _) (PySem.list_append l a8.toArray n u (by rw[Qn];exact zd3 ‹_› ‹_›)) ⟨e,?_⟩
 refine⟨.non,_,I.lset (its':=a8++[u]) hH e (by simp) (r.append (.cons ru .nil)) ?_,rfl,q⟩
 rw[Qm,Ki]
 assumption
def rExtend:V→List V→Hp→VK→Prop:=λx vs H Q=>∃l b xs zs,x=.ref l∧vs=[.ref b]∧H l=some (.lst xs)∧H b=some (.lst zs)∧xs.length+zs.length≤sizeLine∧Q .non (upd H l (.lst (xs++zs)))
def mt_extend:MtM X "list.extend" rExtend:=by
 intro a7 s σ H x vs v us Q I rx rv h
 obtain⟨l,b,xs,zs,rfl,rfl,hH,hB,hz,q⟩:=h
 cases rx
 obtain⟨u,rfl,ru⟩:=rv.one
 cases ru
 obtain⟨z,a8,n,r,hl,e⟩:=I.lstM hH
 obtain⟨z2,ay,n2,r2,aJ,e2⟩:=I.lstM hB
 have hsz:a8.toArray.size+ay.toArray.size≤sizeLine:=by rw[Qn,Qn];lia
 have lP:¬(!a8.toArray.isEmpty&&Builtin.List.listTooLong (a8.toArray.size+ay.toArray.size))=true:=by
  rw[notLongL hsz,Bool.and_false]
  exact Zb
 refine call_meets F.slot_list_extend ⟨_,e,rfl⟩ F.entry_list_extend (F.args_list_extend_2 _ _)
  (AutoSeq1.list_extend_list_list_0 l a8.toArray n b ay.toArray n2 lP (by rw[Qn];lia) (by exact zg0 ‹_›)) ⟨e,e2,?_⟩
 refine⟨.non,_,I.lset (its':=a8++ay) hH e (by simp) (r.append r2) ?_,rfl,q⟩
 rw[Qm]
 assumption
inductive RrPop(x:V)(vs:List V)(H:Hp)(Q:VK):Prop
 |mk (l:_) (xs:_) (y:_) (h0:x=.ref l) (h1:vs=[]) (h2:H l=some (.lst xs)) (h3:xs[xs.length-1]?=some y) (h4:Q y (upd H l (.lst xs.dropLast))):RrPop  x vs H Q
def rPop:V→List V→Hp→VK→Prop:=λx vs H Q=>RrPop  x vs H Q
def mt_pop:MtM X "list.pop" rPop:=by
 intro a7 s σ H x vs v us Q I rx rv h
 obtain⟨l,xs,y,rfl,rfl,hH,hy,q⟩:=h
 cases rx
 have pW:=rv.zero
 subst pW
 obtain⟨z,a8,n,r,hl,e⟩:=I.lstM hH
 obtain⟨u,hu,ru⟩:=r.get hy
 have bq:a8.toArray[a8.toArray.size-1]?=some u:=by
  show a8.toArray[a8.length-1]?=some u
  rw[←Uu,←hl]
  exact hu
 refine call_meets F.slot_list_pop ⟨_,e,rfl⟩ F.entry_list_pop (F.args_list_pop_1 _) (MeetsSeq.list_pop_last l a8.toArray n u bq (by rw[Qn];exact zd3 ‹_› ‹_›)) ⟨e,?_⟩
 refine⟨y,_,I.lset (its':=a8.dropLast) hH e ?_ r.dropLast ?_,ru,q⟩
 ·show a8.toArray.eraseIdxIfInBounds (a8.toArray.size - 1)=a8.dropLast.toArray
  rw[Qn,List.eraseIdxIfInBounds_toArray,erase_last]
 ·rw [List.length_dropLast]
  lia
inductive RrCat(x:V)(y:V)(H:Hp)(Q:VK):Prop
 |mk (l:_) (b:_) (xs:_) (zs:_) (h0:x=.ref l) (h1:y=.ref b) (h2:H l=some (.lst xs)) (h3:H b=some (.lst zs)) (h4:xs.length+zs.length≤sizeLine) (h5:∀p,H p=none→Q (.ref p) (upd H p (.lst (xs++zs)))):RrCat  x y H Q
def rCat:R2:=λx y H Q=>RrCat  x y H Q
def zek:OpR X (binaryOp .Add) rCat:=by
 intro a7 s σ H x y v u Q I rx ry h
 obtain⟨l,b,xs,zs,rfl,rfl,hH,hB,hz,q⟩:=h
 cases rx
 cases ry
 obtain⟨z,a8,n,r,hl,e⟩:=I.lstM hH
 obtain⟨z2,ay,n2,r2,aJ,e2⟩:=I.lstM hB
 refine PySem.P.add_list e e2 ?_ (by rw[Qn,Qn];lia)
 have ea:a8.toArray++ay.toArray=(a8++ay).toArray:=by simp
 rw[ea]
 exact⟨.ref _,_,I.lnew (t':=s.toks) (r.append r2) (by rw[Qm];assumption),rfl,q _ I.fresh⟩
end
section
variable{prog:Ni}{w:Nl}{A:Nn}{E:Nb}{s:Ng}
end
section
variable{X:Cx}
end
end L2
namespace Att
open PySem PySem.W PySem.Calls PyProof.Rows
def zgq:∀(ns:List Int) (vs:Nh),WellAll P h vs (ns.map WData.int)→IntsAre vs ns:=by
 intro ns
 induction ns with
 |nil =>
  intro vs w
  rw[Xp]at w
  cases w
  exact .nil
 | cons n ns ih =>
  intro vs w
  rw[Qk]at w
  cases w with
  |cons a b =>
   cases a
   exact .cons _ _ (ih _ b)
def script_of{l:OpenLaw}{n:Nat}(hn:l.most=some n){P:Params}{h:Nm}{args:List WData}{i8:Nh}(gj:l.row.toRowW.claim.pre args=true)(fI:WellAll P h i8 args) :
  ∃a vs ns,i8=[Value.ref a]∧args=[WData.list (ns.map WData.int)]∧h.get? a=some {cls:=.type "list",data:=.seq vs.toArray}∧IntsAre vs ns∧ns.length≤n:=by
 have hsh:WShape.hasAll [] args [.list .int]=true:=(pre_splitW gj).1
 have hc:l.pre.holds [] {args:=args}=true:=(pre_splitW gj).2
 obtain⟨d,r,rfl,h1,h2⟩:=hasAllW_cons hsh
 obtain rfl:=hasAllW_nil h2
 obtain⟨xs,rfl,h3⟩:=hasW_list h1
 obtain⟨ns,rfl⟩:=items_int h3
 have ad:ns.length≤n:=by
  unfold OpenLaw.pre at hc
  have h4:(WTm.not (.lt (.lit (.int (n:Int))) (.len (.arg 0)))).holds [] {args:=[.list (ns.map .int)]}=true:=by
   have h4:=(holds_andW hc).1
   rw[hn]at h4
   exact h4
  have h5:=condW_of h4 (w_not (w_lt w_lit (w_len_list (w_arg rfl))))
  rw[Qa]at h5
  refine Nat.le_of_not_lt λq=>?_
  have q':(n:Int)<((ns.length:Nat):Int):=by exact zar9 ‹_›
  first
   |(rw[decide_eq_true q']at h5;exact absurd h5 (by decide))
   |(simp at h5;lia)
 cases fI with
 |cons w1 w2 =>
  cases w2
  cases w1 with
  |list ho cC=>exact⟨_,_,ns,rfl,rfl,ho,zgq ns _ cC,ad⟩
def post_true(l:OpenLaw)(args:List WData):l.row.toRowW.claim.post args (.bool true) args=true :=
 postW_of (r:=l.row.toRowW) (X:=(true==true))
  (show WShape.has [] (.bool true) .bool=true by first | rfl | decide | simp[WShape.has,WShape.arms,WShape.armsAll])
  (show(WTm.eq .res (.lit (.bool true))).value [] {args:=args,res:=some (.bool true),after:=args}=some (.bool (true==true)) from w_eq_bool (w_res rfl) w_lit) rfl
def attach_call{l:OpenLaw}{n:Nat}{q:Ni}{loose:Nj}{XP:(Str→Option Value)→Heap→Prop}{YP:World→Heap→Prop}{d:DefRec}(hn:l.most=some n)(mw:d.params.defaults=[])(call:∀ (w:Nl) (s₀ s₁:Ng) (mg mb:Nf) (fa:Nc) (o:Obj) (pm cd doc:Value) (a:Nc) (vs:Nh) (ns:List Int),
   Ground q loose [] XP w s₀ mg mb s₁.heap→YP w s₁.heap →
   s₁.heap.get? fa=some o→o.data=.func (docDef d.name d.params d.body d.scope pm cd doc)→s₁.heap.CodeRec cd d.name→mg d.name=some (.ref fa) →
   s₁.heap.get? a=some {cls:=.type "list",data:=.seq vs.toArray}→IntsAre vs ns→ns.length≤n→s₁.gens=#[] →
   codeAny (model l.prog w) callerA (.call (.ref fa) ⟨[.ref a],[]⟩) (λr s'=>r=.ok (.ret (.bool true))∧OldK s₁.heap s'.heap∧s'.os=s₁.os∧AllBare s'.gens) s₁) :
  WalkO q loose XP YP l.row.toRowW d [] (λf vs=>PySem.call f vs):=by
 intro w s₀ s₁ mg mb G Y fa o pm cd doc dV kV ho hd aO hD qZ hg args i8 as gj hlay hrd fI hlo
 obtain rfl:dV=.none:=Dflts.none hD mw
 obtain rfl:kV=.none:=Dflts.noKw hD
 obtain⟨a,vs,ns,rfl,rfl,iP,eS,ad⟩:=script_of hn gj fI
 refine enter_call (codeAny_mono (call w s₀ s₁ mg mb fa o pm cd doc a vs ns G Y ho (fd_plain hd) aO qZ iP eS ad hg) λr s' hq=>?_)
 obtain⟨rfl,h2,h3,h4⟩:=hq
 exact⟨.inl ⟨.bool true,.bool true,[],rfl,λ_=>rfl,.bool true,post_true l _,λ_=>⟨List.Pairwise.nil,λ_ hm=>(nomatch hm)⟩⟩,h2,h3,h4⟩
section
variable{prog:Ni}{w:Nl}{A:Nn}{E:Nb}{s:Ng}{K:Frag}
end
end Att
namespace L2
open PySem PySem.Spec PyProof.Rows
theorem vals_ints:∀{vs:Nh} {ns:List Int},IntsAre vs ns→Vals (ns.map V.int) vs
 |_,_,.nil=>.nil
 |_,_,.cons n t h=>.cons ⟨t,rfl⟩ (vals_ints h)
def Only(H:Hp):Prop:=∀b,H b=none∨∃o xs,H b=some (.frz o (.lst xs))
def law_call{P:Ni}{w:Nl}{K:Na}{mg mb:Nf}{CX:CXT}{k:Nat}{fa a:Nc}{fd:Nr}{x:Str}{sp:Sp}{s₁:Ng}{vs:Nh}{ns:List Int}(KX:K.In s₁.heap)(oi:s₁.heap.Ns mainGlobals mg)(hb:s₁.heap.Ns builtinsNs mb)(oG:∀x:Str,x ≠ "__name__" → mb x=bootBuiltins x)(rg:s₁.heap.NoLimit)(hg:s₁.gens=#[])(ha:s₁.heap.get? a=some {cls:=.type "list",data:=.seq vs.toArray})(hi:IntsAre vs ns)(hl:ns.length≤sizeLine)(hr:Room k callerA)(F:∀base:Heap,K.In base→base.Ns mainGlobals mg→FnOk P w K mg base CX k fa fd [x] sp)(mQ:∀(s:Shared) (u:Value),BindsTo s fd ⟨[u],[]⟩ [(x,u)])(br:∀H:Hp,Only H→SqL K H a (ns.map V.int)→sp [.ref a] H (λv _=>v=.bl true) λ_ _ _=>False)(sT:∀H e s',CX [] H s₁ (λ_ _ _=>False) e s'→False) :
  codeAny (model P w) callerA (.call (.ref fa) ⟨[.ref a],[]⟩) (λr s'=>r=.ok (.ret (.bool true))∧OldK s₁.heap s'.heap∧s'.os=s₁.os∧AllBare s'.gens) s₁:=by
 have rv:=vals_ints hi
 have lenV:=hi.length
 have core:∀ H:Hp,Only H→SqL K H a (ns.map V.int)→HOk P w H s₁.heap→(∀ b,H b≠none→b=a)→(H a≠none→K.lookup a=none) →
   codeAny (model P w) callerA (.call (.ref fa) ⟨[.ref a],[]⟩) (λr s'=>r=.ok (.ret (.bool true))∧OldK s₁.heap s'.heap∧s'.os=s₁.os∧AllBare s'.gens) s₁:=by
  intro H hO hS hok hA hK
  have base_of:∀{b:Nc} {o:Obj},s₁.heap.get? b=some o→H b=none→(hidT s₁.heap H).get? b=some o:=λe n=>hidT_get e n
  have noA:∀{b:Nc} {o:Obj} {es:Array DictEntry} {ep:Nat},s₁.heap.get? b=some o→o.data=.dict es ep→H b=none:=λ{b o es ep} e d=>by
   cases q:H b with
   |none=>rfl
   |some u =>
    have e':b=a:=hA b (by rw[q];simp)
    subst e'
    rw[ha]at e;cases e
    have d':Data.seq vs.toArray _=Data.dict es ep:=d
    cases d'
  have nsK:∀{b:Nc} {m:Nf},s₁.heap.Ns b m→(hidT s₁.heap H).Ns b m:=λ{b m} ⟨o,es,ep,e,d,r⟩=>⟨o,es,ep,base_of e (noA e d),d,r⟩
  have hKb:K.In (hidT s₁.heap H):=λb o e=>base_of (KX b o e) (by
   cases q:H b with
   |none=>rfl
   |some u =>
    have e':b=a:=hA b (by rw[q];simp)
    subst e'
    rw[hK (by rw[q];simp)]at e;cases e)
  have hM:Mod K mg (hidT s₁.heap H):=⟨hKb,nsK oi,⟨mb,nsK hb,oG⟩,let⟨mc,h1,h2⟩:=rg;⟨mc,nsK h1,h2⟩⟩
  have e0:Env0 P w K mg (hidT s₁.heap H) callerA [] s₁ H:=⟨rfl,hM,λb o e=>of_hidT e,Nat.le_of_eq (hidT_size _ _),trivial,λb hb=>absurd (show b∈([]:List Addr) from hb) (by simp),hok,.of_eq hg⟩
  refine codeAny_mono ((F _ hKb (nsK oi)).run callerA [] s₁ H ⟨[.ref a],[]⟩ [.ref a] [.ref a] _ _ hr e0 (mQ s₁ (.ref a)) (.cons rfl .nil) (br H hO hS)) λr s' h=>?_
  cases r with
  |error e=>exact(sT H e s' h).elim
  | ok fl =>
   cases fl with
   |next=>exact False.elim h
   |brk=>exact False.elim h
   |cont=>exact False.elim h
   | ret u =>
    obtain⟨v,H',os,bare,un,qK,r',q⟩:=h
    have q':v=.bl true:=q
    subst q'
    obtain rfl:u=Value.bool true:=r'
    refine⟨rfl,OldK.of_keep λb o e=>?_,os,bare⟩
    cases q:H b with
    |none=>exact un.keep b o e q (by intro z;exact absurd (show b∈([]:List Addr) from z) (by simp)) (by simp)
    | some u =>
     rcases hO b with z | ⟨ob,xs,z⟩
     ·rw[q]at z;cases z
     ·have z2:=un.frzs b ob _ z
      obtain⟨e1,_⟩:=hok b _ z
      obtain⟨e2,_⟩:=qK b _ z2
      rw[e]at e1;cases e1
      exact e2
 cases hk:K.lookup a with
 |some o =>
  have e:=KX a o hk
  rw[ha]at e
  cases e
  refine core (λ_=>none) (λ_=>.inl rfl) (.inr ⟨_,vs.toArray,_,hk,rfl,rfl,rfl,by rw[Qn,lenV];exact hl,by simpa using rv⟩) (λb u z=>by have z':(none:Option HO)=some u:=z;cases z') (λb z=>absurd rfl z) λz=>absurd rfl z
 | none =>
  refine core (λb=>if b=a then some (.frz {cls:=.type "list",data:=.seq vs.toArray} (.lst (ns.map V.int))) else none) (λb=>?_) (.inl (.inr ⟨{cls:=.type "list",data:=.seq vs.toArray},if_pos rfl⟩)) (λb u z=>?_) (λb z=>?_) λ_=>hk
  ·by_cases hb:b=a
   ·exact .inr ⟨_,_,if_pos hb⟩
   ·exact .inl (if_neg hb)
  ·by_cases hb:b=a
   ·have z':=(if_pos hb).symm.trans z
    cases z'
    subst hb
    exact⟨ha,by rw[Qa];exact hl,vs,_,rv,ha⟩
   ·have z':=(if_neg hb).symm.trans z
    cases z'
  ·by_cases hb:b=a
   ·exact hb
   ·exact absurd (if_neg hb) z
end L2
namespace L2
open PySem PySem.Spec PyProof.Rows
def walk_of{l:PySem.W.OpenLaw}{n k:Nat}{q:Ni}{loose:Nj}{XP:(Str→Option Value)→Heap→Prop}{YP:World→Heap→Prop}{d:DefRec}{K:Params→PySem.W.Frag}{CX:World→CXT}{sp:World→Sp}{x:Str}(hn:l.most=some n)(bg:n≤sizeLine)(mw:d.params.defaults=[])(hr:Room k callerA)(hY:∀(w:World) (h:Heap),YP w h→(K w.params).In h)(F:∀ (w:Nl) (mg:Nf) (fa:Nc) (h:Nm),(K w.params).In h→h.Ns mainGlobals mg→mg d.name=some (.ref fa) →
   ∃fd:FuncData,(∀(s:Ng) (u:Value),BindsTo s fd ⟨[u],[]⟩ [(x,u)]) ∧
    ∀base:Heap,(K w.params).In base→base.Ns mainGlobals mg→FnOk l.prog w (K w.params) mg base (CX w) k fa fd [x] (sp w))(br:∀(w:Nl) (H:Hp) (a:Nc) (ns:List Int),ns.length≤n→Only H→SqL (K w.params) H a (ns.map V.int)→sp w [.ref a] H (λv _=>v=.bl true) λ_ _ _=>False)(sT:∀(w:World) (H:Hp) (s:Shared) (e:Value) (s':Shared),CX w [] H s (λ_ _ _=>False) e s'→False) :
  PySem.W.WalkO q loose XP YP l.row.toRowW d [] (λf vs=>PySem.call f vs):=by
 refine Att.attach_call hn mw λw s₀ s₁ mg mb fa o pm cd doc a vs ns G Y ho hd aO qZ iP eS ad hg=>?_
 have KX:=hY w _ Y
 obtain⟨fd,hb,hF⟩:=F w mg fa _ KX G.T.g qZ
 exact law_call KX G.T.g G.T.b G.T.builtins G.T.nolimit hg iP eS (Zi ad bg) hr hF hb (λH hO hS=>br w H a ns ad hO hS) λH e s'=>sT w H s₁ e s'
end L2
namespace L2
open PySem PySem.Spec PyProof.Rows
def inClass(s:Stmt)(j:Nat):Stmt:=match s with
 |.ClassDef _ _ _ body _ _ _ _ _ _ _=>body.getD j (.Pass ⟨0,0,0,0⟩)
 |_=>.Pass ⟨0,0,0,0⟩
def zdb(s:Stmt):Arguments:=match s with
 |.FunctionDef _ a _ _ _ _ _ _ _ _=>a
 |_=>{posonlyargs:=[],args:=[],vararg:=none,kwonlyargs:=[],kw_defaults:=[],kwarg:=none,defaults:=[]}
def zb7(s:Stmt):List Stmt:=match s with
 |.FunctionDef _ _ b _ _ _ _ _ _ _=>b
 |_=>[]
def zag(s:Stmt):Scope:=match s with
 |.FunctionDef _ _ _ _ _ _ sc _ _ _=>sc
 |_=>{kind:=.function,names:=[],isGenerator:=false,isCoroutine:=false}
abbrev CX0:CXT:=λ_ _ _ _ _ _=>False
abbrev E0:XK:=λ_ _ _=>False
def za0:zgz CX0 X E0:=λ_ _ _ _ _ _ _ h=>h.elim
structure Fun(K:Na)(x qual:Str)(st:Stmt)(f:Nc)(fd:Nr):Prop where
 ex:∃(oc:Value) (od:Option Addr) (kV doc pm:Value) (an:Option Addr) (cdv ct:Value) (osl:Array (Option Value)),
  fd=PySem.W.fnOf x qual (zdb st) (zb7 st) (zag st) .none kV doc pm an cdv ct∧K.lookup f=some ⟨oc,od,.func fd,osl⟩∧PySem.W.codeIn K cdv qual=true
 kp:PySem.W.keepIn K (.ref f)=true
section
variable{P:Ni}{w:Nl}{K:Na}{mg:Nf}{base:Nm}
def Fun.ok{x qual:Str}{st:Stmt}{f:Nc}{fd:Nr}{N ps:Nj}{k:Nat}{sp:Sp}(F:Fun K x qual st f fd)(S:zap N ps (zag st))(len:∀vs H Q E,sp vs H Q E→vs.length=ps.length)(bo:∀ (cdv:Value) (A:Nn) (outer:List Env) (s:Ng) (H:Hp) (vs:List V) (Q:VK) (E:XK),Room k (A.deeper (envOfC qual (zag st) s.heap.objs.size f cdv))→sp vs H Q E →
   ∃t,PSs (cxOf CX0 P w K mg base N qual (zag st) f cdv A outer s H E).nox (zb7 st) t∧t {nx:=λ_ H'=>Q .non H',rt:=Q} (start N vs) H):FnOk P w K mg base CX0 (k+1) f fd ps sp:=by
 obtain⟨oc,od,kV,doc,pm,an,cdv,ct,osl,rfl,lk,aO⟩:=F.ex
 refine fn_of lk aO S len λA outer s H vs Q E hr br=>?_
 obtain⟨t,h,q⟩:=bo cdv A outer s H vs Q E hr br
 exact⟨t,h.nox,q⟩
def Fun.binds{x qual:Str}{st:Stmt}{f:Nc}{fd:Nr}{ps:Nj}(F:Fun K x qual st f fd)(h:∀(kV doc pm:Value) (an:Option Addr) (cdv ct:Value) (us:Nh),us.length=ps.length→bindArgs (PySem.W.fnOf x qual (zdb st) (zb7 st) (zag st) .none kV doc pm an cdv ct) ⟨us,[]⟩=pure (ps.zip us)):Binds K fd ps []:=by
 obtain⟨oc,od,kV,doc,pm,an,cdv,ct,osl,rfl,lk,aO⟩:=F.ex
 exact .all (h kV doc pm an cdv ct)
def fun_mk{x qual:Str}{st:Stmt}{f:Nc}{oc:Value}{od an:Option Addr}{osl:Array (Option Value)}{kV doc pm cdv ct:Value}(l:K.lookup f=some ⟨oc,od,.func (PySem.W.fnOf x qual (zdb st) (zb7 st) (zag st) .none kV doc pm an cdv ct),osl⟩)(c:PySem.W.codeIn K cdv qual=true)(k:PySem.W.keepIn K (.ref f)=true):Fun K x qual st f (PySem.W.fnOf x qual (zdb st) (zb7 st) (zag st) .none kV doc pm an cdv ct):=⟨⟨oc,od,kV,doc,pm,an,cdv,ct,osl,rfl,l,c⟩,k⟩
end
def zck(hr:Room k A):A.units+1<cLine:=Wa (Kp (by decide:1≤64) _) hr.units
section
variable{X:Cx}
def pv(i:Nat)(hN:X.N[i]?=some x:=by rfl)(hv:Vis X.env.scope x:=by first | exact Or.inl rfl | exact Or.inr (Or.inl rfl) | exact Or.inr (Or.inr rfl))(hd:(x==("__debug__" : Str))=false:=by decide)(aO:(x==("__classdict__" : Str))=false:=by decide):PE X (.Name x pos) (tVar i):=pe_var hN hv hd aO
end
def iteF{A B:Prop}(h:B):if false=true then A else B:=by
 rw[if_neg Zb]
 exact h
def iteT{A B:Prop}(h:A):if true=true then A else B:=by
 rw[if_pos rfl]
 exact h
def ite2{c A B:Prop}[Decidable c](h1:c→A)(h2:¬c→B):if c then A else B:=by
 by_cases h:c
 ·rw [if_pos h]
  exact h1 h
 ·rw [if_neg h]
  exact h2 h
section
variable{κ:Type}[DecidableEq κ]
end
end L2
end
section
namespace L2
open PySem PySem.Spec PyProof.Rows
def clOf(sc:Scope)(env:Env):List (Str×Addr):=sc.names.foldl (λcs y=>if(y.2==NameKind.free)=true then(y.1,(env.cells.lookup y.1).getD 0)::cs else cs) []
theorem cl_fold:∀(l:List (Str×NameKind)) (cs:List (Str×Addr)),(∀y∈l,y.2=.free→∃c,env.cells.lookup y.1=some c) →
  (forIn l cs (fun (y:Str×NameKind) (r:List (Str×Addr))=>(do
   let(name,kind):=y
   if(kind==.free)=true then do
    let a ←cellOf env name
    pure (ForInStep.yield ((name,a)::r))
   else pure (ForInStep.yield r):Sem (ForInStep (List (Str×Addr))))))=(pure (l.foldl (λcs y=>if(y.2==NameKind.free)=true then(y.1,(env.cells.lookup y.1).getD 0)::cs else cs) cs):Sem (List (Str×Addr)))
 |[],cs,_=>rfl
 | (n,k)::r,cs,h=>by
  rw[List.forIn_cons]
  have ih:=λcs=>cl_fold (env:=env) r cs λy hy=>h y (Qg _ hy)
  by_cases hk:(k==NameKind.free)=true
  ·obtain ⟨c,hc⟩:=h (n,k) Qe (by simpa using hk)
   have bZ:env.cells.lookup n=some c:=hc
   have e:cellOf env n=pure c:=by unfold cellOf;rw[bZ]
   rw[Ju]
   dsimp only
   rw[if_pos hk,if_pos hk,e,bZ]
   exact ih _
  ·rw [Ju]
   dsimp only
   rw[if_neg hk,if_neg hk]
   exact ih _
def zb2(h:∀y∈sc.names,y.2=.free→∃c,env.cells.lookup y.1=some c):closureFor sc env=pure (clOf sc env):=by
 unfold closureFor
 have e:=cl_fold (env:=env) sc.names [] h
 exact(congrArg (λt:Sem (List (Str×Addr))=>t >>= λcs=>pure cs) e).trans rfl
theorem clOf_in{env:Env}{x:Str}{c:Nc}:∀(l:List (Str×NameKind)) (cs:List (Str×Addr)),(∀y∈l,y.2=.free→∃c,env.cells.lookup y.1=some c)→(∀x c,cs.lookup x=some c→env.cells.lookup x=some c) →
  (l.foldl (λcs y=>if(y.2==NameKind.free)=true then(y.1,(env.cells.lookup y.1).getD 0)::cs else cs) cs).lookup x=some c→env.cells.lookup x=some c
 |[],cs,_,hc,e=>hc _ _ e
 | (n,k)::r,cs,h,hc,e=>by
  rw[Ju]at e
  refine clOf_in r _ (λy hy=>h y (Qg _ hy)) ?_ e
  by_cases hk:(k==NameKind.free)=true
  ·obtain ⟨a,ha⟩:=h (n,k) Qe (by simpa using hk)
   have ha':env.cells.lookup n=some a:=ha
   dsimp only
   rw[if_pos hk,ha']
   intro x c q
   rw[Um]at q
   cases hx:x==n with
   |true =>
    rw[hx]at q
    have q':a=c:=Qs q
    have:x=n:=by simpa using hx
    rw[this,←q'];exact ha'
   |false =>
    rw[hx]at q
    exact hc x c q
  ·dsimp only
   rw[if_neg hk]
   exact hc
theorem zij{env:Env}{x:Str}:∀(l:List (Str×NameKind)) (cs:List (Str×Addr)),((x,NameKind.free)∈l∨∃c,cs.lookup x=some c) →
  ∃c,(l.foldl (λcs y=>if(y.2==NameKind.free)=true then(y.1,(env.cells.lookup y.1).getD 0)::cs else cs) cs).lookup x=some c
 |[],cs,h=>by
  rcases h with h | h
  ·exact absurd h (by simp)
  ·exact h
 | (n,k)::r,cs,h=>by
  rw[Ju]
  refine zij r _ ?_
  rcases h with h | ⟨c,h⟩
  ·rcases Qh.mp h with e | e
   ·obtain ⟨rfl,rfl⟩:=Jd e
    exact .inr ⟨(env.cells.lookup x).getD 0,by dsimp only;rw[if_pos (by rfl),List.lookup_cons];simp⟩
   ·exact .inl e
  ·refine .inr ?_
   dsimp only
   by_cases hk:(k==NameKind.free)=true
   ·rw [if_pos hk,Um]
    cases hx:x==n with
    |true=>exact⟨_,rfl⟩
    |false=>exact⟨c,h⟩
   ·rw[if_neg hk];exact⟨c,h⟩
structure Blk(X:Cx)(sc:Scope)(M:Nj)(ix:Nq):Prop where
 kind:sc.kind=.function
 nocell:∀y∈sc.names,y.2≠.cell
 names:∀y∈sc.names,y.2=.local→sc.names.lookup y.1=some .local
 frees:∀y∈sc.names,y.2=.free→X.env.scope.names.lookup y.1=some .cell∨X.env.scope.names.lookup y.1=some .free
 len:ix.length=M.length
 nd:M.Nodup
 caps:∀(j i:Nat) (x:Str),M[j]?=some x→ix[j]?=some (some i)→X.N[i]?=some x∧sc.names.lookup x=some .free
def inner(ix:Nq)(σ:St):St:=ix.map λo=>match o with | none=>none | some i=>(σ[i]?).join
def zh4{sc:Scope}{env:Env}{x:Str}{oz:Option Str}(hn:∀ y∈sc.names,y.2=.cell→oz=some y.1)(h:(relabel sc env).names.lookup x=some .cell∨(relabel sc env).names.lookup x=some .free):(x,NameKind.free)∈sc.names∨oz=some x:=by
 have key:∀k',k'=.cell∨k'=.free→(x,k')∈(relabel sc env).names→(x,NameKind.free)∈sc.names∨oz=some x:=λk' rp hm=>by
  obtain⟨⟨n,k⟩,hy,e⟩:=Ql.mp hm
  dsimp only at e
  by_cases hb:(k==NameKind.free&&env.scope.kind==.function&&env.kindOf n==some .cell)=true
  ·rw [if_pos hb] at e
   obtain⟨rfl,_⟩:=Jd e
   have hk:k=.free:=by
    have:=(Bool.and_eq_true_iff.mp (Bool.and_eq_true_iff.mp hb).1).1
    simpa using this
   rw[hk]at hy
   exact .inl hy
  ·rw [if_neg hb] at e
   obtain⟨rfl,rfl⟩:=Jd e
   rcases rp with q | q
   ·exact .inr (hn _ hy q)
   ·rw[q]at hy;exact .inl hy
 rcases h with h | h
 ·exact key _ (.inl rfl) (Ww h)
 ·exact key _ (.inr rfl) (Ww h)
def ocl(oz:Option Str)(C:Nc)(cl:List (Str×Addr)):List (Str×Addr):=match oz with
 |none=>cl
 |some z=>(z,C+1)::cl
def och(oz:Option Str)(h:Nm):Heap:=match oz with
 |none=>h
 |some _=>h.push {cls:=.type "cell",data:=.cell none}
structure BlkG(X:Cx)(sc:Scope)(oz:Option Str)(M:Nj)(ix:Nq):Prop where
 kind:sc.kind=.function
 own:∀y∈sc.names,y.2=.cell→oz=some y.1
 one:∀n cl,cellsFrom (n+1) sc.names cl=ocl oz n cl
 psh:∀h,pushCells h sc.names=och oz h
 zc:∀z,oz=some z→sc.names.lookup z=some .cell
 names:∀y∈sc.names,y.2=.local→sc.names.lookup y.1=some .local
 frees:∀y∈sc.names,y.2=.free→X.env.scope.names.lookup y.1=some .cell∨X.env.scope.names.lookup y.1=some .free
 len:ix.length=M.length
 nd:M.Nodup
 caps:∀(j i:Nat) (x:Str),M[j]?=some x→ix[j]?=some (some i)→X.N[i]?=some x∧sc.names.lookup x=some .free
theorem zil:∀{l:List (Str×NameKind)} (_:∀y∈l,y.2≠.cell),(∀n cl,cellsFrom n l cl=cl)∧∀h,pushCells h l=h
 |[],_=>⟨λ_ _=>rfl,λ_=>rfl⟩
 |(a,k)::t,h=>by
  obtain⟨h1,h2⟩:=zil λy hy=>h y (Qg _ hy)
  have hk:(k==NameKind.cell)=false:=beq_eq_false_iff_ne.mpr (h (a,k) Qe)
  exact⟨λn cl=>by unfold cellsFrom;rw[hk];exact h1 n cl,λg=>by unfold pushCells;rw[hk];exact h2 g⟩
def Blk.g{X:Cx}{sc:Scope}{M:Nj}{ix:Nq}(B:Blk X sc M ix):BlkG X sc none M ix :=
 ⟨B.kind,λy hy h=>absurd h (B.nocell y hy),λn cl=>(zil B.nocell).1 _ cl,(zil B.nocell).2,λ_ h=>(by cases h),B.names,B.frees,B.len,B.nd,B.caps⟩
def zes(X:Cx)(sc:Scope)(oz:Option Str)(M:Nj)(C:Nc)(a7:Nd)(ex:Nk)(s:Ng)(H:Hp):Cx :=
 {X with N:=M,s₀:=s,H₀:=H,env:=compEnvC sc (ocl oz C (clOf sc X.env)) C X.env,outer:=X.stack,ex:=ex,fn:=λx=>oz==some x,pn:=X.pn++a7,xe:=λ_ _=>False}
abbrev zbx(X:Cx)(sc:Scope)(M:Nj)(C:Nc)(a7:Nd)(ex:Nk)(s:Ng)(H:Hp):Cx:=zes X sc none M C a7 ex s H
section
variable{M:Model}{A:Nn}{E:Nb}{s:Ng}
def newEnv_own{sc:Scope}{g:Nc}{cl:List (Str×Addr)}{q:Str}{env:Env}{oz:Option Str}{Q:Env→Shared→Prop}(one:∀n cl,cellsFrom (n+1) sc.names cl=ocl oz n cl)(psh:∀h,pushCells h sc.names=och oz h)(hQ:Q (newEnv sc s.heap.objs.size g (ocl oz s.heap.objs.size cl) q none .none (some env) builtinsNs) {s with heap:=och oz (s.heap.push {cls:=.type "dict",data:=.dict #[]})}) :
  wpAny M A (newFunctionEnv sc g cl [] q none .none (some env)) Q E s:=by
 simp only[newFunctionEnv,Option.isSome_some,if_true]
 refine wpAny_bind (wpAny_alloc ?_)
 refine wpAny_bind (wpAny_layCells _ (λname kind cells=>by cases hkc:kind==NameKind.cell<;>simp[hkc]) _ _ _ _ ?_)
 rw[psh,show({s with heap:=s.heap.push {cls:=.type "dict",data:=.dict #[]}}:Shared).heap.objs.size=s.heap.objs.size+1 from Uh ..,one]
 exact wpAny_pure hQ
end
section
variable{X:Cx}{sc:Scope}{oz:Option Str}{M:Nj}{ix:Nq}{a7:Nd}{σ:St}{H:Hp}{s:Ng}
def BlkG.clos(B:BlkG X sc oz M ix)(I:Inv X a7 σ H s):∀y∈sc.names,y.2=.free→∃c,X.env.cells.lookup y.1=some c:=λy hy hf =>
 I.ok.has y.1 (by rcases B.frees y hy hf with z | z;exact .inl z;exact .inr z)
def Blk.clos(B:Blk X sc M ix)(I:Inv X a7 σ H s):∀y∈sc.names,y.2=.free→∃c,X.env.cells.lookup y.1=some c:=B.g.clos I
def inv_blkG{ex:Nk}{s':Ng}{C:Nc}(B:BlkG X sc oz M ix)(I:Inv X a7 σ H s)(hx:∀ b∈ex,FpOk X a7 H b)(ae:∀ b∈ex,b < s.heap.objs.size)(hC:C=s.heap.objs.size)(hn:s'.heap.Ns C λ_=>none)(hz:∀z,oz=some z→s'.heap.IsCell (C+1) none)(hk:∀b o,s.heap.get? b=some o→s'.heap.get? b=some o)(hg:s'.gens=s.gens)(ho:s'.os=s.os):Inv (zes X sc oz M C a7 ex s H) [] (inner ix σ) H s':=by
 have cls:=B.clos I
 have cin:∀x c,(clOf sc X.env).lookup x=some c→X.env.cells.lookup x=some c:=λx c e=>clOf_in sc.names [] cls (λ_ _ z=>by cases z) e
 have cne:∀x c,(clOf sc X.env).lookup x=some c→c<s.heap.objs.size:=λx c e=>by
  obtain⟨v,q⟩:=I.cell x c (cin x c e)
  exact q.lt
 have zne:∀c:Addr,c<s.heap.objs.size→c≠C+1:=λc h e=>by
  rw[e,hC]at h;exact absurd (Ky h) (Yr _)
 have zin:∀x c,(ocl oz C (clOf sc X.env)).lookup x=some c→(oz=some x∧c=C+1)∨oz≠some x∧(clOf sc X.env).lookup x=some c:=λx c e=>by
  cases oz with
  |none=>exact .inr ⟨λz=>(by cases z),e⟩
  |some zn =>
   have e:((zn,C+1)::clOf sc X.env).lookup x=some c:=e
   rw[Um]at e
   cases q:x==zn with
   |true=>rw[q]at e;exact .inl ⟨by rw[eq_of_beq q],(Qs e).symm⟩
   |false=>rw[q]at e;exact .inr ⟨λz=>(by rw[Qs z,beq_self_eq_true]at q;cases q),e⟩
 have zout:∀x c,oz≠some x→(clOf sc X.env).lookup x=some c→(ocl oz C (clOf sc X.env)).lookup x=some c:=λx c hx e=>by
  cases oz with
  |none=>exact e
  |some zn =>
   show((zn,C+1)::clOf sc X.env).lookup x=_
   rw[Um,beq_eq_false_iff_ne.mpr λz=>hx (by rw[z])];exact e
 refine⟨⟨I.ok.mod,?_,I.ok.glob,I.ok.blt,?_,λx y c h1 h2=>?_,λx hx=>?_,λx c h e=>?_,I.ok.hd,I.ok.frames,.inl rfl,λb hb=>?_,I.bs,?_,λb o e hb=>?_,λb hb=>?_,I.stack,I.stkFree⟩,
  ?_,?_,Un.kept hk,⟨_,hn,λj x v e1 e2 e3=>?_⟩,λx c e=>?_,?_,λx c e=>?_,λp hp=>?_,I.hok.kept hk,?_⟩
 ·show (relabel sc X.env).kind=.function
  exact B.kind
 ·show s.heap.objs.size≤C
  rw[hC];exact Qd _
 ·rcases zin x c h1 with ⟨a,b⟩ | ⟨_,a⟩ <;> rcases zin y c h2 with ⟨a',b'⟩ | ⟨_,a'⟩
  ·exact Qs (a.symm.trans a')
  ·exact absurd b (zne c (cne y c a'))
  ·exact absurd b' (zne c (cne x c a))
  ·exact I.ok.inj x y c (cin x c a) (cin y c a')
 ·by_cases q:oz=some x
  ·exact⟨C+1,by show(ocl oz C (clOf sc X.env)).lookup x=_;rw[q];show((x,C+1)::clOf sc X.env).lookup x=_;rw[Um,beq_self_eq_true]⟩
  ·obtain ⟨c,hc⟩:=zij (env:=X.env) sc.names [] (.inl ((zh4 B.own hx).resolve_right q))
   exact⟨c,zout x c q hc⟩
 ·have h':oz=some x:=by
   have:(oz==some x)=true:=h
   exact eq_of_beq this
  rcases zin x c e with⟨_,b⟩ | ⟨b,_⟩
  ·show s.heap.objs.size≤c
   rw[b,hC];exact Kb _
  ·exact absurd h' b
 ·have:=ae b hb
  refine⟨λz=>?_,λx c e=>(zin x c e).elim (λq h=>zne b this (h.symm.trans q.2)) λe=>(hx b hb).2.2.2.2.1 x c (cin x c e.2)⟩
  have z':b=C:=z
  rw[z',hC]at this
  exact Yr _ this
 ·exact Zi I.ok.bsz I.sz
 ·rcases (hx b hb).2.2.2.1 with z | z
  ·exact I.ok.noex b o e z
  ·have h1:b < X.base.objs.size:=Qw e
   have h2:=I.ok.bsz
   have h3:X.s₀.heap.objs.size≤b:=z
   exact absurd (Zw h1 (Zi h2 h3)) (Yr _)
 ·intro z
  rcases Qh.mp (I.stkSub b z) with q | q
  ·exact(hx b hb).2.1 q
  ·exact(hx b hb).2.2.1 q
 ·exact ho
 ·rw[hg];exact I.bare
 ·have hj:∃ i,ix[j]?=some (some i)∧σ[i]?=some (some v):=by
   unfold inner at e2
   rw[Qr]at e2
   cases q:ix[j]? with
   |none=>rw[q]at e2;cases e2
   | some o =>
    rw[q]at e2
    cases o with
    |none=>cases e2
    |some i =>
     have oQ:(σ[i]?).join=some v:=Qs e2
     cases q2:σ[i]? with
     |none=>rw[q2]at oQ;cases oQ
     |some w=>rw[q2]at oQ;exact⟨i,rfl,by rw[q2];exact congrArg some oQ⟩
  obtain⟨i,hi,hσ⟩:=hj
  obtain⟨hN,bn⟩:=B.caps j i x e1 hi
  have hm:=Ww bn
  have d8:=B.frees (x,.free) hm rfl
  obtain⟨m,_,hl⟩:=I.loc
  obtain⟨u,ru,lk⟩:=hl i x v hN hσ (by rcases d8 with z | z;exact .inr (.inl z);exact .inr (.inr z))
  refine⟨u,ru,.inr ?_⟩
  obtain⟨c,hc⟩:=zij (env:=X.env) sc.names [] (.inl hm)
  have bZ:=cin x c hc
  have lk2:s.heap.IsCell c (some u):=by
   rcases lk with⟨k,_⟩ | ⟨_,c',e',z⟩
   ·have k':X.env.scope.names.lookup x=some .local:=k
    rcases d8 with q | q<;>(rw[show X.env.scope.names.lookup x=_ from q]at k';cases k')
   ·rw[bZ]at e';cases e';exact z
  refine⟨?_,c,zout x c (λq=>by rw[B.zc x q]at bn;cases bn) hc,?_⟩
  ·have e3':Vis (relabel sc X.env) x:=e3
   rcases e3' with z | z | z
   ·exfalso
    have:=@lookup_relabel_local
    have cF:∀(l:List (Str×NameKind)),l.lookup x=some .free→(l.map λ(y:Str×NameKind)=>match y with | (n,k)=>if(k==NameKind.free&&X.env.scope.kind==.function&&X.env.kindOf n==some .cell) then(n,NameKind.cell) else(n,k)).lookup x≠some .local:=by
     intro l
     induction l with
     |nil=>intro h;cases h
     | cons y r ih =>
      obtain⟨n,k⟩:=y
      intro h
      rw[Um]at h
      rw[Qk]
      dsimp only
      by_cases hb:(k==NameKind.free&&X.env.scope.kind==.function&&X.env.kindOf n==some .cell)=true
      ·rw [if_pos hb,Um]
       cases hx:x==n with
       |true=>intro q;cases q
       |false=>rw[hx]at h;exact ih h
      ·rw [if_neg hb,Um]
       cases hx:x==n with
       |true =>
        rw[hx]at h
        intro q
        have h':k=NameKind.free:=Qs h
        have q':k=NameKind.local:=Qs q
        rw[h']at q';cases q'
       |false=>rw[hx]at h;exact ih h
    exact cF sc.names bn z
   ·exact .inl z
   ·exact .inr z
  ·obtain ⟨o,aG,fk⟩:=lk2
   exact⟨o,hk c o aG,fk⟩
 ·rcases zin x c e with ⟨a,b⟩ | ⟨_,b⟩
  ·rw[b];exact⟨none,hz x a⟩
  ·obtain ⟨v,o,aG,fk⟩:=I.cell x c (cin x c b)
   exact⟨v,o,hk c o aG,fk⟩
 ·show H C=none
  rw[hC]
  exact I.hok.fresh (Qd _)
 ·rcases zin x c e with ⟨_,b⟩ | ⟨_,b⟩
  ·rw[b];exact I.hok.fresh (by rw[hC];exact Kb _)
  ·exact I.freeC x c (cin x c b)
 ·have bY:p∈X.pn++a7:=by
   have:p∈(X.pn++a7)++[]:=hp
   rwa[Zs]at this
  obtain⟨e,n,ne,nf,d⟩:=I.pin p bY
  refine⟨hk _ _ e,n,?_,λz=>?_,d⟩
  ·intro z
   have z':p.1=C:=z
   have:=Qw e
   rw[z',hC]at this
   exact Yr _ this
  ·rcases Qh.mp (I.stkSub _ z) with q | q
   ·exact ne q
   ·exact nf q
 ·unfold inner
  rw[Qa]
  exact B.len
def inv_blk(B:Blk X sc M ix)(I:Inv X a7 σ H s)(hx:∀b∈ex,FpOk X a7 H b)(ae:∀b∈ex,b<s.heap.objs.size)(hC:C=s.heap.objs.size)(hn:s'.heap.Ns C λ_=>none)(hk:∀b o,s.heap.get? b=some o→s'.heap.get? b=some o)(hg:s'.gens=s.gens)(ho:s'.os=s.os):Inv (zbx X sc M C a7 ex s H) [] (inner ix σ) H s':=inv_blkG B.g I hx ae hC hn (λ_ h=>by cases h) hk hg ho
def PTs(X:Cx)(ifs:No)(t:TT):Prop :=
 ∀(a7:Nd) (s:Ng) (σ:St) (H:Hp) (Q:Bool→Hp→Prop),Inv X a7 σ H s→t σ H Q →
  wpAny (model X.prog X.w) X.A (forIn ifs true λc r=>if r=true then do let ok ←isTrue c X.env (eval c X.env);pure (ForInStep.yield ok) else pure (ForInStep.yield r)) (TP X a7 σ Q) X.xe s
def tAll:TT:=λ_ H Q=>Q true H
def zdi:PTs X [] tAll:=λ_ _ _ H _ I h=>wpAny_tests_nil ⟨H,I,h⟩
def zh5(h:PT X c t):PTs X [c] t:=λa7 s σ H Q I q=>wpAny_tests_one (h a7 s σ H Q I q)
def compLoop_any{prog:Ni}{w:Nl}{A:Nn}{s:Ng}{elt target iter:Expr}{ifs:No}{scope:Scope}{pos:Pos}{it af:Value}{env:Env}{R:Nt}(I:Nat→Shared→Prop)(turn:∀ n s,I n s→wpAny (model prog w) A (pyNext it) (fun r s₁=>match r with
   |none=>R (.ok .next) s₁
   | some v=>wpAny (model prog w) A (letOwnedTupleGo target it v) (fun _ s₁'=>wpAny (model prog w) A (assign target env v) (fun _ s₂ =>
     wpAny (model prog w) A (forIn ifs true λc r=>if r=true then do let ok ←isTrue c env (eval c env);pure (ForInStep.yield ok) else pure (ForInStep.yield r)) (λok s₃ =>
      if ok=true then wpAny (model prog w) A (eval elt env) (λx s₄ =>
       wpAny (model prog w) A (call (.builtin "list.append") [af,x]) (λ_ s₅=>∃m,m<n∧I m s₅) (λ_ _=>False) s₄) (λ_ _=>False) s₃
      else ∃m,m<n∧I m s₃) (λ_ _=>False) s₂) (λ_ _=>False) s₁') (λ_ _=>False) s₁) (λ_ _=>False) s)(n:Nat)(h:I n s):codeAny (model prog w) A (.compLoop (.ListComp elt [⟨target,iter,ifs,0⟩] scope pos) 0 it af env) R s:=by
 refine codeAny_loop rfl I (λn s hI=>?_) n h
 show wpAny _ A ((compTurn (.ListComp elt [⟨target,iter,ifs,0⟩] scope pos) 0 it af env).onRaise (λx=>do noteFrame x env;theTreesLotGoes x)) _ _ s
 refine wpAny_noted ?_
 rw[compTurn_list]
 refine wpAny_bind (wpAny_standAt (wpAny_bind (wpAny_mono (turn n s hI) (λr s₁ h₁=>?_) λ_ _ h'=>h'.elim)))
 cases r with
 |none=>exact wpAny_pure h₁
 | some v =>
  refine wpAny_bind (wpAny_mono h₁ (λ_ s₁' h₁'=>?_) λ_ _ h'=>h'.elim)
  refine wpAny_bind (wpAny_mono h₁' (λ_ s₂ h₂=>wpAny_bind (wpAny_mono h₂ (λok s₃ h₃=>?_) λ_ _ h'=>h'.elim)) λ_ _ h'=>h'.elim)
  cases ok with
  |false=>exact wpAny_pure ⟨rfl,h₃⟩
  |true =>
   exact wpAny_bind (wpAny_bind (wpAny_mono h₃ (λx s₄ h₄=>wpAny_bind (wpAny_mono h₄ (λ_ s₅ h₅=>wpAny_pure (wpAny_pure ⟨rfl,h₅⟩)) λ_ _ h'=>h'.elim)) λ_ _ h'=>h'.elim))
def rLC(g:TG)(tc:TT)(te:TE)(Q:VK)(J:It)(τ:St)(H1:Hp):Prop:=∃W:Nat→Nat→List V→St→Hp→Prop,(∃m,W 0 m [] τ H1)∧∀i m ys τ H,W i m ys τ H →
 (J.stop i H∧∀D,H D=none→Q (.ref D) (upd H D (.lst ys))) ∨
 (J.go i H∧ys.length<sizeLine∧∀x H',J.yld i H x H'→g x τ H' λ τ2 H2=>tc τ2 H2 λb H3=>if b=true then te τ2 H3 λy H4=>∃m',m'<m∧W (i+1) m' (ys++[y]) τ2 H4 else ∃m',m'<m∧W (i+1) m' ys τ2 H3)
def tLC(ix:Nq)(wi:TI)(g:TG)(tc:TT)(te:TE):TE:=λ σ H Q=>wi σ H λJ H1=>rLC g tc te Q J (inner ix σ) H1
def lc_blockG{tg elt iter:Expr}{ifs:No}{pos:Pos}{g:TG}{tc:TT}{te:TE}{fp:Nk}{it:Nc}{tn:Nat→Heap→Prop}{J:It}{Q:VK}{RR:Value→Addr→Result→Shared→Prop}{E:Nb}(B:BlkG X sc oz M ix)(hc:X.calm=true)(hg:∀C ex s H,PG (zes X sc oz M C a7 ex s H) tg g)(ht:∀C ex s H,PTs (zes X sc oz M C a7 ex s H) ifs tc)(he:∀C ex s H,PE (zes X sc oz M C a7 ex s H) elt te)(I:Inv X a7 σ H s)(T:Turn X.prog X.w X.K tg J fp it tn)(h0:tn 0 s.heap)(hf:∀b∈fp,FpOk X a7 H b)(q:rLC g tc te Q J (inner ix σ) H)(jE:∀D C m ys H' s',Inv X a7 σ (upd H' D (.lst ys)) s'→Q (.ref D) (upd H' D (.lst ys))→s'.heap.Ns C m→upd H' D (.lst ys) C=none→s.heap.objs.size<C→RR (.ref D) C (.ok .next) s') :
  wpAny (model X.prog X.w) X.A (newList []) (λaf s₃=>wpAny (model X.prog X.w) X.A (newFunctionEnv sc X.env.globals (clOf sc X.env) [] X.env.qual none .none (some X.env)) (λcenv s₄ =>
   codeAny (model X.prog X.w) X.A (.compStart (.ListComp elt [⟨tg,iter,ifs,0⟩] sc pos) 0 (.ref it) af {cenv with scope:=relabel sc X.env}) (RR af cenv.locals) s₄) E s₃) E s:=by
 refine wpAny_newObj_type (newEnv_own B.one B.psh ?_)
 dsimp only
 generalize hD:s.heap.objs.size=D
 generalize dQ:s.heap.push {cls:=.type "list",dict:=none,data:=.seq ([]:List Value).toArray}=g2
 generalize rH:och oz (g2.push {cls:=.type "dict",data:=.dict #[]})=h₁
 have kp:∀(q:Nm) (b:Nc) (o:Obj),q.get? b=some o→(och oz q).get? b=some o:=λq b o e=>by
  cases oz with
  |none=>exact e
  |some _=>exact Qi _ e
 have hns₁:h₁.Ns g2.objs.size (λ_=>none):=rH▸(Heap.Ns.new g2 (.type "dict")).keeps λb o e=>kp _ b o e
 have hz₁:∀z,oz=some z→h₁.IsCell (g2.objs.size+1) none:=λz ez=>by
  have e:(g2.push {cls:=.type "dict",data:=.dict #[]}).objs.size=g2.objs.size+1:=Uh ..
  rw[←rH,←e,ez]
  exact⟨_,Za _ rfl,rfl⟩
 have hC:g2.objs.size=D+1:=by rw[←dQ,Uh,hD]
 have k2:∀b o,s.heap.get? b=some o→g2.get? b=some o:=λb o e=>by rw[←dQ];exact Qi _ e
 have I3:Inv X a7 σ H {s with heap:=g2}:=I.kept (t':=s.toks) k2
 have HD:H D=none:=I.hok.fresh (by rw[hD];exact Qd _)
 have fD:FpOk X a7 H D:=I.fpOk (by rw[hD];exact Qd _) HD
 have D2:g2.get? D=some {cls:=.type "list",dict:=none,data:=.seq ([]:List Value).toArray}:=by rw[←dQ,←hD];exact Za _ rfl
 have k1:∀b o,g2.get? b=some o→h₁.get? b=some o:=λb o e=>rH▸kp _ b o (Qi _ e)
 have fpx:∀b∈D::fp,FpOk X a7 H b:=λb hb=>by
  rcases Qh.mp hb with e | e
  ·rw[e];exact fD
  ·exact hf b e
 have fplt:∀b∈D::fp,b<g2.objs.size:=λb hb=>by
  rcases Qh.mp hb with e | e
  ·rw[e,hC];exact Yv _
  ·obtain ⟨o,q,_⟩:=T.obj _ _ h0 b e
   exact Qw (k2 b o q)
 have fpD:D∉fp:=λhm=>by
  obtain⟨o,q,_⟩:=T.obj _ _ h0 D hm
  have:=Qw q
  rw[hD]at this
  exact Yr _ this
 generalize am:zes X sc oz M g2.objs.size a7 (D::fp) {s with heap:=g2} H=Y
 have IY:Inv Y [] (inner ix σ) H {s with heap:=h₁,toks:=s.toks+([]:List (Str×Value)).length}:=by
  rw[←am]
  exact inv_blkG B I3 fpx fplt rfl hns₁ hz₁ k1 rfl rfl
 have Yg:=am▸hg g2.objs.size (D::fp) {s with heap:=g2} H
 have Yt:=am▸ht g2.objs.size (D::fp) {s with heap:=g2} H
 have Ye:=am▸he g2.objs.size (D::fp) {s with heap:=g2} H
 have eP:Y.prog=X.prog:=by rw[←am];rfl
 have eW:Y.w=X.w:=by rw[←am];rfl
 have eK:Y.K=X.K:=by rw[←am];rfl
 have eA:Y.A=X.A:=by rw[←am];rfl
 have eC:Y.calm=true:=by rw[←am];exact hc
 have eE:Y.env=compEnvC sc (ocl oz g2.objs.size (clOf sc X.env)) g2.objs.size X.env:=by rw[←am];rfl
 have eX:Y.xe=λ_ _=>False:=by rw[←am];rfl
 have eEx:Y.ex=D::fp:=by rw[←am];rfl
 have eFs:Y.fs=frs X.stack:=by rw[←am];rfl
 have ePn:Y.pn=X.pn++a7:=by rw[←am];rfl
 have eL:Y.env.locals=g2.objs.size:=by rw[eE];rfl
 have ny:Y.H₀=H:=by rw[←am];rfl
 have i5:Y.s₀={s with heap:=g2}:=by rw[←am];rfl
 have fY:∀{H':Hp} {pl:Nd} {b:Nc},b∈D::fp→H' b=none→(∀p∈pl,p.1≠b)→FpOk Y pl H' b:=λ{H' pl b} hb hn hp=>by
  obtain⟨f0,f1,f2,f3,f4,f5⟩:=fpx b hb
  refine⟨hn,?_,?_,.inl (by rw[eEx];exact hb),IY.ok.exf b (by rw[eEx];exact hb) |>.2,λp bY=>?_⟩
  ·rw[eL];exact Zk (fplt b hb)
  ·rw [eFs]
   intro z
   rcases Qh.mp (I3.stkSub b z) with q | q
   ·exact f1 q
   ·exact f2 q
  ·rw [ePn] at bY
   rcases Qf.mp bY with z | z
   ·exact f5 p z
   ·exact hp p z
 obtain⟨W,⟨m0,w0⟩,turn⟩:=q
 have loop:∀ sN:Shared,sN={ s with heap:=h₁,toks:=s.toks+([]:List (Str×Value)).length } →
   codeAny (model X.prog X.w) X.A (.compLoop (.ListComp elt [⟨tg,iter,ifs,0⟩] sc pos) 0 (.ref it) (.ref D) (compEnvC sc (ocl oz g2.objs.size (clOf sc X.env)) g2.objs.size X.env)) (RR (.ref D) g2.objs.size) sN:=by
  rintro sN rfl
  refine compLoop_any (λn s'=>Ex6 λi τ H' ys a8 k=>Aj7 (Inv Y [] τ H' s') (tn i s'.heap) (∀b∈D::fp,H' b=none) (s'.heap.get? D=some {cls:=.type "list",data:=.seq (a8:Nh).toArray k}) (Vals ys a8) (ys.length≤sizeLine) (W i n ys τ H')) ?_ m0
   ⟨0,inner ix σ,H,[],[],0,IY,T.keep _ _ _ h0 λb _ o e=>k1 b o (k2 b o e),λb hb=>(fpx b hb).1,k1 _ _ D2,.nil,Zh _,w0⟩
  rintro n s5 ⟨i,τ,H5,ys,a8,k,I5,t5,n5,d5,v5,z5,w5⟩
  have oD:∀{s':Ng} {its':Nh} {k':Nat},s'.heap.get? D=some {cls:=.type "list",data:=.seq its'.toArray k'}→∀b∈[D],∃o,s'.heap.get? b=some o∧∀v,o.data≠.cell v:=λ{s' its' k'} e b hb=>by
   rw[Qb.mp hb]
   exact⟨_,e,λv z=>by cases z⟩
  have dE:Inv Y ([]++zbb [D] s5.heap) τ H5 s5:=I5.pinned (λb hb=>fY (by rw[Qb.mp hb];exact Qe) (n5 b (by rw[Qb.mp hb];exact Qe)) (by simp)) (oD d5)
  have pD:∀p∈zbb [D] s5.heap,p.1=D∧p.2={cls:=.type "list",data:=.seq a8.toArray k}:=λp hp=>by
   obtain⟨e1,e2⟩:=zcx hp
   have dC:p.1=D:=Qb.mp e1
   rw[dC,d5]at e2
   exact⟨dC,(Qs e2).symm⟩
  have fN:∀{H':Hp},(∀b∈fp,H' b=none)→∀b∈fp,FpOk Y ([]++zbb [D] s5.heap) H' b:=λhn b hb=>fY (Qg _ hb) (hn b hb) λp hp z=>by
   rw[Wq]at hp
   rw[(pD p hp).1]at z
   exact fpD (z▸hb)
  rcases turn i n ys τ H5 w5 with⟨stop,qn⟩ | ⟨go,zl,step⟩
  ·have h6:=T.done Y eP eW eK eC i _ s5 τ H5 (fun _ _=>False) dE (fN fun b hb=>n5 b (Qg _ hb)) t5 stop
   rw[eA]at h6
   refine thn h6 λr s6 ⟨hr,I6⟩=>?_
   subst hr
   have d6:s6.heap.get? D=some {cls:=.type "list",data:=.seq a8.toArray k}:=by
    have hp:=za2 (fp:=[D]) (Qb.mpr rfl) d5
    exact(I6.pin (D,_) (Qj _ hp)).1
   have H5D:H5 D=none:=n5 D Qe
   obtain⟨mL,nL,_⟩:=I6.loc
   rw[eL]at nL
   have CD:g2.objs.size≠D:=by rw[hC];exact Xi _
   refine jE D _ mL ys H5 s6 ?_ (qn D H5D) nL ?_ (by rw[hC,hD];exact Yv _)
   ·have u6:=I6.base
    rw[eFs,eEx,ny,i5]at u6
    refine I3.call' (ch:=D::fp) (I6.os.trans (by rw[i5])) ⟨u6.keep,u6.slot,λb o e n hx=>?_,u6.there,λb xs e=>?_,λb o u e=>?_,λb ps e=>?_⟩ ?_ I6.bare λb hb=>?_
    ·rw[zad (λz=>hx (by rw[z];exact Qe))];exact u6.free b o e n hx
    ·rw[zad (zab e HD)];exact u6.tups b xs e
    ·rw[zad (zab e HD)];exact u6.frzs b o u e
    ·rw[zad (zab e HD)];exact u6.tbls b ps e
    ·have gF:=I6.hok
     rw[eP,eW]at gF
     intro b u e
     by_cases hb:b=D
     ·subst hb
      rw[zac]at e
      cases e
      exact⟨z5,a8,k,v5,d6⟩
     ·rw [zad hb] at e
      exact(gF b u e).stay (λc v _ q=>q) (λc q=>by rw[zad (zab q H5D)];exact q) λc xs q=>by rw[zad (zab q H5D)];exact q
    ·obtain ⟨f0,f1,f2,f3,f4,f5⟩:=fpx b hb
     exact⟨f3,f1,f4,f5⟩
   ·rw [zad CD]
    have:=I6.free
    rw[eL]at this
    exact this
  ·have h6:=T.item Y eP eW eK eC i _ s5 τ H5 (fun _ _=>False) dE (fN fun b hb=>n5 b (Qg _ hb)) t5 go
   rw[eA]at h6
   refine thn h6 λr s6 ⟨u,hr,h7⟩=>?_
   subst hr
   refine thn h7 λ_ s7 ⟨x,H7,I7,r7,y7,t7,n7⟩=>?_
   have jM:=I7.pinned (fN n7) (T.obj _ _ t7)
   have h8:=Yg _ s7 τ H7 x u _ jM r7 (step x H7 y7)
   rw[eP,eW,eA,eX,eE]at h8
   refine thn h8 λ_ s8 ⟨τ8,H8,I8,q8⟩=>?_
   have h9:=Yt _ s8 τ8 H8 _ I8 q8
   rw[eP,eW,eA,eX,eE]at h9
   refine thn h9 λok s9 ⟨H9,I9,q9⟩=>?_
   have again:∀{τ':St} {H':Hp} {s':Ng},Inv Y (([]++zbb [D] s5.heap)++zbb fp s7.heap) τ' H' s'→s'.heap.get? D=some {cls:=.type "list",data:=.seq a8.toArray k}∧H' D=none∧tn (i+1) s'.heap∧∀b∈fp,H' b=none:=λ{τ' H' s'} I'=>by
    have pp:∀{b:Nc} {o:Obj},b∈fp→s7.heap.get? b=some o→s'.heap.get? b=some o∧H' b=none:=λ{b o} hb e =>
     let z:=I'.pin (b,o) (Qj _ (Qj _ (za2 hb e)))
     ⟨z.1,z.2.1⟩
    have hp:=za2 (fp:=[D]) (Qb.mpr rfl) d5
    have z:=I'.pin (D,_) (Qj _ (Qv _ hp))
    refine⟨z.1,z.2.1,T.keep _ _ _ t7 λb hb o e=>(pp hb e).1,λb hb=>?_⟩
    obtain⟨o,e,_⟩:=T.obj _ _ t7 b hb
    exact(pp hb e).2
   have drop:∀{pl:Nd} {τ':St} {H':Hp} {s':Ng},Inv Y pl τ' H' s'→Inv Y [] τ' H' s':=λI'=>I'.pins_of (by simp)
   cases ok with
   |false =>
    rw[if_neg (by decide)]at q9 ⊢
    obtain⟨m',hm,w9⟩:=q9
    obtain⟨d9,H9D,t9,n9⟩:=again I9
    exact⟨m',hm,i+1,τ8,H9,ys,a8,k,drop I9,t9,λb hb=>(Qh.mp hb).elim (λe=>e▸H9D) (n9 b),d9,v5,z5,w9⟩
   | true =>
    rw[if_pos rfl]at q9 ⊢
    have dB:=Ye _ s9 τ8 H9 _ I9 q9
    rw[eP,eW,eA,eX,eE]at dB
    refine thn dB λy cJ ⟨yv,dF,fE,jO,m',hm,oW⟩=>?_
    obtain⟨jI,H10D,kJ,pC⟩:=again fE
    refine call_meets F.slot_list_append ⟨_,jI,rfl⟩ F.entry_list_append (F.args_list_append_2 _ _) (PySem.list_append D a8.toArray k y (by rw[Qn,←v5.length];assumption)) ⟨jI,?_⟩
    have q:=PySem.IsL.update jI (λa=>a.push y)
    have tm:(a8.toArray.push y)=(a8++[y]).toArray:=by simp
    rw[tm]at q
    have kk:∀b o,b≠D→cJ.heap.get? b=some o→(cJ.heap.update D (Obj.mapSeq λa=>a.push y)).get? b=some o:=λb o hb e=>(Uv cJ.heap (Obj.mapSeq λa=>a.push y) (Zn hb)).trans e
    obtain⟨g0,g1,g2',g3,g4,g5⟩:=fY (pl:=[]) (H':=dF) (b:=D) Qe H10D (by simp)
    have kH:=(drop fE).turned (h':=cJ.heap.update D (Obj.mapSeq λa=>a.push y)) (t':=cJ.toks) (it:=D) kk H10D g1 g3 g4 g5
    exact⟨m',hm,i+1,τ8,dF,ys++[yv],a8++[y],_,kH,T.keep _ _ _ kJ λb hb o e=>kk b o (λz=>fpD (z▸hb)) e,λb hb=>(Qh.mp hb).elim (λe=>e▸H10D) (pC b),q,v5.append (.cons jO .nil),
     by rw[Qm,Ki];assumption,oW⟩
 exact codeAny_compStart_list (loop _ rfl) (T.self _ 0 _ _ _ (T.keep _ _ _ h0 λb _ o e=>k1 b o (k2 b o e)) (loop _ rfl))
def lc_block{tg elt iter:Expr}{ifs:No}{pos:Pos}{g:TG}{tc:TT}{te:TE}{fp:Nk}{it:Nc}{tn:Nat→Heap→Prop}{J:It}{Q:VK}{RR:Value→Addr→Result→Shared→Prop}{E:Nb}(B:Blk X sc M ix)(hc:X.calm=true)(hg:∀C ex s H,PG (zbx X sc M C a7 ex s H) tg g)(ht:∀C ex s H,PTs (zbx X sc M C a7 ex s H) ifs tc)(he:∀C ex s H,PE (zbx X sc M C a7 ex s H) elt te)(I:Inv X a7 σ H s)(T:Turn X.prog X.w X.K tg J fp it tn)(h0:tn 0 s.heap)(hf:∀b∈fp,FpOk X a7 H b)(q:rLC g tc te Q J (inner ix σ) H)(jE:∀D C m ys H' s',Inv X a7 σ (upd H' D (.lst ys)) s'→Q (.ref D) (upd H' D (.lst ys))→s'.heap.Ns C m→upd H' D (.lst ys) C=none→s.heap.objs.size<C→RR (.ref D) C (.ok .next) s') :
  wpAny (model X.prog X.w) X.A (newList []) (λaf s₃=>wpAny (model X.prog X.w) X.A (newFunctionEnv sc X.env.globals (clOf sc X.env) [] X.env.qual none .none (some X.env)) (λcenv s₄ =>
   codeAny (model X.prog X.w) X.A (.compStart (.ListComp elt [⟨tg,iter,ifs,0⟩] sc pos) 0 (.ref it) af {cenv with scope:=relabel sc X.env}) (RR af cenv.locals) s₄) E s₃) E s:=lc_blockG B.g hc hg ht he I T h0 hf q jE
def Inv.letgo{C:Nc}{m:Nf}{h':Nm}{s₀:Nm}(I:Inv X a7 σ H s)(hn:s.heap.Ns C m)(hC:H C=none)(ae:X.env.locals<s₀.objs.size)(jy:∀x c,X.env.cells.lookup x=some c→c<s₀.objs.size)(hp:∀p∈X.pn++a7,p.1<s₀.objs.size)(aT:X.s₀.heap.objs.size≤s₀.objs.size)(hc:s₀.objs.size<C)(hs:Heap.SameBut C s.heap h'):Inv X a7 σ H {s with heap:=h'} :=
 I.turned (t':=s.toks) (it:=C) (λb o hb e=>(hs.2 b hb).trans e) hC (Wg (Ws ae hc)) (.inr (Zi aT (Zo hc))) (λx c e=>Zk (Ws (jy x c e) hc)) λp q=>Zk (Ws (hp p q) hc)
def Inv.cl_lt(I:Inv X a7 σ H s):∀x c,X.env.cells.lookup x=some c→c<s.heap.objs.size:=λx c e=>by
 obtain⟨v,q⟩:=I.cell x c e
 exact q.lt
def Inv.pin_lt(I:Inv X a7 σ H s):∀p∈X.pn++a7,p.1<s.heap.objs.size:=λp hp=>Qw (I.pin p hp).1
def pe_lcC(B:BlkG X sc oz M ix)(hc:X.calm=true)(hi:PI X tg iter wi)(hg:∀C a7 ex s H,PG (zes X sc oz M C a7 ex s H) tg g)(ht:∀C a7 ex s H,PTs (zes X sc oz M C a7 ex s H) ifs tc)(he:∀C a7 ex s H,PE (zes X sc oz M C a7 ex s H) elt te)(hs:∀x,foldedSetIterable iter X.env x=pure x:=by intro _;rfl):PE X (.ListComp elt [⟨tg,iter,ifs,0⟩] sc pos) (tLC ix wi g tc te):=by
 intro a7 s σ H Q I h
 rw[eval_ListComp]
 refine wpAny_comprehension_free (use:=none) rfl hs (zb2 (B.clos I)) B.kind B.names (thn (hi a7 s σ H _ I h) λv s1 h1=>thn h1 λitv s2 h2=>?_)
 obtain⟨it,fp,tn,J,H2,e,I2,T,aq,f2,q⟩:=h2
 subst e
 refine lc_blockG (RR:=λaf C=>compPost (model X.prog X.w) X.A X.xe none (EP X a7 σ Q) af C) B hc (hg · a7) (ht · a7) (he · a7) I2 T aq f2 q ?_
 intro D C m ys H' s' I' q' hn hC ae
 refine⟨m,hn,λh' c8=>⟨.ref D,_,I'.letgo hn hC I2.lt I2.cl_lt I2.pin_lt I2.sz ae c8,rfl,q'⟩⟩
def pe_lc(B:Blk X sc M ix)(hc:X.calm=true)(hi:PI X tg iter wi)(hg:∀C a7 ex s H,PG (zbx X sc M C a7 ex s H) tg g)(ht:∀C a7 ex s H,PTs (zbx X sc M C a7 ex s H) ifs tc)(he:∀C a7 ex s H,PE (zbx X sc M C a7 ex s H) elt te)(hs:∀x,foldedSetIterable iter X.env x=pure x:=by intro _;rfl):PE X (.ListComp elt [⟨tg,iter,ifs,0⟩] sc pos) (tLC ix wi g tc te):=pe_lcC B.g hc hi hg ht he hs
def ps_lc(hN:X.N.Nodup)(dy:X.N[i]?=some y)(hy:X.env.scope.names.lookup y=some .local)(B:Blk X sc M ix)(hc:X.calm=true)(hi:PI X tg iter wi)(hg:∀C a7 ex s H,PG (zbx X sc M C a7 ex s H) tg g)(ht:∀C a7 ex s H,PTs (zbx X sc M C a7 ex s H) ifs tc)(he:∀C a7 ex s H,PE (zbx X sc M C a7 ex s H) elt te)(ql:swapsWith (.ListComp elt [⟨tg,iter,ifs,0⟩] sc pos) (some (.Name y py)) spos.line X.env=pure true)(hs:∀x,foldedSetIterable iter X.env x=pure x:=by intro _;rfl):PS X (.Assign [.Name y py] (.ListComp elt [⟨tg,iter,ifs,0⟩] sc pos) spos) (tAsg (tLC ix wi g tc te) (gName i)):=by
 intro a7 s σ H D' I h
 rw[exec_Assign_Name_used _ _ _ _ ql]
 refine wpAny_bind (wpAny_standAt (wpAny_bind ?_))
 show wpAny _ X.A (do let _ ←comprehension (.ListComp elt [⟨tg,iter,ifs,0⟩] sc pos) sc X.env _ (newList []) false (eval iter X.env) (some (assign (.Name y py) X.env))) _ _ s
 refine wpAny_bind (wpAny_mono (wpAny_comprehension_free (use:=some (assign (.Name y py) X.env)) (Q:=λ_ s'=>SP X a7 D' .next s') rfl hs (zb2 (B.clos I)) B.kind B.names
  (thn (hi a7 s σ H _ I h) λv s1 h1=>thn h1 λitv s2 h2=>?_)) (λ_ s' hq=>wpAny_pure (wpAny_pure hq)) λ_ _ e=>e)
 obtain⟨it,fp,tn,J,H2,e,I2,T,aq,f2,q⟩:=h2
 subst e
 refine lc_block (RR:=λaf C=>compPost (model X.prog X.w) X.A X.xe (some (assign (.Name y py) X.env)) (λ_ s'=>SP X a7 D' .next s') af C) B hc (hg · a7) (ht · a7) (he · a7) I2 T aq f2 q ?_
 intro D C m ys H' s' I' q' hn hC ae
 show wpAny _ X.A (assign (.Name y py) X.env (.ref D)) _ _ s'
 refine wpAny_assign_Name (zfw I' hN dy (.inl hy) (v:=.ref D) rfl (λkL tU ⟨a,sb,ha⟩=>?_) (.inr hy))
 have aC:C≠a:=by
  rcases ha with z | z
  ·rw[z];exact Wg (Ws I2.lt ae)
  ·exact Wg (Ws (I2.cl_lt _ _ z) ae)
 have bg:=hn.sameBut sb aC
 exact⟨m,bg,λh' c8=>⟨_,_,tU.letgo bg hC I2.lt I2.cl_lt I2.pin_lt I2.sz ae c8,q'⟩⟩
end
end L2
end
section
namespace Tm
open PySem PyProof.Rows
def zgu:Bool→Keyed→Array Keyed→Nat→Nat→Nat→StateT SortSt Sem (Option Nat):=sortPriv% PySem.Builtin.gallop
def zem:Array Keyed→Array Keyed→StateT SortSt Sem (Array Keyed):=sortPriv% PySem.Builtin.mergeLo
def zen:Array Keyed→Array Keyed→StateT SortSt Sem (Array Keyed):=sortPriv% PySem.Builtin.mergeHi
section
variable{σ α β:Type}{M:Model}{A:Nn}{E:Nb}{s:Ng}{Q:α→σ→Prop}{st:σ}{c:Prop}[Decidable c]
def zb8(h:∀Q0:α→σ→Prop,(∀r a9,Q r a9→Q0 r a9)→wpS M A E s m Q0 st):wpS M A E s m Q st:=h Q λ_ _ z=>z
def jp_if{f:Unit→β→StateT σ Sem α}(h:∀z,wpS M A E s (f () z) Q st):wpS M A E s (if c then f () x else f () y) Q st:=by
 split
 ·exact h _
 ·exact h _
def zal{x y:StateT σ Sem α}(h1:c→wpS M A E s x Q st)(h2:¬c→wpS M A E s y Q st):wpS M A E s (if c then x else y) Q st:=by
 split
 next z=>exact h1 z
 next z=>exact h2 z
end
section
variable{prog:Ni}{w:Nl}{A:Nn}{E:Nb}{s:Ng}{kd:SortKind}{a₀:Array Keyed}
def Cmp(prog:Ni)(w:Nl)(A:Nn)(E:Nb)(s:Ng)(kd:SortKind)(a₀:Array Keyed):Prop :=
 ∀(x y:Keyed) (st:SortSt) (Q:Option Bool→SortSt→Prop),x∈a₀.toList→y∈a₀.toList→kindOf st=kd→(∀b,Q (some b) st)→wpS (model prog w) A E s (lt' x y) Q st
def Of(a₀ xs:Array Keyed):Prop:=∀(i:Nat) (p:Keyed),xs[i]?=some p→p∈a₀.toList
def zak{arr:Array Keyed}{i:Nat}{p:Keyed}{Q:Keyed→SortSt→Prop}{st:SortSt}(h:arr[i]?=some p)(q:Q p st):wpS (model prog w) A E s (elem' arr i) Q st:=by
 rw[elem'_eq,h];exact wpS_pure q
def zea(left:Bool)(ky:Keyed)(arr:Array Keyed)(i:Nat):StateT SortSt Sem (Option Bool):=do
 let x ←elem' arr i
 if left=true then lt' x ky else do
  let r ←lt' ky x
  pure (r.map λz=>!z)
def zex{left:Bool}{ky:Keyed}{arr:Array Keyed}{i:Nat}{Q:Option Bool→SortSt→Prop}{st:SortSt}(C:Cmp prog w A E s kd a₀)(hk:kindOf st=kd)(hO:Of a₀ arr)(hy:ky∈a₀.toList)(hi:i<arr.size)(q:∀b,Q (some b) st):wpS (model prog w) A E s (zea left ky arr i) Q st:=by
 have e:=getElem?_pos arr i hi
 unfold zea
 refine wpS_bind (zak e ?_)
 have m:=hO _ _ e
 cases left with
 |true=>exact C _ _ _ _ m hy hk q
 |false=>exact wpS_bind (C _ _ _ _ hy m hk λb=>wpS_pure (q _))
def za6{left:Bool}{ky:Keyed}{arr:Array Keyed}{base n hint:Nat}{Q:Option Nat→SortSt→Prop}{st:SortSt}(C:Cmp prog w A E s kd a₀)(hk:kindOf st=kd)(hO:Of a₀ arr)(hy:ky∈a₀.toList)(hb:base+n≤arr.size)(hh:hint<n)(h:∀k,k≤n→Q (some k) st):wpS (model prog w) A E s (zgu left ky arr base n hint) Q st:=by
 have ask:∀{i:Nat} {Q':Option Bool→SortSt→Prop},i<n→(∀b,Q' (some b) st)→wpS (model prog w) A E s (zea left ky arr (base+i)) Q' st:=λ{i Q'} hi q=>zex C hk hO hy (by omega) q
 have last:∀(f:Nat→(Option (Option Nat)×Nat×Nat)→StateT SortSt Sem (ForInStep (Option (Option Nat)×Nat×Nat))) (lo hi:Nat),lo≤hi→hi≤n →
   (∀x l r Q',l≥r→Q' (ForInStep.done (none,l,r)) st→wpS (model prog w) A E s (f x (none,l,r)) Q' st) →
   (∀x l r Q',¬l≥r→r≤n→Q' (ForInStep.yield (none,l+(r-l)/2+1,r)) st→Q' (ForInStep.yield (none,l,l+(r-l)/2)) st→wpS (model prog w) A E s (f x (none,l,r)) Q' st) →
   wpS (model prog w) A E s (forIn [:n] (none,lo,hi) f) (λc a9=>a9=st∧∃k,c=(none,k,k)∧k≤n) st:=by
  intro f lo hi h1 h2 f1 f2
  refine wpS_forRange (I:=λx c a9=>Aj2 (a9=st) (Ex2 λl r=>Aj4 (c=(none,l,r)) (l≤r) (r≤n) (r-l≤n-x))) ?step ?fin ?init
  case init=>exact⟨rfl,lo,hi,rfl,h1,h2,by omega⟩
  case fin =>
   rintro c a9 ⟨rfl,l,r,rfl,a1,a2,a3⟩
   have:l=r:=by omega
   subst this
   exact⟨rfl,l,rfl,a2⟩
  case step =>
   rintro x c a9 _ hx ⟨rfl,l,r,rfl,a1,a2,a3⟩
   by_cases aL:l≥r
   ·refine f1 x l r _ aL ?_
    have:l=r:=Ji a1 aL
    subst this
    exact⟨rfl,l,rfl,a2⟩
   ·exact f2 x l r _ aL a2 ⟨rfl,_,_,rfl,by omega,a2,by omega⟩ ⟨rfl,_,_,rfl,Zy _ _,by omega,by omega⟩
 unfold zgu
 refine wpS_bind (ask (i:=hint) hh λb0=>?_)
 cases b0 with
 | true =>
  refine wpS_bind (wpS_mono (wpS_forRange
   (I:=λx c a9=>Aj2 (a9=st) (Ex2 λla of=>Aj4 (c=(none,la,of)) (hint+la<n) (la<of) (x<of)))
   (Q:=λc a9=>Aj2 (a9=st) (Ex2 λla of=>Aj3 (c=(none,la,of)) (hint+la<n) (la<of))) ?step ?fin ?init) ?post)
  case init=>exact⟨rfl,0,1,rfl,hh,Qd _,Qd _⟩
  case fin =>
   rintro c a9 ⟨rfl,la,of,rfl,a2,a3,a4⟩
   exact⟨rfl,la,of,rfl,a2,a3⟩
  case step =>
   rintro x c a9 _ hx ⟨rfl,la,of,rfl,a2,a3,a4⟩
   dsimp only
   refine zal (λ_=>wpS_pure ⟨rfl,la,of,rfl,a2,a3⟩) λaL=>wpS_bind (ask (i:=hint+of) (by omega) λb=>?_)
   cases b with
   |true=>exact wpS_pure ⟨rfl,of,2*of+1,rfl,by omega,by omega,by omega⟩
   |false=>exact wpS_pure ⟨rfl,la,of,rfl,a2,a3⟩
  case post =>
   rintro c a9 ⟨rfl,la,of,rfl,a2,a3⟩
   refine wpS_bind (wpS_mono (last _ (hint+la+1) (hint+min of (n-hint)) (by omega) (by omega) ?_ ?_) ?_)
   ·intro x l r Q' aL q
    exact zal (λ_=>wpS_pure q) λz=>absurd aL z
   ·intro x l r Q' aL hr q1 q2
    refine zal (λz=>absurd z aL) λ_=>wpS_bind (ask (i:=l+(r-l)/2) (by omega) λb=>?_)
    cases b with
    |true=>exact wpS_pure q1
    |false=>exact wpS_pure q2
   ·rintro c a9 ⟨rfl,k,rfl,b1⟩
    exact wpS_pure (h k b1)
 | false =>
  refine wpS_bind (wpS_mono (wpS_forRange
   (I:=λx c a9=>Aj2 (a9=st) (Ex2 λla of=>Aj4 (c=(none,la,of)) (la≤hint) (la<of) (x<of)))
   (Q:=λc a9=>Aj2 (a9=st) (Ex2 λla of=>Aj3 (c=(none,la,of)) (la≤hint) (la<of))) ?step ?fin ?init) ?post)
  case init=>exact⟨rfl,0,1,rfl,Zh _,Qd _,Qd _⟩
  case fin =>
   rintro c a9 ⟨rfl,la,of,rfl,a2,a3,a4⟩
   exact⟨rfl,la,of,rfl,a2,a3⟩
  case step =>
   rintro x c a9 _ hx ⟨rfl,la,of,rfl,a2,a3,a4⟩
   dsimp only
   refine zal (λ_=>wpS_pure ⟨rfl,la,of,rfl,a2,a3⟩) λaL=>wpS_bind (ask (i:=hint-of) (by omega) λb=>?_)
   cases b with
   |true=>exact wpS_pure ⟨rfl,la,of,rfl,a2,a3⟩
   |false=>exact wpS_pure ⟨rfl,of,2*of+1,rfl,by omega,by omega,by omega⟩
  case post =>
   rintro c a9 ⟨rfl,la,of,rfl,a2,a3⟩
   refine wpS_bind (wpS_mono (last _ (hint+1-min of (hint+1)) (hint-la) (by omega) (by omega) ?_ ?_) ?_)
   ·intro x l r Q' aL q
    exact zal (λ_=>wpS_pure q) λz=>absurd aL z
   ·intro x l r Q' aL hr q1 q2
    refine zal (λz=>absurd z aL) λ_=>wpS_bind (ask (i:=l+(r-l)/2) (by omega) λb=>?_)
    cases b with
    |true=>exact wpS_pure q1
    |false=>exact wpS_pure q2
   ·rintro c a9 ⟨rfl,k,rfl,b1⟩
    exact wpS_pure (h k b1)
end
section
variable{prog:Ni}{w:Nl}{A:Nn}{E:Nb}{s:Ng}{kd:SortKind}{a₀:Array Keyed}
variable{all out ra rb seg:List Keyed}
def Pm(all out ra rb:List Keyed):Prop:=(out++(ra++rb)).Perm all
def Pm.appA(j:Pm all out (seg++ra) rb):Pm all (out++seg) ra rb:=by
 unfold Pm at *
 rw[Qp,←Qp seg];exact j
def Pm.appB(j:Pm all out ra (seg++rb)):Pm all (out++seg) ra rb:=by
 unfold Pm at *
 rw[Qp]
 refine List.Perm.trans (Zx _ ?_) j
 rw[←Qp,←Qp]
 exact Wc.append_right _
def zbr{a:Array Keyed}{i:Nat}(h:i<a.size):a.toList.drop i=a[i]::a.toList.drop (i+1):=by
 rw[We (by simpa using h)];simp
def za9{a:Array Keyed}{i:Nat}:(a.extract i a.size).toList=a.toList.drop i:=by
 simp[Qu]
def zcn{a:Array Keyed}{i k:Nat}(h:i+k≤a.size):(a.extract i (i+k)).toList++a.toList.drop (i+k)=a.toList.drop i:=by
 rw[Array.toList_extract,Kw]
 have:i+k-i=k:=by omega
 rw[this,←List.drop_drop,Zl]
abbrev Pa(a b o:Array Keyed)(i k:Nat):Prop:=Pm (a.toList++b.toList) o.toList (a.toList.drop i) (b.toList.drop k)
variable{a b o:Array Keyed}{i k n:Nat}
def Pa.pushA(j:Pa a b o i k)(h:i<a.size):Pa a b (o.push a[i]) (i+1) k:=by
 have:=Pm.appA (seg:=[a[i]]) (ra:=a.toList.drop (i+1)) (by rw[Xx,←zbr h];exact j)
 rwa[←Wp]at this
def Pa.pushB(j:Pa a b o i k)(h:k<b.size):Pa a b (o.push b[k]) i (k+1):=by
 have:=Pm.appB (seg:=[b[k]]) (rb:=b.toList.drop (k+1)) (by rw[Xx,←zbr h];exact j)
 rwa[←Wp]at this
def Pa.runA(j:Pa a b o i k)(h:i+n≤a.size):Pa a b (o++a.extract i (i+n)) (i+n) k:=by
 have:=Pm.appA (seg:=(a.extract i (i+n)).toList) (ra:=a.toList.drop (i+n)) (by rw[zcn h];exact j)
 show Pm _ (o++a.extract i (i+n)).toList _ _
 rw[Ze];exact this
def Pa.runB(j:Pa a b o i k)(h:k+n≤b.size):Pa a b (o++b.extract k (k+n)) i (k+n):=by
 have:=Pm.appB (seg:=(b.extract k (k+n)).toList) (rb:=b.toList.drop (k+n)) (by rw[zcn h];exact j)
 show Pm _ (o++b.extract k (k+n)).toList _ _
 rw[Ze];exact this
def Pa.end1(j:Pa a b o i k):(o++a.extract i++b.extract k).toList.Perm (a.toList++b.toList):=by
 rw[Ze,Ze,za9,za9,Qp];exact j
def Pa.end2(j:Pa a b o i k):(o++b.extract k++a.extract i).toList.Perm (a.toList++b.toList):=by
 rw[Ze,Ze,za9,za9,Qp]
 exact(Zx _ Wc).trans j
def SG(st a9:SortSt):Prop:=∃g,a9=SortSt.mk' (kindOf st) (arrOf st) (pendingOf st) g (failedOf st)
def zd4{Q:Array Keyed→SortSt→Prop}{st:SortSt}(C:Cmp prog w A E s kd a₀)(hk:kindOf st=kd)(oa:Of a₀ a)(ob:Of a₀ b)(ha:0 < a.size)(hb:0 < b.size)(h:∀(res:Array Keyed) (a9:SortSt),res.toList.Perm (a.toList++b.toList)→SG st a9→Q res a9):wpS (model prog w) A E s (zem a b) Q st:=by
 have ia_:∀i (hi:i<a.size),a[i]∈a₀.toList:=λi hi=>oa i _ (getElem?_pos a i hi)
 have ib_:∀i (hi:i<b.size),b[i]∈a₀.toList:=λi hi=>ob i _ (getElem?_pos b i hi)
 have ea:∀i (hi:i<a.size),a[i]?=some a[i]:=λi hi=>getElem?_pos a i hi
 have eb:∀i (hi:i<b.size),b[i]?=some b[i]:=λi hi=>getElem?_pos b i hi
 have sgk:∀{a9},SG st a9→kindOf a9=kd:=λ⟨g,e⟩=>by rw[e];exact hk
 unfold zem
 refine wpS_bind (wpS_lift (wpAny_rule ⟨rfl,?_⟩))
 refine wpS_bind (zak (eb 0 hb) ?_)
 have j0:Pa a b (#[b[0]]:Array Keyed) 0 1:=by
  have j:Pa a b (#[]:Array Keyed) 0 0:=by show List.Perm _ _;simp
  exact j.pushB hb
 refine zal (λc1=>wpS_pure (h _ _ j0.end1 ⟨_,rfl⟩)) λc1=>zal (λc2=>wpS_pure (h _ _ j0.end2 ⟨_,rfl⟩)) λc2=>?_
 have tu:¬b.size=1:=λz=>c1 (by simp[z])
 have c2':¬a.size=1:=λz=>c2 (by simp[z])
 refine wpS_bind (wpS_get ?_)
 refine wpS_bind (wpS_mono (wpS_forRange
  (I:=λx c a9=>Aj2 (SG st a9) (Ex4 λo i k g=>Aj5 (c=(none,o,i,k,g)) (i+1<a.size) (k<b.size) (Pa a b o i k) (x≤i+k)))
  (Q:=λc a9=>Aj2 (SG st a9) (Ex2 λres r=>Aj2 (c=(some res,r)) (res.toList.Perm (a.toList++b.toList)))) ?step ?fin ?init) ?post)
 case init=>exact⟨⟨_,rfl⟩,_,0,1,_,rfl,by omega,by omega,j0,by omega⟩
 case fin =>
  rintro c a9 ⟨_,o,i,k,g,rfl,a1,a2,a3,a4⟩
  exfalso;omega
 case post =>
  rintro c a9 ⟨g,res,r,rfl,m⟩
  exact wpS_pure (h res a9 m g)
 case step =>
  rintro x c ak _ hx ⟨g1,o1,i1,k1,mg,rfl,a1,a2,a3,a4⟩
  dsimp -zeta only
  refine wpS_bind (wpS_mono (wpS_forRange
   (I:=λy c a9=>Aj2 (a9=ak) (Ex5 λo i k ac bc=>Aj5 (c=(none,o,i,k,ac,bc)) (i+1<a.size) (k<b.size) (Pa a b o i k) (i1+k1+y≤i+k)))
   (Q:=λc a9=>Aj2 (a9=ak) ((Ex2 λres r=>Aj2 (c=(some res,r)) (res.toList.Perm (a.toList++b.toList)))∨Ex5 λo i k ac bc=>Aj5 (c=(none,o,i,k,ac,bc)) (i+1<a.size) (k<b.size) (Pa a b o i k) (i1+k1<i+k))) ?step1 ?fin1 ?init1) ?post1)
  case init1=>exact⟨rfl,o1,i1,k1,0,0,rfl,a1,a2,a3,Qd _⟩
  case fin1 =>
   rintro c a9 ⟨_,o,i,k,ac,bc,rfl,b1,b2,b3,b4⟩
   exfalso;omega
  case step1 =>
   rintro y c aq _ hy ⟨rfl,o,i,k,ac,bc,rfl,b1,b2,b3,b4⟩
   have oT:i<a.size:=by omega
   dsimp -zeta only
   refine wpS_bind (zak (eb k b2) (wpS_bind (zak (ea i oT) (wpS_bind (C _ _ _ _ (ib_ k b2) (ia_ i oT) (sgk g1) λe=>?_)))))
   dsimp -zeta only
   refine zal (λ_=>?_) (λ_=>?_)
   ·refine wpS_bind (zak (eb k b2) ?_)
    have j:=b3.pushB b2
    refine zal (λ_=>wpS_pure ⟨rfl,.inl ⟨_,_,rfl,j.end1⟩⟩) λd1=>?_
    have nz:¬k+1=b.size:=λz=>d1 (beq_iff_eq.mpr z)
    exact zal (λ_=>wpS_pure ⟨rfl,.inr ⟨_,i,k+1,_,_,rfl,b1,by omega,j,by omega⟩⟩) λ_=>wpS_pure ⟨rfl,_,i,k+1,_,_,rfl,b1,by omega,j,by omega⟩
   ·refine wpS_bind (zak (ea i oT) ?_)
    have j:=b3.pushA oT
    refine zal (λ_=>wpS_pure ⟨rfl,.inl ⟨_,_,rfl,j.end2⟩⟩) λd1=>?_
    have nz:¬i+1+1=a.size:=λz=>d1 (beq_iff_eq.mpr z)
    exact zal (λ_=>wpS_pure ⟨rfl,.inr ⟨_,i+1,k,_,_,rfl,by omega,b2,j,by omega⟩⟩) λ_=>wpS_pure ⟨rfl,_,i+1,k,_,_,rfl,by omega,b2,j,by omega⟩
  case post1 =>
   rintro c aq ⟨rfl,⟨res,r,rfl,m⟩ | ⟨o2,i2,k2,tS,tw,rfl,b1,b2,b3,b4⟩⟩
   ·exact wpS_pure ⟨g1,res,_,rfl,m⟩
   dsimp -zeta only
   refine wpS_bind (wpS_lift (wpAny_rule ⟨rfl,?_⟩))
   refine wpS_bind (wpS_mono (wpS_forRange
    (I:=λy c a9=>Aj2 (SG st a9) (Ex6 λo i k g ac bc=>Aj5 (c=(none,o,i,k,g,ac,bc)) (i+1<a.size) (k<b.size) (Pa a b o i k) (i2+k2≤i+k)))
    (Q:=λc a9=>Aj2 (SG st a9) ((Ex2 λres r=>Aj2 (c=(some res,r)) (res.toList.Perm (a.toList++b.toList)))∨Ex6 λo i k g ac bc=>Aj5 (c=(none,o,i,k,g,ac,bc)) (i+1<a.size) (k<b.size) (Pa a b o i k) (i2+k2≤i+k))) ?step2 ?fin2 ?init2) ?post2)
   case init2=>exact⟨g1,o2,i2,k2,_,_,_,rfl,b1,b2,b3,Qd _⟩
   case fin2 =>
    rintro c a9 ⟨g,o,i,k,g',ac,bc,rfl,c1,c2,c3,c4⟩
    exact⟨g,.inr ⟨o,i,k,g',ac,bc,rfl,c1,c2,c3,c4⟩⟩
   case post2 =>
    rintro c ai ⟨g3,⟨res,r,rfl,m⟩ | ⟨o3,i3,k3,g',jL,jJ,rfl,c1,c2,c3,c4⟩⟩
    ·exact wpS_pure ⟨g3,res,_,rfl,m⟩
    dsimp -zeta only
    refine wpS_bind (wpS_modify ?_)
    obtain⟨gg,e3⟩:=g3
    exact wpS_pure ⟨⟨_,by rw[e3]⟩,o3,i3,k3,_,rfl,c1,c2,c3,by omega⟩
   case step2 =>
    rintro y c ai _ hy ⟨g3,o3,i3,k3,pE,jL,jJ,rfl,c1,c2,c3,c4⟩
    refine zb8 λQ0 aD=>?_
    dsimp -zeta only
    have sgm:∀g',SG st (SortSt.mk' (kindOf ai) (arrOf ai) (pendingOf ai) g' (failedOf ai)):=λg'=>by
     obtain⟨g,e⟩:=g3
     exact⟨g',by rw[e]⟩
    extract_lets -underBinder +onlyGivenNames s1 out s2 ia s3 ib s4 mn s5 ac bc jp
    refine jp_if (f:=jp) λm'=>?_
    refine wpS_bind (wpS_modify ?_)
    refine wpS_bind (zak (eb k3 c2) ?_)
    refine wpS_bind (za6 (base:=i3) (n:=a.size-i3) (hint:=0) C (sgk (sgm _)) oa (ib_ k3 c2) (by omega) (by omega) λk q1=>?_)
    dsimp -zeta only
    have jr:=c3.runA (n:=k) (by omega)
    extract_lets -underBinder +onlyGivenNames ac' jp2
    have h2:∀(n':Nat) (o':Array Keyed) (f1:n'+1<a.size),i3≤n'→Pa a b o' n' k3→wpS (model prog w) A E s (jp2 () o' n') Q0 (SortSt.mk' (kindOf ai) (arrOf ai) (pendingOf ai) m' (failedOf ai)):=by
     intro n' o' f1 f2 fJ
     have f0:n'<a.size:=by omega
     refine wpS_bind (zak (eb k3 c2) ?_)
     have fK:=fJ.pushB c2
     refine zal (λ_=>wpS_pure (aD _ _ ⟨sgm _,.inl ⟨_,_,rfl,fK.end1⟩⟩)) λd=>?_
     have d':¬k3+1=b.size:=λz=>d (beq_iff_eq.mpr z)
     refine wpS_bind (zak (ea n' f0) ?_)
     refine wpS_bind (za6 (base:=k3+1) (n:=b.size-(k3+1)) (hint:=0) C (sgk (sgm _)) ob (ia_ n' f0) (by omega) (by omega) λk' r1=>?_)
     dsimp -zeta only
     have js:=fK.runB (n:=k') (by omega)
     extract_lets -underBinder +onlyGivenNames bc' jp3
     have h3:∀(m2:Nat) (o2:Array Keyed) (p1:m2<b.size),k3+1≤m2→Pa a b o2 n' m2→wpS (model prog w) A E s (jp3 () o2 m2) Q0 (SortSt.mk' (kindOf ai) (arrOf ai) (pendingOf ai) m' (failedOf ai)):=by
      intro m2 o2 p1 p2 pJ
      refine wpS_bind (zak (ea n' f0) ?_)
      have pK:=pJ.pushA f0
      refine zal (λ_=>wpS_pure (aD _ _ ⟨sgm _,.inl ⟨_,_,rfl,pK.end2⟩⟩)) λd=>?_
      have d2:¬n'+1+1=a.size:=λz=>d (beq_iff_eq.mpr z)
      exact zal (λ_=>wpS_pure (aD _ _ ⟨sgm _,.inr ⟨_,n'+1,m2,_,_,_,rfl,by omega,p1,pK,by omega⟩⟩)) λ_=>wpS_pure (aD _ _ ⟨sgm _,_,n'+1,m2,_,_,_,rfl,by omega,p1,pK,by omega⟩)
     refine zal (λkz=>?_) (λkz=>?_)
     ·refine zal (fun _=>wpS_pure (aD _ _ ⟨sgm _,.inl ⟨_,_,rfl,js.end1⟩⟩)) fun d4=>?_
      have tt:¬k3+1+k'=b.size:=λz=>d4 (beq_iff_eq.mpr z)
      exact h3 (k3+1+k') _ (by omega) (Zy _ _) js
     ·exact h3 (k3+1) _ (by omega) (Qd _) fK
    refine zal (λkz=>?_) (λkz=>?_)
    ·refine zal (fun _=>wpS_pure (aD _ _ ⟨sgm _,.inl ⟨_,_,rfl,jr.end2⟩⟩)) fun d=>zal (fun _=>wpS_pure (aD _ _ ⟨sgm _,.inl ⟨_,_,rfl,jr.end1⟩⟩)) fun e=>?_
     have d':¬i3+k+1=a.size:=λz=>d (beq_iff_eq.mpr z)
     have e':¬i3+k=a.size:=λz=>e (beq_iff_eq.mpr z)
     exact h2 (i3+k) _ (by omega) (Zy _ _) jr
    ·exact h2 i3 _ c1 (Qd _) c3
end
section
variable{prog:Ni}{w:Nl}{A:Nn}{E:Nb}{s:Ng}{kd:SortKind}{a₀:Array Keyed}
variable{a b o:Array Keyed}{na nb at_:Nat}
def zb1:(a.extract 0 n).toList=a.toList.take n:=by simp
def zfl{a:Array Keyed}{i n:Nat}(hi:i≤n)(h:n≤a.size):a.toList.take i++(a.extract i n).toList=a.toList.take n:=by
 rw[Array.toList_extract,Kw]
 have e:a.toList.take i=(a.toList.take n).take i:=by rw[List.take_take];congr 1;omega
 have e2:(a.toList.drop i).take (n-i)=(a.toList.take n).drop i:=by rw[List.drop_take]
 rw[e,e2,Zl]
def Ph(a b o:Array Keyed)(na nb:Nat):Prop:=(a.toList.take na++(b.toList.take nb++o.toList)).Perm (a.toList++b.toList)
def mvA{t sg kK u r all:List Keyed}(h:((t++sg)++(u++r)).Perm all)(hs:kK.Perm sg):(t++(u++(r++kK))).Perm all:=by
 refine List.Perm.trans ?_ h
 rw[Qp,←Qp u]
 exact Zx _ ((Zx _ hs).trans Wc)
def mvB{t sg kK u r all:List Keyed}(h:(t++((u++sg)++r)).Perm all)(hs:kK.Perm sg):(t++(u++(r++kK))).Perm all:=by
 refine List.Perm.trans ?_ h
 rw[Qp]
 exact Zx _ (Zx _ ((Zx _ hs).trans Wc))
def Ph.runA(j:Ph a b o na nb)(hi:at_≤na)(h:na≤a.size):Ph a b (o++(a.extract at_ na).reverse) at_ nb:=by
 unfold Ph at *
 rw[←zfl hi h]at j
 rw[Ze,Wl]
 exact mvA j (Uc _)
def Ph.runB(j:Ph a b o na nb)(hi:at_≤nb)(h:nb≤b.size):Ph a b (o++(b.extract at_ nb).reverse) na at_:=by
 unfold Ph at *
 rw[←zfl hi h]at j
 rw[Ze,Wl]
 exact mvB j (Uc _)
def Ph.pushA(j:Ph a b o (na+1) nb)(h:na<a.size):Ph a b (o.push a[na]) na nb:=by
 unfold Ph at *
 rw[Qo (by simpa using h)]at j
 rw[Wp]
 exact mvA j (by simp)
def Ph.pushB(j:Ph a b o na (nb+1))(h:nb<b.size):Ph a b (o.push b[nb]) na nb:=by
 unfold Ph at *
 rw[Qo (by simpa using h)]at j
 rw[Wp]
 exact mvB j (by simp)
def Ph.end1(j:Ph a b o na nb):(a.extract 0 na++b.extract 0 nb++o.reverse).toList.Perm (a.toList++b.toList):=by
 rw[Ze,Ze,Wl,zb1,zb1,Qp]
 exact(Zx _ (Zx _ (Uc _))).trans j
def Ph.end2(j:Ph a b o na nb):(b.extract 0 nb++a.extract 0 na++o.reverse).toList.Perm (a.toList++b.toList):=by
 rw[Ze,Ze,Wl,zb1,zb1]
 refine List.Perm.trans ?_ j
 rw[←Qp]
 exact(Wc).append (Uc _)
def zd5{Q:Array Keyed→SortSt→Prop}{st:SortSt}(C:Cmp prog w A E s kd a₀)(hk:kindOf st=kd)(oa:Of a₀ a)(ob:Of a₀ b)(ha:0 < a.size)(hb:0 < b.size)(h:∀(res:Array Keyed) (a9:SortSt),res.toList.Perm (a.toList++b.toList)→SG st a9→Q res a9):wpS (model prog w) A E s (zen a b) Q st:=by
 have ia_:∀i (hi:i<a.size),a[i]∈a₀.toList:=λi hi=>oa i _ (getElem?_pos a i hi)
 have ib_:∀i (hi:i<b.size),b[i]∈a₀.toList:=λi hi=>ob i _ (getElem?_pos b i hi)
 have ea:∀i (hi:i<a.size),a[i]?=some a[i]:=λi hi=>getElem?_pos a i hi
 have eb:∀i (hi:i<b.size),b[i]?=some b[i]:=λi hi=>getElem?_pos b i hi
 have sgk:∀{a9},SG st a9→kindOf a9=kd:=λ⟨g,e⟩=>by rw[e];exact hk
 obtain⟨n0,hn0⟩:∃n0,a.size=n0+1:=⟨a.size-1,by omega⟩
 have eF:n0<a.size:=by omega
 have j0:Ph a b (#[a[n0]]:Array Keyed) n0 b.size:=by
  have j:Ph a b (#[]:Array Keyed) (n0+1) b.size:=by
   have e1:a.toList.take (n0+1)=a.toList:=Qu (by simp;omega)
   have e2:b.toList.take b.size=b.toList:=Qu (by simp)
   unfold Ph;rw[e1,e2];simp
  exact j.pushA eF
 unfold zen
 refine wpS_bind (wpS_lift (wpAny_rule ⟨rfl,?_⟩))
 have e2:a.size-1=n0:=by omega
 simp -zeta only [e2]
 refine wpS_bind (zak (ea n0 eF) ?_)
 refine zal (λc1=>wpS_pure (h _ _ j0.end1 ⟨_,rfl⟩)) λc1=>zal (λc2=>wpS_pure (h _ _ j0.end2 ⟨_,rfl⟩)) λc2=>?_
 have tu:¬n0=0:=λz=>c1 (by simp[z])
 have c2':¬b.size=1:=λz=>c2 (by simp[z])
 refine wpS_bind (wpS_get ?_)
 obtain⟨n1,rfl⟩:∃n1,n0=n1+1:=⟨n0-1,by omega⟩
 obtain⟨m1,bh⟩:∃m1,b.size=m1+1+1:=⟨b.size-2,by omega⟩
 rw[bh]at j0
 refine wpS_bind (wpS_mono (wpS_forRange
  (I:=λx c a9=>Aj2 (SG st a9) (Ex4 λo i k g=>Aj5 (c=(none,i+1,k+1+1,o,g)) (i<a.size) (k+1<b.size) (Ph a b o (i+1) (k+1+1)) (i+k+x+4≤a.size+b.size)))
  (Q:=λc a9=>Aj2 (SG st a9) (Ex2 λres r=>Aj2 (c=(some res,r)) (res.toList.Perm (a.toList++b.toList)))) ?step ?fin ?init) ?post)
 case init=>exact⟨⟨_,rfl⟩,_,n1,m1,_,by rw[bh],by omega,by omega,j0,by omega⟩
 case fin =>
  rintro c a9 ⟨_,o,i,k,g,rfl,a1,a2,a3,a4⟩
  exfalso;omega
 case post =>
  rintro c a9 ⟨g,res,r,rfl,m⟩
  exact wpS_pure (h res a9 m g)
 case step =>
  rintro x c ak _ hx ⟨g1,o1,i1,k1,mg,rfl,a1,a2,a3,a4⟩
  dsimp -zeta only
  refine wpS_bind (wpS_mono (wpS_forRange
   (I:=λy c a9=>Aj2 (a9=ak) (Ex5 λo i k ac bc=>Aj5 (c=(none,i+1,k+1+1,o,ac,bc)) (i<a.size) (k+1<b.size) (Ph a b o (i+1) (k+1+1)) (i+k+y≤i1+k1)))
   (Q:=λc a9=>Aj2 (a9=ak) ((Ex2 λres r=>Aj2 (c=(some res,r)) (res.toList.Perm (a.toList++b.toList)))∨Ex5 λo i k ac bc=>Aj5 (c=(none,i+1,k+1+1,o,ac,bc)) (i<a.size) (k+1<b.size) (Ph a b o (i+1) (k+1+1)) (i+k<i1+k1))) ?step1 ?fin1 ?init1) ?post1)
  case init1=>exact⟨rfl,o1,i1,k1,0,0,rfl,a1,a2,a3,Qd _⟩
  case fin1 =>
   rintro c a9 ⟨_,o,i,k,ac,bc,rfl,b1,b2,b3,b4⟩
   exfalso;omega
  case step1 =>
   rintro y c aq _ hy ⟨rfl,o,i,k,ac,bc,rfl,b1,b2,b3,b4⟩
   dsimp -zeta only
   refine wpS_bind (zak (eb (k+1) b2) (wpS_bind (zak (ea i b1) (wpS_bind (C _ _ _ _ (ib_ (k+1) b2) (ia_ i b1) (sgk g1) λe=>?_)))))
   dsimp -zeta only
   refine zal (λ_=>?_) (λ_=>?_)
   ·refine wpS_bind (zak (ea i b1) ?_)
    have j:=b3.pushA b1
    refine zal (λ_=>wpS_pure ⟨rfl,.inl ⟨_,_,rfl,j.end1⟩⟩) λd1=>?_
    have nz:¬i=0:=λz=>d1 (beq_iff_eq.mpr z)
    cases i with
    |zero=>exact absurd rfl nz
    |succ i'=>exact zal (λ_=>wpS_pure ⟨rfl,.inr ⟨_,i',k,_,_,rfl,by omega,b2,j,by omega⟩⟩) λ_=>wpS_pure ⟨rfl,_,i',k,_,_,rfl,by omega,b2,j,by omega⟩
   ·refine wpS_bind (zak (eb (k+1) b2) ?_)
    have j:=b3.pushB b2
    refine zal (λ_=>wpS_pure ⟨rfl,.inl ⟨_,_,rfl,j.end2⟩⟩) λd1=>?_
    have nz:¬k+1=1:=λz=>d1 (beq_iff_eq.mpr z)
    cases k with
    |zero=>exact absurd rfl nz
    |succ k'=>exact zal (λ_=>wpS_pure ⟨rfl,.inr ⟨_,i,k',_,_,rfl,b1,by omega,j,by omega⟩⟩) λ_=>wpS_pure ⟨rfl,_,i,k',_,_,rfl,b1,by omega,j,by omega⟩
  case post1 =>
   rintro c aq ⟨rfl,⟨res,r,rfl,m⟩ | ⟨o2,i2,k2,tS,tw,rfl,b1,b2,b3,b4⟩⟩
   ·exact wpS_pure ⟨g1,res,_,rfl,m⟩
   dsimp -zeta only
   refine wpS_bind (wpS_lift (wpAny_rule ⟨rfl,?_⟩))
   refine wpS_bind (wpS_mono (wpS_forRange
    (I:=λy c a9=>Aj2 (SG st a9) (Ex6 λo i k g ac bc=>Aj5 (c=(none,i+1,k+1+1,o,g,ac,bc)) (i<a.size) (k+1<b.size) (Ph a b o (i+1) (k+1+1)) (i+k≤i2+k2)))
    (Q:=λc a9=>Aj2 (SG st a9) ((Ex2 λres r=>Aj2 (c=(some res,r)) (res.toList.Perm (a.toList++b.toList)))∨Ex6 λo i k g ac bc=>Aj5 (c=(none,i+1,k+1+1,o,g,ac,bc)) (i<a.size) (k+1<b.size) (Ph a b o (i+1) (k+1+1)) (i+k≤i2+k2))) ?step2 ?fin2 ?init2) ?post2)
   case init2=>exact⟨g1,o2,i2,k2,_,_,_,rfl,b1,b2,b3,Qd _⟩
   case fin2 =>
    rintro c a9 ⟨g,o,i,k,g',ac,bc,rfl,c1,c2,c3,c4⟩
    exact⟨g,.inr ⟨o,i,k,g',ac,bc,rfl,c1,c2,c3,c4⟩⟩
   case post2 =>
    rintro c ai ⟨g3,⟨res,r,rfl,m⟩ | ⟨o3,i3,k3,g',jL,jJ,rfl,c1,c2,c3,c4⟩⟩
    ·exact wpS_pure ⟨g3,res,_,rfl,m⟩
    dsimp -zeta only
    refine wpS_bind (wpS_modify ?_)
    obtain⟨gg,e3⟩:=g3
    exact wpS_pure ⟨⟨_,by rw[e3]⟩,o3,i3,k3,_,rfl,c1,c2,c3,by omega⟩
   case step2 =>
    rintro y c ai _ hy ⟨g3,o3,i3,k3,pE,jL,jJ,rfl,c1,c2,c3,c4⟩
    refine zb8 λQ0 aD=>?_
    dsimp -zeta only
    have sgm:∀g',SG st (SortSt.mk' (kindOf ai) (arrOf ai) (pendingOf ai) g' (failedOf ai)):=λg'=>by
     obtain⟨g,e⟩:=g3
     exact⟨g',by rw[e]⟩
    extract_lets -underBinder +onlyGivenNames s1 na s2 nb s3 out s4 mn s5 ac bc jp
    refine jp_if (f:=jp) λm'=>?_
    refine wpS_bind (wpS_modify ?_)
    refine wpS_bind (zak (eb (k3+1) c2) ?_)
    refine wpS_bind (za6 (n:=i3+1) (hint:=i3) C (sgk (sgm _)) oa (ib_ (k3+1) c2) (by omega) (by omega) λfC q1=>?_)
    dsimp -zeta only
    have jr:=c3.runA (at_:=fC) q1 (by omega)
    extract_lets -underBinder +onlyGivenNames kk ac' jp2
    have h2:∀(n':Nat) (o':Array Keyed) (f1:n'<a.size),n'≤i3→Ph a b o' (n'+1) (k3+1+1)→wpS (model prog w) A E s (jp2 () (n'+1) o') Q0 (SortSt.mk' (kindOf ai) (arrOf ai) (pendingOf ai) m' (failedOf ai)):=by
     intro n' o' f1 f2 fJ
     refine wpS_bind (zak (eb (k3+1) c2) ?_)
     have fK:=fJ.pushB c2
     refine zal (λ_=>wpS_pure (aD _ _ ⟨sgm _,.inl ⟨_,_,rfl,fK.end2⟩⟩)) λd=>?_
     have d':¬k3+1=1:=λz=>d (beq_iff_eq.mpr z)
     refine wpS_bind (zak (ea n' f1) ?_)
     refine wpS_bind (za6 (n:=k3+1) (hint:=k3) C (sgk (sgm _)) ob (ia_ n' f1) (by omega) (by omega) λdD r1=>?_)
     dsimp -zeta only
     have js:=fK.runB (at_:=dD) r1 (by omega)
     extract_lets -underBinder +onlyGivenNames pL bc' jp3
     have h3:∀(m2:Nat) (o2:Array Keyed) (p1:m2+1<b.size),m2≤k3→Ph a b o2 (n'+1) (m2+1+1)→wpS (model prog w) A E s (jp3 () (m2+1+1) o2) Q0 (SortSt.mk' (kindOf ai) (arrOf ai) (pendingOf ai) m' (failedOf ai)):=by
      intro m2 o2 p1 p2 pJ
      refine wpS_bind (zak (ea n' f1) ?_)
      have pK:=pJ.pushA f1
      refine zal (λ_=>wpS_pure (aD _ _ ⟨sgm _,.inl ⟨_,_,rfl,pK.end1⟩⟩)) λd=>?_
      have d2:¬n'=0:=λz=>d (beq_iff_eq.mpr z)
      cases n' with
      |zero=>exact absurd rfl d2
      |succ t=>exact zal (λ_=>wpS_pure (aD _ _ ⟨sgm _,.inr ⟨_,t,m2,_,_,_,rfl,by omega,p1,pK,by omega⟩⟩)) λ_=>wpS_pure (aD _ _ ⟨sgm _,_,t,m2,_,_,_,rfl,by omega,p1,pK,by omega⟩)
     refine zal (λkz=>?_) (λkz=>?_)
     ·refine zal (fun _=>wpS_pure (aD _ _ ⟨sgm _,.inl ⟨_,_,rfl,js.end2⟩⟩)) fun d4=>zal (fun _=>wpS_pure (aD _ _ ⟨sgm _,.inl ⟨_,_,rfl,js.end1⟩⟩)) fun d5=>?_
      have tt:¬dD=1:=λz=>d4 (beq_iff_eq.mpr z)
      have d5':¬dD=0:=λz=>d5 (beq_iff_eq.mpr z)
      obtain⟨m2,e2⟩:∃m2,dD=m2+1+1:=⟨dD-2,by omega⟩
      have:=h3 m2 _ (by omega) (by omega) (by rw[←e2];exact js)
      rw[←e2]at this
      exact this
     ·obtain ⟨m2,e2⟩:∃ m2,k3=m2+1:=⟨k3 - 1,by omega⟩
      have:=h3 m2 _ (by omega) (by omega) (by rw[←e2];exact fK)
      rw[←e2]at this
      exact this
    refine zal (λkz=>?_) (λkz=>?_)
    ·refine zal (fun _=>wpS_pure (aD _ _ ⟨sgm _,.inl ⟨_,_,rfl,jr.end1⟩⟩)) fun d=>?_
     have d':¬fC=0:=λz=>d (beq_iff_eq.mpr z)
     obtain⟨n',e1⟩:∃n',fC=n'+1:=⟨fC-1,by omega⟩
     have:=h2 n' _ (by omega) (by omega) (by rw[←e1];exact jr)
     rw[←e1]at this
     exact this
    ·exact h2 i3 _ c1 (Qd _) c3
end
section
variable{prog:Ni}{w:Nl}{A:Nn}{E:Nb}{s:Ng}{kd:SortKind}{a₀:Array Keyed}{p:Array (Nat×Nat×Nat)}{lo:Nat}
structure Bs(kd:SortKind)(a₀:Array Keyed)(p:Array (Nat×Nat×Nat))(st:SortSt):Prop where
 kind:kindOf st=kd
 failed:failedOf st=none
 pend:pendingOf st=p
 perm:(arrOf st).Perm a₀
def Bs.size{st:SortSt}(B:Bs kd a₀ p st):(arrOf st).size=a₀.size:=B.perm.size_eq
def Bs.mem{st:SortSt}(B:Bs kd a₀ p st){i:Nat}(hi:i<a₀.size):∃q,(arrOf st)[i]?=some q∧q∈a₀.toList:=by
 have dy:i<(arrOf st).size:=by rw[B.size];exact hi
 exact⟨_,getElem?_pos _ i dy,(Zu.mp B.perm).mem_iff.mp (by simp)⟩
def zcw{st:SortSt}{i j:Nat}{Q:Option Bool→SortSt→Prop}(C:Cmp prog w A E s kd a₀)(B:Bs kd a₀ p st)(hi:i<a₀.size)(hj:j<a₀.size)(h:∀b,Q (some b) st):wpS (model prog w) A E s (ltAt' i j) Q st:=by
 obtain⟨x,e1,m1⟩:=B.mem hi
 obtain⟨y,e2,m2⟩:=B.mem hj
 rw[ltAt'_eq]
 refine wpS_bind (wpS_get ?_)
 refine wpS_bind (zak e1 (wpS_bind (zak e2 ?_)))
 exact C x y st Q m1 m2 B.kind h
def Bs.mirror{st:SortSt}(B:Bs kd a₀ p st)(i j k:Nat):Bs kd a₀ p (setArr st (mirror (arrOf st) i j k)):=⟨B.kind,B.failed,B.pend,(mirror_perm _ _ _ _).trans B.perm⟩
def Bs.bubble{st:SortSt}(B:Bs kd a₀ p st)(src d:Nat):Bs kd a₀ p (setArr st (bubble (arrOf st) src d)):=⟨B.kind,B.failed,B.pend,(bubble_perm _ _ _).trans B.perm⟩
def zew{st:SortSt}{n ok:Nat}{Q:Bool→SortSt→Prop}(C:Cmp prog w A E s kd a₀)(hn:lo+n≤a₀.size)(B:Bs kd a₀ p st)(h:∀a9,Bs kd a₀ p a9→Q true a9):wpS (model prog w) A E s (binarySort' lo n ok) Q st:=by
 rw[binarySort'_eq]
 refine wpS_bind (wpS_mono (wpS_forRange (I:=λk c a9=>Aj2 (c=(none,())) (Bs kd a₀ p a9)) (Q:=λc a9=>Aj2 (c=(none,())) (Bs kd a₀ p a9)) ?step (λ_ _ z=>z) ⟨rfl,B⟩) ?post)
 case post =>
  rintro c a9 ⟨rfl,B'⟩
  exact wpS_pure (h a9 B')
 case step =>
  rintro k c a9 hak fP ⟨rfl,B'⟩
  refine wpS_bind (wpS_mono (wpS_forRange
   (I:=λx c av=>Aj2 (av=a9) (Ex2 λl r=>Aj4 (c=(none,l,r)) (l≤r) (r≤k) (r-l≤k-x)))
   (Q:=λc av=>Aj2 (av=a9) (Ex1 λl=>Aj2 (c=(none,l,l)) (l≤k))) ?is ?if_ ?ii) ?ip)
  case ii=>exact⟨rfl,0,k,rfl,Zh _,Qd _,Qd _⟩
  case if_ =>
   rintro c av ⟨rfl,l,r,rfl,b1,b2,b3⟩
   have:l=r:=by omega
   subst this
   exact⟨rfl,l,rfl,b2⟩
  case is =>
   rintro x c av _ hx ⟨rfl,l,r,rfl,b1,b2,b3⟩
   dsimp only
   refine zal (λge=>?_) λge=>wpS_bind (zcw C B' (by omega) (by omega) λb=>?_)
   ·have:l=r:=Ji b1 ge
    subst this
    exact wpS_pure ⟨rfl,l,rfl,b2⟩
   ·cases b with
    |true=>exact wpS_pure ⟨rfl,l,(l+r)/2,rfl,by omega,by omega,by omega⟩
    |false=>exact wpS_pure ⟨rfl,(l+r)/2+1,r,rfl,by omega,b2,by omega⟩
  case ip =>
   rintro c av ⟨rfl,l,rfl,b2⟩
   show wpS _ _ _ _ (do moveDown' (lo+k) (lo+l);pure (ForInStep.yield (none,()))) _ _
   rw[moveDown'_eq]
   exact wpS_bind (wpS_modify (wpS_pure ⟨rfl,B'.bubble _ _⟩))
def jp_rev{α:Type}{c:Prop}[Decidable c]{i j:Nat}{f:Unit→StateT SortSt Sem α}{Q:α→SortSt→Prop}{st:SortSt}(B:Bs kd a₀ p st)(h:∀a9,Bs kd a₀ p a9→wpS (model prog w) A E s (f ()) Q a9):wpS (model prog w) A E s (if c then reverseSlice' i j >>= f else f ()) Q st:=by
 split
 ·exact wpS_bind (wpS_reverse (h _ (B.mirror _ _ _)))
 ·exact h _ B
def zft{st:SortSt}{nrem:Nat}{Q:Option Nat→SortSt→Prop}(C:Cmp prog w A E s kd a₀)(hn:lo+nrem≤a₀.size)(h1:1≤nrem)(B:Bs kd a₀ p st)(h:∀m a9,Bs kd a₀ p a9→1≤m→m≤nrem→Q (some m) a9):wpS (model prog w) A E s (countRun' lo nrem) Q st:=by
 have asc:∀(f:Nat→(Option (Option Nat)×Nat)→StateT SortSt Sem (ForInStep (Option (Option Nat)×Nat))) (a:Nat) (ak:SortSt),1≤a→a≤nrem →
   (∀x y Q',1≤y→y<nrem→Q' (ForInStep.done (none,y)) ak→Q' (ForInStep.yield (none,y+1)) ak→wpS (model prog w) A E s (f x (none,y)) Q' ak) →
   wpS (model prog w) A E s (forIn [a:nrem] (none,a) f) (λc a9=>Aj2 (a9=ak) (Ex1 λn=>Aj3 (c=(none,n)) (a≤n) (n≤nrem))) ak:=by
  intro f a ak a1 a2 hf
  refine wpS_forRange (I:=λx c a9=>Aj2 (a9=ak) (c=(none,x))) ?step ?fin ⟨rfl,rfl⟩
  case fin =>
   rintro c a9 ⟨rfl,rfl⟩
   rw[show max a nrem=nrem by omega]
   exact⟨rfl,nrem,rfl,a2,Qd _⟩
  case step =>
   rintro x c a9 g1 g2 ⟨rfl,rfl⟩
   exact hf x x _ (by omega) g2 ⟨rfl,x,rfl,g1,Zo g2⟩ ⟨rfl,rfl⟩
 have two:∀{ak:SortSt},Bs kd a₀ p ak→∀{y:Nat},1≤y→y<nrem→lo+y<a₀.size∧lo+y-1<a₀.size:=λ_ y y1 y2=>⟨by omega,by omega⟩
 rw[countRun'_eq]
 refine wpS_bind (wpS_mono (asc _ 1 st (Qd _) h1 ?_) ?_)
 ·intro x y Q' y1 y2 q1 q2
  refine wpS_bind (zcw C B (two B y1 y2).1 (two B y1 y2).2 λb=>?_)
  cases b with
  |true=>exact wpS_pure q1
  |false=>exact wpS_pure q2
 rintro c a9 ⟨rfl,n,rfl,n1,n2⟩
 refine zb8 λQ0 aD=>?_
 refine zal (λd=>wpS_pure (aD _ _ (h n _ B n1 n2))) λd=>?_
 have d':n<nrem:=by have:¬n=nrem:=λz=>d (beq_iff_eq.mpr z);omega
 extract_lets -underBinder +onlyGivenNames jp
 have l':∀ak,Bs kd a₀ p ak→wpS (model prog w) A E s (jp ()) Q0 ak:=by
  intro ak B1
  refine wpS_bind (wpS_lift (wpAny_rule ⟨rfl,?_⟩))
  refine wpS_bind (wpS_mono (wpS_forRange
   (I:=λx c aq=>Ex1 λq=>Aj4 (c=(none,x,q)) (Bs kd a₀ p aq) (2≤x) (x≤nrem))
   (Q:=λc aq=>Ex2 λx q=>Aj4 (c=(none,x,q)) (Bs kd a₀ p aq) (2≤x) (x≤nrem)) ?step ?fin ⟨0,rfl,B1,by omega,d'⟩) ?post)
  case fin =>
   rintro c aq ⟨q,rfl,b1,b2,b3⟩
   exact⟨_,q,rfl,b1,b2,b3⟩
  case step =>
   rintro x c aq x1 x2 ⟨q,rfl,b1,b2,b3⟩
   refine zb8 λQ1 fT=>?_
   refine wpS_bind (zcw (i:=lo+x) (j:=lo+x-1) C b1 (by omega) (by omega) λe1=>?_)
   cases e1 with
   |true =>
    refine zal (λ_=>?_) (λz=>absurd rfl z)
    exact jp_rev b1 λai B3=>wpS_pure (fT _ _ ⟨0,rfl,B3,by omega,x2⟩)
   |false =>
    refine zal (λz=>absurd z (by decide)) λ_=>wpS_bind (zcw (i:=lo+x-1) (j:=lo+x) C b1 (by omega) (by omega) λe2=>?_)
    cases e2 with
    |true=>exact zal (λ_=>wpS_pure (fT _ _ ⟨x,q,rfl,b1,b2,b3⟩)) (λz=>absurd rfl z)
    |false=>exact zal (λz=>absurd z (by decide)) λ_=>wpS_pure (fT _ _ ⟨q+1,rfl,b1,by omega,x2⟩)
  case post =>
   rintro c aq ⟨x,q,rfl,b1,b2,b3⟩
   refine jp_rev b1 λai B3=>?_
   refine wpS_bind (wpS_reverse ?_)
   have B6:=B3.mirror lo (lo+x) ((lo+x-lo)/2)
   refine wpS_bind (wpS_mono (asc _ x _ (by omega) b3 ?_) ?_)
   ·intro z y Q' y1 y2 q1 q2
    refine wpS_bind (zcw C B6 (two B6 y1 y2).1 (two B6 y1 y2).2 λb=>?_)
    cases b with
    |true=>exact wpS_pure q1
    |false=>exact wpS_pure q2
   ·rintro c st6 ⟨rfl,m,rfl,m1,m2⟩
    exact wpS_pure (aD _ _ (h m _ B6 (by omega) m2))
 refine zal (λd2=>?_) λd2=>l' _ B
 refine wpS_bind (zcw C B (by omega) (by omega) λe=>?_)
 cases e with
 |true=>exact zal (λ_=>wpS_pure (aD _ _ (h n _ B n1 n2))) (λz=>absurd rfl z)
 |false=>exact zal (λz=>absurd z (by decide)) λ_=>wpS_bind (wpS_reverse (l' _ (B.mirror _ _ _)))
end
def PL:List (Nat×Nat×Nat)→Nat→Nat→Prop
 |[],off,ao=>off=ao
 |q::ps,off,ao=>q.1=off∧0<q.2.1∧PL ps (off+q.2.1) ao
def PL.split{be:List (Nat×Nat×Nat)}{ao:Nat}:∀{aP:List (Nat×Nat×Nat)} {off:Nat},PL (aP++be) off ao→∃mid,PL aP off mid∧PL be mid ao:=by
 intro aP
 induction aP with
 |nil=>intro off h;exact⟨off,rfl,h⟩
 |cons q ps ih =>
  intro off h
  obtain⟨mid,a,b⟩:=ih h.2.2
  exact⟨mid,⟨h.1,h.2.1,a⟩,b⟩
def PL.join{be:List (Nat×Nat×Nat)}{mid ao:Nat}:∀{aP:List (Nat×Nat×Nat)} {off:Nat},PL aP off mid→PL be mid ao→PL (aP++be) off ao:=by
 intro aP
 induction aP with
 |nil=>intro off a b;cases(show off=mid from a);exact b
 |cons q ps ih=>intro off a b;exact⟨a.1,a.2.1,ih a.2.2 b⟩
def PL.len{ao:Nat}:∀{ps:List (Nat×Nat×Nat)} {off:Nat},PL ps off ao→off+ps.length≤ao:=by
 intro ps
 induction ps with
 |nil=>intro off h;exact Nat.le_of_eq h
 |cons q ps ih =>
  intro off h
  have:=ih h.2.2
  have:=h.2.1
  rw[Zg];omega
def zfp{sa:Nat}:∀ (l:List Keyed) (n:Nat) (arr:Array Keyed) (F M S:List Keyed),arr.toList=F++(M++S)→F.length=sa+n→M.length=l.length →
  ((l.zipIdx n).foldl (λ(a:Array Keyed) (q:Keyed×Nat)=>a.setIfInBounds (sa+q.2) q.1) arr).toList=F++(l++S):=by
 intro l
 induction l with
 |nil =>
  intro n arr F M S e _ hl
  have:M=[]:=Kc.mp (by simpa using hl)
  rw[this]at e
  simpa using e
 | cons p l ih =>
  intro n arr F M S e hf hl
  cases M with
  |nil=>simp at hl
  | cons m M =>
   rw[List.zipIdx_cons,Ju]
   have e2:(arr.setIfInBounds (sa+n) p).toList=(F++[p])++(M++S):=by
    rw[Jo,e,←hf,Kh _ _ (Qd _),Xo]
    simp
   rw[ih (n+1) _ (F++[p]) M S e2 (by rw[Qm];simp;omega) (by simpa using hl)]
   simp
section
variable{prog:Ni}{w:Nl}{A:Nn}{E:Nb}{s:Ng}{kd:SortKind}{a₀:Array Keyed}
structure Rn(kd:SortKind)(a₀:Array Keyed)(ao:Nat)(st:SortSt):Prop where
 kind:kindOf st=kd
 failed:failedOf st=none
 perm:(arrOf st).Perm a₀
 pend:PL (pendingOf st).toList 0 ao
 le:ao≤a₀.size
def of_perm{xs:Array Keyed}(h:xs.Perm a₀):Of a₀ xs:=λi p e=>by
 refine(Zu.mp h).mem_iff.mp ?_
 have:xs.toList[i]?=some p:=by simpa using e
 exact Yz this
def of_ext{xs:Array Keyed}(h:xs.Perm a₀)(i j:Nat):Of a₀ (xs.extract i j):=λk p e=>by
 have e1:(xs.extract i j).toList[k]?=some p:=by rw[Uu];exact e
 have:=Yz e1
 rw[Array.toList_extract,Kw]at this
 exact(Zu.mp h).mem_iff.mp (Yy (Yp this))
def wpS_set{Q:PUnit→SortSt→Prop}{st a9:SortSt}(h:Q ⟨⟩ a9):wpS (model prog w) A E s (set a9:StateT SortSt Sem PUnit) Q st:=by
 unfold wpS;rw[StateT.run_set];exact wpAny_pure ⟨rfl,h⟩
def zcg{i ao:Nat}{Q:Bool→SortSt→Prop}{st:SortSt}(C:Cmp prog w A E s kd a₀)(R:Rn kd a₀ ao st)(hi:i+1 < (pendingOf st).size)(h:∀a9,Rn kd a₀ ao a9→(pendingOf a9).size+1=(pendingOf st).size→Q true a9):wpS (model prog w) A E s (mergeAt' i) Q st:=by
 obtain⟨aP,q1,q2,be,hp,hl⟩:∃aP q1 q2 be,(pendingOf st).toList=aP++q1::q2::be∧aP.length=i:=by
  have h1:i<(pendingOf st).toList.length:=by simp;omega
  have h2:i+1<(pendingOf st).toList.length:=by simp;omega
  refine⟨(pendingOf st).toList.take i,(pendingOf st).toList[i],(pendingOf st).toList[i+1],(pendingOf st).toList.drop (i+2),?_,by rw[Zc];omega⟩
  rw[←We h2,←We h1,Zl]
 have pr:=R.pend
 rw[hp]at pr
 obtain⟨sa,pi,e1,hA,e2,hB,ic⟩:=pr.split
 obtain⟨aH,na,pw⟩:=q1
 obtain⟨sb',nb,kM⟩:=q2
 dsimp only at e1 hA e2 hB ic
 subst e1 e2
 have x1:(pendingOf st)[i]?=some (aH,na,pw):=by
  have:(pendingOf st)[i]?=(pendingOf st).toList[i]?:=by simp
  rw[this,hp,←hl];simp
 have x2:(pendingOf st)[i+1]?=some (aH+na,nb,kM):=by
  have:(pendingOf st)[i+1]?=(pendingOf st).toList[i+1]?:=by simp
  rw[this,hp,←hl];simp
 have hsz:aH+na+nb≤(arrOf st).size:=by
  have:=ic.len
  have:=R.le
  rw[R.perm.size_eq];omega
 have oA:=of_perm R.perm
 have mem:∀j (hj:j<(arrOf st).size),(arrOf st)[j]∈a₀.toList:=λj hj=>oA j _ (getElem?_pos _ j hj)
 have fin:∀(a9:SortSt),kindOf a9=kd→failedOf a9=none→(arrOf a9).Perm a₀→pendingOf a9=((pendingOf st).setIfInBounds i (aH,na+nb,pw)).eraseIdxIfInBounds (i+1)→Q true a9:=by
  intro a9 m3 m4 m5 m6
  have e:(pendingOf a9).toList=aP++(aH,na+nb,pw)::be:=by
   rw[m6]
   have e1:((pendingOf st).setIfInBounds i (aH,na+nb,pw)).toList=aP++(aH,na+nb,pw)::(aH+na,nb,kM)::be:=by
    rw[Jo,hp,←hl,Kh _ _ (Qd _),Xo]
    rfl
   rw[Array.toList_eraseIdxIfInBounds,e1,←hl,List.eraseIdx_append_of_length_le (Zy _ _)]
   simp
  refine h a9 ⟨m3,m4,m5,?_,R.le⟩ ?_
  ·rw [e]
   exact pi.join ⟨rfl,Nat.add_pos_left hA _,by rw[←Kl];exact ic⟩
  ·rw[←Yi,←Yi,e,hp];simp;omega
 unfold mergeAt'
 refine wpS_bind (wpS_get ?_)
 rw[x1,x2]
 dsimp only
 refine wpS_bind (wpS_set ?_)
 have kA:aH+na<(arrOf st).size:=by omega
 refine wpS_bind (zak (getElem?_pos (arrOf st) (aH+na) kA) ?_)
 refine wpS_bind (za6 (arr:=arrOf st) (base:=aH) (n:=na) (hint:=0) C R.kind oA (mem _ kA) (by omega) hA λk k1=>?_)
 refine zal (λc1=>wpS_pure (fin _ R.kind R.failed R.perm rfl)) λc1=>?_
 have tu:¬na-k=0:=λz=>c1 (beq_iff_eq.mpr z)
 have hla:aH+k+(na-k)-1<(arrOf st).size:=by omega
 refine wpS_bind (zak (getElem?_pos (arrOf st) (aH+k+(na-k)-1) hla) ?_)
 refine wpS_bind (za6 (arr:=arrOf st) (base:=aH+na) (n:=nb) (hint:=nb-1) C R.kind oA (mem _ hla) (by omega) (by omega) λm n1=>?_)
 refine zal (λc2=>wpS_pure (fin _ R.kind R.failed R.perm rfl)) λc2=>?_
 have c2':¬m=0:=λz=>c2 (beq_iff_eq.mpr z)
 have gC:(arrOf st).toList=(arrOf st).toList.take (aH+k)++((((arrOf st).extract (aH+k) (aH+na)).toList++((arrOf st).extract (aH+na) (aH+na+m)).toList)++(arrOf st).toList.drop (aH+na+m)):=by
  rw[←Qp,←Qp,zfl (by omega) (by omega),zfl (by omega) (by omega),Zl]
 have oX:=of_ext R.perm (aH+k) (aH+na)
 have oY:=of_ext R.perm (aH+na) (aH+na+m)
 have zX:0<((arrOf st).extract (aH+k) (aH+na)).size:=by rw[Array.size_extract];omega
 have zY:0<((arrOf st).extract (aH+na) (aH+na+m)).size:=by rw[Array.size_extract];omega
 have done:∀(res:Array Keyed) (a9:SortSt),res.toList.Perm (((arrOf st).extract (aH+k) (aH+na)).toList++((arrOf st).extract (aH+na) (aH+na+m)).toList)→SG (SortSt.mk' (kindOf st) (arrOf st) (((pendingOf st).setIfInBounds i (aH,na+nb,pw)).eraseIdxIfInBounds (i+1)) (gallopOf st) (failedOf st)) a9 →
   wpS (model prog w) A E s (do
    modify λz=>SortSt.mk' (kindOf z) (res.toList.zipIdx.foldl (λ(a:Array Keyed) (q:Keyed×Nat)=>a.setIfInBounds (aH+k+q.2) q.1) (arrOf z)) (pendingOf z) (gallopOf z) (failedOf z)
    let z ←get
    pure (failedOf z).isNone) Q a9:=by
  intro res a9 mg ⟨g,est⟩
  subst est
  refine wpS_bind (wpS_modify (wpS_bind (wpS_get ?_)))
  have eB:failedOf st=none:=R.failed
  show wpS _ _ _ _ (pure (failedOf st).isNone) _ _
  rw[eB]
  refine wpS_pure (fin _ R.kind rfl ?_ rfl)
  have pb:=zfp (sa:=aH+k) res.toList 0 (arrOf st) _ _ _ gC (by rw[Zc,Yi];omega) mg.length_eq.symm
  refine Zu.mpr (List.Perm.trans ?_ (Zu.mp R.perm))
  refine List.Perm.trans (List.Perm.of_eq pb) ?_
  conv=>rhs;rw[gC]
  exact Zx _ (Jg _ mg)
 exact zal (λ_=>wpS_bind (zd4 C R.kind oX oY zX zY done)) λ_=>wpS_bind (zd5 C R.kind oX oY zX zY done)
def PL.congr:∀{ps dR:List (Nat×Nat×Nat)} {off:Nat},(ps.map λq=>(q.1,q.2.1))=(dR.map λq=>(q.1,q.2.1))→PL ps off ao→PL dR off ao:=by
 intro ps
 induction ps with
 |nil =>
  intro dR off e h
  cases dR with
  |nil=>exact h
  |cons q r=>cases e
 | cons q ps ih =>
  intro dR off e h
  cases dR with
  |nil=>cases e
  |cons q' r =>
   rw[Qk,Qk]at e
   obtain⟨e1,e2⟩:=List.cons.inj e
   obtain⟨e3,e4⟩:=Jd e1
   exact⟨e3.symm.trans h.1,e4▸h.2.1,ih e2 (e4▸h.2.2)⟩
def map_mod(f:Nat×Nat×Nat→Nat×Nat×Nat)(hf:∀q,((f q).1,(f q).2.1)=(q.1,q.2.1))(l:List (Nat×Nat×Nat))(i:Nat):((l.modify i f).map λq=>(q.1,q.2.1))=l.map λq=>(q.1,q.2.1):=by
 apply Xa
 intro k
 rw[Qr,Qr,List.getElem?_modify]
 cases l[k]? with
 |none=>simp
 |some q =>
  by_cases e:i=k
  ·simp[e];exact Jd (hf q)
  ·simp[e]
def Rn.mod{ao:Nat}{st:SortSt}(R:Rn kd a₀ ao st)(i:Nat)(f:Nat×Nat×Nat→Nat×Nat×Nat)(hf:∀q,((f q).1,(f q).2.1)=(q.1,q.2.1)):Rn kd a₀ ao (setPending st ((pendingOf st).modify i f)) :=
 ⟨R.kind,R.failed,R.perm,by
  show PL ((pendingOf st).modify i f).toList 0 ao
  rw[Array.toList_modify]
  exact R.pend.congr (map_mod f hf _ i).symm,R.le⟩
def wpS_sortAll{st:SortSt}{Q:Unit→SortSt→Prop}(C:Cmp prog w A E s kd a₀)(hk:kindOf st=kd)(hf:failedOf st=none)(hp:(arrOf st).Perm a₀)(dq:pendingOf st=#[])(h:∀a9,(arrOf a9).Perm a₀→failedOf a9=none→Q () a9):wpS (model prog w) A E s sortRuns' Q st:=by
 have R0:Rn kd a₀ 0 st:=⟨hk,hf,hp,by rw[dq];rfl,Zh _⟩
 rw[sortRuns'_eq]
 refine wpS_bind (wpS_get ?_)
 dsimp -zeta only
 have hz:(arrOf st).size=a₀.size:=hp.size_eq
 rw[hz]
 refine wpS_bind (wpS_mono (wpS_forRange
  (I:=λx c a9=>Ex1 λao=>Aj3 (c=(none,ao)) (Rn kd a₀ ao a9) (x≤ao))
  (Q:=λc a9=>Ex1 λao=>Aj3 (c=(none,ao)) (Rn kd a₀ ao a9) (a₀.size≤ao)) ?step ?fin ⟨0,rfl,R0,Zh _⟩) ?post)
 case fin =>
  rintro c a9 ⟨ao,rfl,R,hx⟩
  exact⟨ao,rfl,R,by omega⟩
 case step =>
  rintro x c ak _ hx ⟨ao,rfl,R,kZ⟩
  refine zb8 λQ0 aD=>?_
  refine zal (λc0=>wpS_pure (aD _ _ ⟨ao,rfl,R,c0⟩)) λc0=>?_
  have B0:Bs kd a₀ (pendingOf ak) ak:=⟨R.kind,R.failed,rfl,R.perm⟩
  refine wpS_bind (zft (lo:=ao) (nrem:=a₀.size-ao) C (by omega) (by omega) B0 λm aq B2 m1 m2=>?_)
  dsimp -zeta only
  extract_lets -underBinder +onlyGivenNames n0 jp
  have l':∀(n':Nat) (ai:SortSt),1≤n'→ao+n'≤a₀.size→Bs kd a₀ (pendingOf ak) ai→wpS (model prog w) A E s (jp () n') Q0 ai:=by
   intro n' ai l1 l2 B3
   have R3:Rn kd a₀ ao ai:=⟨B3.kind,B3.failed,B3.perm,by rw[B3.pend];exact R.pend,R.le⟩
   have push:∀aj,Rn kd a₀ ao aj→Rn kd a₀ (ao+n') (setPending aj ((pendingOf aj).push (ao,n',0))):=λaj R4 =>
    ⟨R4.kind,R4.failed,R4.perm,by show PL ((pendingOf aj).push _).toList 0 _;rw[Wp];exact R4.pend.join ⟨rfl,l1,rfl⟩,l2⟩
   refine wpS_bind (wpS_get ?_)
   extract_lets -underBinder +onlyGivenNames jp2
   have lZ:∀aj,Rn kd a₀ ao aj→wpS (model prog w) A E s (jp2 ()) Q0 aj:=λaj R4=>wpS_bind (wpS_modify (wpS_pure (aD _ _ ⟨ao+n',rfl,push aj R4,by omega⟩)))
   cases(pendingOf ai).back? with
   |none=>exact lZ _ R3
   | some q =>
    obtain⟨s1,n1,o1⟩:=q
    refine wpS_bind (wpS_mono (wpS_forRange (I:=λ_ c aj=>Aj2 (c=(none,())) (Rn kd a₀ ao aj)) (Q:=λc aj=>Aj2 (c=(none,())) (Rn kd a₀ ao aj)) ?istep (λ_ _ z=>z) ⟨rfl,R3⟩) ?ipost)
    case istep =>
     rintro y c aj _ _ ⟨rfl,R4⟩
     refine zb8 λQ1 fT=>wpS_bind (wpS_get ?_)
     dsimp only
     by_cases hs:(pendingOf aj).size>1
     ·rw [if_pos hs,getElem?_pos (pendingOf aj) ((pendingOf aj).size - 2) (by omega)]
      refine zal (λ_=>wpS_pure (fT _ _ ⟨rfl,R4⟩)) λ_=>wpS_bind (zcg C R4 (by omega) λi9 R5 _=>?_)
      exact zal (λz=>absurd z (by decide)) λ_=>wpS_pure (fT _ _ ⟨rfl,R5⟩)
     ·rw [if_neg hs]
      exact wpS_pure (fT _ _ ⟨rfl,R4⟩)
    case ipost =>
     rintro c aj ⟨rfl,R4⟩
     exact wpS_bind (wpS_modify (lZ _ (R4.mod _ _ λq=>rfl)))
  refine zal (λc1=>?_) λc1=>l' m aq m1 (by omega) B2
  have tu:m<minRun' a₀.size a₀.size 0:=c1
  refine wpS_bind (wpS_lift (wpAny_rule ⟨rfl,?_⟩))
  refine wpS_bind (zew (lo:=ao) (n:=min (a₀.size-ao) (minRun' a₀.size a₀.size 0)) C (by omega) B2 λai B3=>?_)
  exact zal (λz=>absurd z (by decide)) λ_=>l' _ ai (by omega) (by omega) B3
 case post =>
  rintro c ak ⟨ao,rfl,R,hx⟩
  refine wpS_bind (wpS_mono (wpS_forRange (I:=λ_ c aj=>Aj2 (c=(none,())) (Rn kd a₀ ao aj)) (Q:=λc aj=>Aj2 (c=(none,())) (Rn kd a₀ ao aj)) ?istep (λ_ _ z=>z) ⟨rfl,R⟩) ?ipost)
  case istep =>
   rintro y c aj _ _ ⟨rfl,R4⟩
   refine zb8 λQ1 fT=>wpS_bind (wpS_get ?_)
   dsimp only
   refine zal (λ_=>wpS_pure (fT _ _ ⟨rfl,R4⟩)) λhs=>wpS_bind (zcg C R4 ?_ λi9 R5 _=>?_)
   ·repeat' split
    all_goals omega
   ·exact zal (λz=>absurd z (by decide)) λ_=>wpS_pure (fT _ _ ⟨rfl,R5⟩)
  case ipost =>
   rintro c aj ⟨rfl,R4⟩
   exact wpS_pure (h aj R4.perm R4.failed)
end
end Tm
end
section
namespace Tm
open PySem PyProof.Rows PySem.W
section
variable{O:KeyOrd}{kf:Nat→O.α}{n:Nat}{s:Ng}{cmp:Nat→Nat→(Bool→Shared→Prop)→Shared→Prop}
def kk(kf:Nat→O.α)(p:Array Nat)(i:Nat):O.α:=kf (p.getD i 0)
def kk_rev{p:Array Nat}{i j:Nat}(hj:j≤p.size)(k:Nat):kk kf (kas_rev p i j) k=if i≤k∧k<j then kk kf p (i+j-1-k) else kk kf p k:=by
 unfold kk kas_rev
 simp only[Uk,getElem?_mirror_all hj k]
 split<;>rfl
def kk_bub(hs:a<p.size)(hd:d≤a)(k:Nat):kk kf (bubble p a d) k=if k=a-d then kk kf p a else if a-d<k∧k≤a then kk kf p (k-1) else kk kf p k:=by
 unfold kk
 simp only[Uk,getElem?_bubble hs d hd k]
 repeat' split
 all_goals rfl
def Up(kf:Nat→O.α)(p:Array Nat)(k:Nat):Prop:=∀i j,i≤j→j<k→O.kle (kk kf p i) (kk kf p j)
def Dn(kf:Nat→O.α)(p:Array Nat)(k:Nat):Prop:=∀i j,i≤j→j<k→O.kle (kk kf p j) (kk kf p i)
def Up.snoc{p:Array Nat}{a:Nat}(h1:1≤a)(h:Up kf p a)(e:O.kle (kk kf p (a-1)) (kk kf p a)):Up kf p (a+1):=λi j aX hj=>by
 by_cases z:j<a
 ·exact h i j aX z
 obtain rfl:j=a:=by omega
 by_cases z2:i=j
 ·subst z2;exact Yx _
 ·exact Yu (h i (j-1) (by omega) (by omega)) e
def Dn.snoc{p:Array Nat}{a:Nat}(h1:1≤a)(h:Dn kf p a)(e:O.kle (kk kf p a) (kk kf p (a-1))):Dn kf p (a+1):=λi j aX hj=>by
 by_cases z:j<a
 ·exact h i j aX z
 obtain rfl:j=a:=by omega
 by_cases z2:i=j
 ·subst z2;exact Yx _
 ·exact Yu e (h i (j-1) (by omega) (by omega))
structure Ar(n:Nat)(p:Array Nat):Prop where
 sz:p.size=n
 lt:∀i,0<n→p.getD i 0<n
 pm:p.Perm (List.toArray (List.range n))
def Ar.of(h:p.Perm (List.toArray (List.range n))):Ar n p:=by
 have z:p.size=n:=by rw[h.size_eq];simp
 refine⟨z,λi h0=>?_,h⟩
 by_cases hi:i<p.size
 ·have:p[i]∈List.range n:=(Zu.mp h).mem_iff.mp (by simp)
  rw[Uk,getElem?_pos p i hi]
  exact Yq.mp this
 ·rw[Uk,getElem?_neg p i hi];exact h0
def Ar.rev{p:Array Nat}(h:Ar n p)(i j:Nat):Ar n (kas_rev p i j):=.of ((mirror_perm _ _ _ _).trans h.pm)
def Ar.bub(h:Ar n p)(i j:Nat):Ar n (bubble p i j):=.of ((bubble_perm _ _ _).trans h.pm)
variable(h0:0<n)(hc:∀i j C,i<n→j<n→C (O.blt (kf i) (kf j)) s→cmp i j C s)
include h0 hc
theorem t_ask{p:Array Nat}(P:Ar n p){α:Type}{i j:Nat}{k:Bool→KasT α}{Q:α→Shared→Prop}(h1:O.klt (kk kf p i) (kk kf p j)→(k true).kasWp cmp Q s)(h2:O.kle (kk kf p j) (kk kf p i)→(k false).kasWp cmp Q s):(KasT.ask (p.getD i 0) (p.getD j 0) k).kasWp cmp Q s:=by
 refine hc _ _ _ (P.lt _ h0) (P.lt _ h0) ?_
 cases e:O.blt (kf (p.getD i 0)) (kf (p.getD j 0)) with
 |true=>exact h1 e
 |false=>exact h2 e
theorem t_asc(P:Ar n p){Q:Nat→Shared→Prop}:∀(f a:Nat),1≤a→a+f≤n→Up kf p a→(∀m,a≤m→m≤a+f→Up kf p m→(m=a+f∨O.klt (kk kf p m) (kk kf p (m-1)))→Q m s)→(kas_asc p f a).kasWp cmp Q s
 |0,a,_,_,hs,h=>h a (Qd _) (Qd _) hs (.inl rfl)
 |f+1,a,h1,hn,hs,h=>t_ask h0 hc P (λe=>h a (Qd _) (by omega) hs (.inr e)) λe=>t_asc P f (a+1) (by omega) (by omega) (hs.snoc h1 e) λm h2 h3=>h m (by omega) (by omega)|>λq h4 h5=>q h4 (h5.imp (by omega) id)
theorem t_desc{Q:Array Nat×Nat×Nat→Shared→Prop}:∀(f:Nat) (p:Array Nat) (a q:Nat),Ar n p→1≤a→a+f≤n→Dn kf p a→q<a→(∀i,a-(q+1)≤i→i<a→kk kf p i=kk kf p (a-1))→(∀p' m q',Ar n p'→a≤m→m≤a+f→Dn kf p' m→q'<m→(∀i,m-(q'+1)≤i→i<m→kk kf p' i=kk kf p' (m-1))→Q (p',m,q') s)→(kas_desc f p a q).kasWp cmp Q s
 |0,p,a,q,P,_,_,hs,hq,he,h=>h p a q P (Qd _) (Qd _) hs hq he
 | f+1,p,a,q,P,h1,hn,hs,hq,he,h=>by
  have again:∀p',Ar n p'→Dn kf p' (a+1)→∀q'<a+1,(∀i,a+1-(q'+1)≤i→i<a+1→kk kf p' i=kk kf p' (a+1-1))→(kas_desc f p' (a+1) q').kasWp cmp Q s:=λp' P' c8 q' gi ax=>t_desc f p' (a+1) q' P' (by omega) (by omega) c8 gi ax λp2 m q2 P2 h3 h4=>h p2 m q2 P2 (by omega) (by omega)
  have one:∀(p':Array Nat) (i:Nat),a+1-(0+1)≤i→i<a+1→kk kf p' i=kk kf p' (a+1-1):=λp' i h2 h3=>by rw[show i=a+1-1 by omega]
  refine t_ask h0 hc P (λe=>?_) λe=>?_
  ·rw [if_pos rfl]
   have same:∀k,kk kf (kas_rev p (a-(q+1)) a) k=kk kf p k:=λk=>by
    rw[kk_rev (by rw[P.sz];omega)]
    split
    ·rw[he _ (by omega) (by omega),he k (by omega) (by omega)]
    ·rfl
   split
   ·refine again _ (P.rev _ _) (fun i j aX hj=>?_) 0 (by omega) (one _)
    rw[same,same]
    exact hs.snoc h1 (Yf e) i j aX hj
   ·exact again _ P (hs.snoc h1 (Yf e)) 0 (by omega) (one _)
  ·rw [if_neg (by simp)]
   refine t_ask h0 hc P (λe2=>?_) λe2=>?_
   ·rw[if_pos rfl];exact h p a q P (Qd _) (by omega) hs hq he
   ·rw [if_neg (by simp)]
    have eq:=KeyOrd.kle_antisymm e2 e
    refine again _ P (hs.snoc h1 e2) (q+1) (by omega) λi h2 h3=>?_
    rw[Nat.add_sub_cancel]
    by_cases z:i=a
    ·rw[z]
    ·rw[he i (by omega) (by omega),eq]
theorem t_tail(P:Ar n p)(h1:1≤m)(hm:m≤n)(hs:Dn kf p m)(h:∀p' k,Ar n p'→1≤k→k≤n→Up kf p' k→Q (k,p') s):(kas_tail3 m n p).kasWp cmp Q s:=by
 unfold kas_tail3
 rw[Xg]
 refine t_asc h0 hc (P.rev 0 m) _ m h1 (by omega) (λi j aX hj=>?_) λk h2 h3 h4 _=>h _ k (P.rev 0 m) (by omega) (by omega) h4
 rw[kk_rev (by rw[P.sz];omega),kk_rev (by rw[P.sz];omega),if_pos (by omega),if_pos (by omega)]
 exact hs _ _ (by omega) (by omega)
theorem t_dpart(P:Ar n p)(hm:m+1≤n)(hs:Dn kf p (m+1))(h:∀p' k,Ar n p'→1≤k→k≤n→Up kf p' k→Q (k,p') s):(kas_descPart m n p).kasWp cmp Q s:=by
 unfold kas_descPart
 rw[Xg]
 refine t_desc h0 hc _ p (m+1) 0 P (by omega) (by omega) hs (by omega) (λi h2 h3=>by rw[show i=m+1-1 by omega]) λp' k q P' h2 h3 c8 hq he=>?_
 dsimp only
 split
 ·refine t_tail h0 hc (P'.rev _ _) (by omega) (by omega) (fun i j aX hj=>?_) h
  have same:∀i,kk kf (kas_rev p' (k-(q+1)) k) i=kk kf p' i:=λi=>by
   rw[kk_rev (by rw[P'.sz];omega)]
   split
   ·rw[he _ (by omega) (by omega),he i (by omega) (by omega)]
   ·rfl
  rw[same,same]
  exact c8 i j aX hj
 ·exact t_tail h0 hc P' (by omega) (by omega) c8 h
theorem t_count(P:Ar n p){Q:Nat×Array Nat→Shared→Prop}(h:∀p' k,Ar n p'→1≤k→k≤n→Up kf p' k→Q (k,p') s):(kas_count n p).kasWp cmp Q s:=by
 unfold kas_count
 rw[Xg]
 refine t_asc h0 hc P _ 1 (Qd _) (by omega) (λi j aX hj=>by rw[show i=j by omega];exact Yx _) λm h1 h2 hs hor=>?_
 split
 ·exact h p m P h1 (by omega) hs
 rename_i aW
 have lL:m≠n:=by simpa using aW
 have ae:=hor.resolve_left (by omega)
 split
 ·refine t_ask h0 hc P (fun _=>?_) fun e=>?_
  ·rw[if_pos rfl];exact h p m P h1 (by omega) hs
  ·rw [if_neg (by simp)]
   have all:∀k,k<m→kk kf p k=kk kf p (m-1):=λk hk=>KeyOrd.kle_antisymm (hs k (m-1) (by omega) (by omega)) (Yu e (hs 0 k (by omega) hk))
   have same:∀k,kk kf (kas_rev p 0 m) k=kk kf p k:=λk=>by
    rw[kk_rev (by rw[P.sz];omega)]
    split
    ·rw[all _ (by omega),all k (by omega)]
    ·rfl
   refine t_dpart h0 hc (P.rev 0 m) (by omega) (Dn.snoc h1 (λi j aX hj=>?_) (by rw[same,same];exact Yf ae)) h
   rw[same,same,all i (by omega),all j hj]
   exact Yx _
 ·obtain rfl:m=1:=by omega
  exact t_dpart h0 hc P (by omega) (Dn.snoc (Qd _) (λi j aX hj=>by rw[show i=j by omega];exact Yx _) (Yf ae)) h
theorem t_place{k:Nat}(P:Ar n p)(hs:Up kf p k){Q:Nat→Shared→Prop}:∀(f l r:Nat),l≤r→r≤k→r-l≤f→(∀i,i<l→O.kle (kk kf p i) (kk kf p k))→(∀i,r≤i→i<k→O.klt (kk kf p k) (kk kf p i))→(∀l,l≤k→(∀i,i<l→O.kle (kk kf p i) (kk kf p k))→(∀i,l≤i→i<k→O.klt (kk kf p k) (kk kf p i))→Q l s)→(kas_place p k f l r).kasWp cmp Q s
 |0,l,r,h1,h2,h3,h4,h5,h=>h l (by omega) h4 λi q=>h5 i (by omega)
 | f+1,l,r,h1,h2,h3,h4,h5,h=>by
  unfold kas_place
  split
  ·exact h l (by omega) h4 λi q=>h5 i (by omega)
  ·refine t_ask h0 hc P (fun e=>?_) fun e=>?_
   ·rw [if_pos rfl]
    exact t_place P hs f l _ (by omega) (by omega) (by omega) h4 (λi q1 q2=>KeyOrd.klt_of_klt_of_kle e (hs _ _ q1 q2)) h
   ·rw [if_neg (by simp)]
    exact t_place P hs f _ r (by omega) h2 (by omega) (λi q=>Yu (hs i ((l+r)/2) (by omega) (by omega)) e) h5 h
theorem t_bin(h:∀p,Ar n p→Up kf p n→Q p s):∀(f:Nat) (p:Array Nat) (k:Nat),Ar n p→Up kf p k→k+f=n→(kas_bin f p k).kasWp cmp Q s
 |0,p,k,P,hs,e=>h p P (by rwa[←e])
 | f+1,p,k,P,hs,e=>by
  unfold kas_bin
  rw[Xg]
  refine t_place h0 hc P hs k 0 k (by omega) (by omega) (by omega) (λi q=>absurd q (by omega)) (λi q1 q2=>absurd q2 (by omega)) λl hl hlo hhi=>t_bin h f _ (k+1) (P.bub _ _) (λi j aX hj=>?_) (by omega)
  have hk:k<p.size:=by rw[P.sz];omega
  rw[kk_bub hk (by omega),kk_bub hk (by omega),show k-(k-l)=l by omega]
  repeat' split
  all_goals first
   |(exfalso;omega)
   |exact Yx _
   |exact hlo _ (by omega)
   |exact Yf (hhi _ (by omega) (by omega))
   |exact hs _ _ (by omega) (by omega)
theorem t_sort(h:∀p,Ar n p→Up kf p n→Q p s):(kas_sort n).kasWp cmp Q s:=by
 unfold kas_sort
 rw[Xg]
 refine t_count h0 hc (.of (Array.Perm.refl _)) λp k P h1 h2 hs=>?_
 dsimp only
 split
 ·exact t_bin h0 hc h _ p _ P (by rwa[Nat.max_eq_left h1]) (by omega)
 ·exact h p P (by rwa[show k=n by omega]at hs)
end
open AutoSeq1 (wpAny_loadPart')
open MeetsSeq MeetsSeq2 MeetsSeq3 SeqRoads2
section
variable{prog:Ni}{w:Nl}{A:Nn}{E:Nb}{s:Ng}{R:List Value→Prop}{vs:Nh}
structure zbn(prog:Ni)(w:Nl)(A:Nn)(E:Nb)(s:Ng)(R:List Value→Prop)(vs:Nh):Prop where
 few:vs.length<2→R vs
 go:2≤vs.length→∃kd:SortKind,(∀Q:SortKind→Shared→Prop,Q kd s→wpAny (model prog w) A (keyKind' vs.toArray) Q E s) ∧
  ∀Q:Unit→SortSt→Prop,(∀a9,(arrOf a9).Perm (pairsOf vs)→failedOf a9=none→R ((arrOf a9).toList.map (·.2))→Q () a9)→wpS (model prog w) A E s sortRuns' Q (SortSt.mk' kd (vs.toArray.zip vs.toArray) #[] 7 none)
def zcf(vs:Nh):(pairsOf vs).toList=vs.map λv=>(v,v):=by
 rw[pairsOf_toList]
 induction vs with
 |nil=>rfl
 |cons v r ih=>rw[List.zip_cons_cons,Qk,ih]
def perm_back{l:List Keyed}{vs:Nh}(h:l.Perm (vs.map λv=>(v,v))):(l.map (·.2)).Perm vs:=by
 have:=h.map (·.2)
 rwa[Zp,show((λ(p:Keyed)=>p.2)∘λv=>(v,v))=id from rfl,List.map_id]at this
def cmp_of{kd:SortKind}(h:∀x y,x∈vs→y∈vs→∀(Q:Bool→Shared→Prop) (E':Value→Shared→Prop),(∀b,Q b s)→wpAny (model prog w) A (keyLt' kd x y) Q E' s):Cmp prog w A E s kd (pairsOf vs):=by
 intro x y st Q hx hy hk q
 rw[zcf]at hx hy
 obtain⟨v,hv,rfl⟩:=Ql.mp hx
 obtain⟨u,hu,rfl⟩:=Ql.mp hy
 rw[lt'_eq]
 refine wpS_bind (wpS_get ?_)
 rw[hk]
 refine wpS_bind (wpS_lift (wpAny_attempt (h v u hv hu _ _ λb=>⟨rfl,?_⟩)))
 exact wpS_pure (q b)
def zbn.any(h:2≤vs.length→∃kd:SortKind,(∀Q:SortKind→Shared→Prop,Q kd s→wpAny (model prog w) A (keyKind' vs.toArray) Q E s)∧∀x y,x∈vs→y∈vs→∀(Q:Bool→Shared→Prop) (E':Nb),(∀b,Q b s)→wpAny (model prog w) A (keyLt' kd x y) Q E' s):zbn prog w A E s (λ_=>True) vs :=
 ⟨fun _=>trivial,fun h2=>by
  obtain⟨kd,a1,a2⟩:=h h2
  exact⟨kd,a1,λQ q=>wpS_sortAll (cmp_of a2) rfl rfl (Array.Perm.refl _) rfl λa9 p1 p2=>q a9 p1 p2 trivial⟩⟩
def zbn.ord{O:KeyOrd}{kv:Value→O.α}(h:2≤vs.length→∃ kd:SortKind,(∀ Q:SortKind→Shared→Prop,Q kd s→wpAny (model prog w) A (keyKind' vs.toArray) Q E s)∧∀ x y,x∈vs→y∈vs→∀ (Q:Bool→Shared→Prop) (E':Nb),Q (O.blt (kv x) (kv y)) s→wpAny (model prog w) A (keyLt' kd x y) Q E' s):zbn prog w A E s (fun ws=>vs.length < 64→ws.Pairwise fun x y=>O.kle (kv x) (kv y)) vs:=by
 refine⟨λh2 _=>?_,λh2=>?_⟩
 ·obtain _ | ⟨v,_ | ⟨v',r⟩⟩:=vs
  ·exact List.Pairwise.nil
  ·exact Xj _ _
  ·exact absurd h2 (by simp)
 obtain⟨kd,a1,a2⟩:=h h2
 refine⟨kd,a1,λQ q=>?_⟩
 by_cases oN:vs.length<64
 ·have at_:∀ i,i < vs.length→vs.getD i .none∈vs:=fun i hi=>by
   rw[Qx,Qc hi]
   exact Qq hi
  have st0:SortSt.mk' kd (vs.toArray.zip vs.toArray) #[] 7 none=kas_st kd (pairsOf vs) (List.toArray (List.range vs.length)):=by
   unfold kas_st
   rw[←pairsOf_size vs,kas_range]
   rfl
  rw[st0]
  refine kas_runs (κ:=kd) (it:=pairsOf vs) (E:=E) (Q:=λr st s'=>s'=s∧Q r st) (G:=λp s'=>Aj3 (s'=s) (Ar vs.length p) (Up (O:=O) (λi=>kv (vs.getD i .none)) p vs.length)) h2 oN (λp a9 s' hz ha hf ⟨hs,P,U⟩=>⟨hs,q a9 ?_ hf λ_=>?_⟩) (t_sort (O:=O) (kf:=λi=>kv (vs.getD i .none)) (by omega) (λi j C hi hj hC=>?_) λp P U=>⟨rfl,P,U⟩)
  ·have:=(Zu.mp P.pm).map (kas_item (pairsOf vs))
   rw[←Xm,←Xm,←pairsOf_size vs,kas_range]at this
   rw[ha]
   exact Zu.mpr this
  ·rw [ha,Xm,Zp,Wt,Wy]
   intro i j hi hj aX
   have e:∀k (hk:k<p.toList.length),kv ((kas_item (pairsOf vs) p.toList[k]).2)=kk (λi=>kv (vs.getD i .none)) p k:=λk hk=>by
    unfold kk
    rw[kas_item_eq,Uk,getElem?_pos p k (by simpa using hk)]
    rfl
   show O.kle (kv _) (kv _)
   dsimp only[Function.comp]
   rw[e i hi,e j hj]
   exact U i j (Zo aX) (by simpa[P.sz] using hj)
  ·unfold kas_cmp
   rw[kas_item_eq,kas_item_eq]
   exact a2 _ _ (at_ i hi) (at_ j hj) _ _ hC
 ·exact wpS_sortAll (cmp_of λx y hx hy Q' E' q'=>a2 x y hx hy Q' E' (q' _)) rfl rfl (Array.Perm.refl _) rfl λa9 p1 p2=>q a9 p1 p2 λz=>absurd z oN
abbrev strO:KeyOrd:=strKind.toKeyOrd
def kvS(v:Value):List Nat:=(strOf v).cps.toList
def zef(hv:∀v∈vs,∃x t,v=.str x t):zbn prog w A E s (λws=>vs.length<64→ws.Pairwise λx y=>strO.kle (kvS x) (kvS y)) vs:=by
 refine .ord λh2=>⟨oneType',λQ q=>kas_kind (T:=.type "str") h2 (λv hm=>?_) (by decide) (by decide) q,λx y hx hy Q E' q=>?_⟩
 ·obtain ⟨x,t,rfl⟩:=hv v hm
  exact Looks.of_pure rfl
 ·obtain ⟨a,t,rfl⟩:=hv x hx
  obtain⟨b,u,rfl⟩:=hv y hy
  rw[keyLt'_oneType]
  exact oneLt_str q
def sort_list{a:Nc}{n:Nat}{P:Fin→Shared→Prop}(ho:s.heap.get? a=some (seqObj "list" vs.toArray n))(hz:vs.length≤sizeLine)(hS:∀s':Shared,(∀b o,b≠a→s.heap.get? b=some o→s'.heap.get? b=some o)→zbn prog w A E s' R vs)(h:∀ws:List Value,ws.Perm vs→R ws→P (.done (.ret .none)) {s with heap:=sortedHeap s.heap a vs ws.toArray}) :
  wpAny (model prog w) A (Builtin.«list.sort» ⟨[.ref a],[]⟩) P E s:=by
 have lt:a<s.heap.objs.size:=Qw ho
 rw[list_sort_plain]
 refine wpAny_bind (listItems_at ho rfl (wpAny_bind (listUpdate_at ho rfl ?_ (hsz:=by simpa using hz) (hsz2:=by simp))))
 obtain⟨e1,k1⟩:∃e,(s.heap.update a (Obj.mapSeq λ_=>#[])).get? a=some (seqObj "list" #[] e):=⟨_,get?_update_seq ho λ_=>#[]⟩
 refine wpAny_bind (seqEpoch_at k1 rfl (wpAny_bind (wpAny_newTuple (wpAny_bind (wpAny_newList (wpAny_holding ?_))))))
 show wpAny (model prog w) A _ P E {s with heap:=((s.heap.update a (Obj.mapSeq λ_=>#[])).push (seqObj "tuple" vs.toArray 0)).push (seqObj "list" #[] 0)}
 generalize hg:((s.heap.update a (Obj.mapSeq λ_=>#[])).push (seqObj "tuple" vs.toArray 0)).push (seqObj "list" #[] 0)=g
 have k6:g.get? a=some (seqObj "list" #[] e1):=by
  rw[←hg]
  exact Qi _ (Qi _ k1)
 have kk:∀b o,b≠a→s.heap.get? b=some o→g.get? b=some o:=λb o hb e=>by
  rw[←hg]
  exact Qi _ (Qi _ ((Uv s.heap _ (Zn hb)).trans e))
 have eh:∀out,sortedHeap s.heap a vs out=g.update a (Obj.mapSeq λ_=>out):=λout=>by rw[←hg];rfl
 have S:=hS {s with heap:=g} kk
 dsimp only
 have fin:∀(l:Array Keyed),l.toList.Perm (vs.map λv=>(v,v))→R (l.toList.map (·.2))→P (.done (.ret .none)) {s with heap:=g.update a (Obj.mapSeq λ_=>l.map (·.2))}:=λl p1 p2=>by
  have:=h _ (perm_back p1) p2
  rw[eh]at this
  rw[show l.map (·.2)=(l.toList.map (·.2)).toArray by rw[←Xm]]
  exact this
 have lz:vs.toArray.size=vs.length:=Qn
 have szOk:∀l:Array Keyed,l.toList.Perm (vs.map λv=>(v,v))→(l.map (·.2)).size≤sizeLine+1:=λl p1=>by
  rw[Array.size_map,←Yi,p1.length_eq,Qa];exact zg0 ‹_›
 by_cases few:vs.toArray.size<2
 ·rw [if_pos few,if_pos few]
  refine wpAny_bind (wpAny_pure ?_)
  rw[StateT.run_pure]
  have pr:(pairsOf vs).toList.Perm (vs.map λv=>(v,v)):=by rw[zcf]
  refine wpAny_bind (wpAny_pure (wpAny_bind (seqEpoch_at k6 rfl (wpAny_bind (listUpdate_at k6 rfl ?_ (hsz:=by simp) (hsz2:=szOk (pairsOf vs) pr))))))
  simp only[bne_self_eq_false,Wj,if_false]
  refine wpAny_pure (fin (pairsOf vs) pr ?_)
  rw[zcf,Zp,show((λ(p:Keyed)=>p.2)∘λv=>(v,v))=id from rfl,List.map_id]
  exact S.few (by rw[←lz];exact few)
 ·rw [if_neg few,if_neg few]
  obtain⟨kd,ask,C⟩:=S.go (by omega)
  refine wpAny_bind (ask _ ?_)
  refine wpAny_bind (wpAny_mono (C (λ_ a9=>Aj3 ((arrOf a9).Perm (pairsOf vs)) (failedOf a9=none) (R ((arrOf a9).toList.map (·.2)))) λa9 p1 p2 p3=>⟨p1,p2,p3⟩) ?_ λ_ _ e=>e)
  rintro⟨⟨⟩,a9⟩ s' ⟨rfl,p1,p2,p3⟩
  have pr:(arrOf a9).toList.Perm (vs.map λv=>(v,v)):=by rw[←zcf];exact Zu.mp p1
  dsimp only
  refine wpAny_bind (seqEpoch_at k6 rfl (wpAny_bind (listUpdate_at k6 rfl ?_ (hsz:=by simp) (hsz2:=szOk (arrOf a9) pr))))
  rw[p2]
  simp only[bne_self_eq_false,Wj,if_false]
  exact wpAny_pure (fin _ pr p3)
def zez{x:Value}{G:List Value→Prop}{R:List Value→List Value→Prop}{Q:Nb}(sD:∀(E':Nb) (R:List Value→Shared→Prop),(∀(g:Nm) (tk:Nat) (vs:Nh),(∀b o,s.heap.get? b=some o→g.get? b=some o)→s.heap.objs.size≤g.objs.size→G vs→R vs {s with heap:=g,toks:=tk})→wpAny (model prog w) A.in1 (collect x) R E' s)(hz:∀vs,G vs→vs.length≤sizeLine)(hS:∀vs,G vs→∀(A':Around) (E':Value→Shared→Prop) (s':Shared),A'.units≤A.units+8→(∀b o,s.heap.get? b=some o→s'.heap.get? b=some o)→zbn prog w A' E' s' (R vs) vs)(h:∀(vs ws:Nh) (l:Nc) (g:Nm) (tk e:Nat),G vs→ws.Perm vs→R vs ws→s.heap.objs.size≤l→(∀b o,s.heap.get? b=some o→g.get? b=some o)→g.get? l=some (seqObj "list" ws.toArray e)→Q (.ref l) {s with heap:=g,toks:=tk}) :
  wpAny (model prog w) A (call (.builtin "sorted") [x]) Q E s:=by
 refine Calls.call_function_entry kind_sorted plain_sorted entry_sorted (args_sorted1 _) ?_
 unfold Builtin.«sorted»
 refine wpAny_bind (m:=checkCount "sorted" 1 1 _) (wpAny_pure (wpAny_bind (sD _ _ λg tk vs kg le hG=>?_)))
 have hzv:=hz vs hG
 refine wpAny_bind (wpAny_newList ?_ (hsz:=hzv))
 have o1:(g.push (seqObj "list" vs.toArray 0)).get? g.objs.size=some (seqObj "list" vs.toArray 0):=Za _ rfl
 show wpAny _ _ _ _ _ {s with heap:=g.push (seqObj "list" vs.toArray 0),toks:=tk}
 refine wpAny_bind (wpAny_holding (wpAny_call_entry slot_list_sort ⟨_,o1,rfl⟩ entry_list_sort (sort_list (R:=R vs) o1 hzv (λs' k=>hS vs hG _ _ s' ?_ λb o e=>k b o (λz=>?_) (Qi _ (kg b o e))) λws p1 p2=>⟨_,rfl,?_⟩) (args_list_sort _)))
 ·show A.units+1+1≤A.units+8
  omega
 ·have lt:b < g.objs.size:=Qw (kg b o e)
  rw[z]at lt
  exact absurd lt (Yr _)
 ·obtain ⟨e,he⟩:=sortedHeap_at (out:=ws.toArray) o1
  refine wpAny_pure ⟨_,rfl,h vs ws _ _ _ e hG p1 p2 le (λb o q=>?_) he⟩
  have lt:b<g.objs.size:=Qw (kg b o q)
  rw[sortedHeap_old (Zk lt) (by rw[size_push'];exact Ke lt)]
  exact Qi _ (kg b o q)
def zgv{T:String}{r d:Nc}{n:Nat}{P:Nat→Value→Prop}{OK:Heap→Prop}{R:List Value→Shared→Prop}(K:KdlSrc prog w T r d n P OK)(hh:A.handled=none)(ok:OK s.heap)(hn:n≤sizeLine)(h:∀(g:Nm) (tk:Nat) (af:Array Value),(∀b o,s.heap.get? b=some o→g.get? b=some o)→s.heap.objs.size≤g.objs.size→ItemsOf P af n→R af.toList {s with heap:=g,toks:=tk}) :
  wpAny (model prog w) A (collect (.ref r)) R E s:=by
 have there:=K.there _ ok
 unfold collect
 refine wpAny_bind (wpAny_runValue (codeAny_builtin entry_proto_collect' ?_))
 rw[Wv PySem.F.plain_proto_collect _]
 show wpAny _ A.in1 (newList [] >>= λl =>
  again (.builtin "list.__iadd__" ⟨[l,.ref r],[]⟩)) _ _ s
 refine wpAny_bind (wpAny_newObj_type (wpAny_pure ⟨plainId_quiet PySem.F.plain_list_iadd _,codeAny_builtin entry_list_iadd' ?_⟩))
 rw[Wv PySem.F.plain_list_iadd _]
 show wpAny _ A.in1 (Builtin.List.listExtendWith (.ref s.heap.objs.size)
  (.ref r) (.ref s.heap.objs.size)) _ _ _
 have jK:(s.heap.push {cls:=.type "list",data:=.seq ([]:List Value).toArray}).get? s.heap.objs.size=some {cls:=.type "list",data:=.seq #[]}:=Za _ rfl
 refine wpAny_mono (kdl_extend (A:=A) (s:={s with heap:=s.heap.push {cls:=.type "list",data:=.seq ([]:List Value).toArray}})
  (R:=fun (q:Result) (s':Ng)=>∃ (g:Nm) (tk:Nat) (af:Array Value) (c:Nat),q=.ok (.ret (.ref s.heap.objs.size))∧s'={ s with heap:=g,toks:=tk } ∧
   (∀b o,s.heap.get? b=some o→g.get? b=some o)∧g.get? s.heap.objs.size=some {cls:=.type "list",dict:=none,data:=.seq af c,slots:=#[]}∧ItemsOf P af n)
  K hh (K.keep _ _ ok λb _ o e=>Qi _ e) s.heap.objs.size (Wg there.1) (Wg there.2) (.ref s.heap.objs.size) 0 jK
  (λg tk af c hk hS ha=>⟨g,tk,af,c,rfl,rfl,λb o e=>hk b o (Zk (Qw e)) (Qi _ e),hS,ha⟩) hn) (λfin s' x=>?_) λe s' x=>?_
 ·cases fin with
  |done f =>
   obtain⟨g,tk,af,c,e,rfl,hk,hS,ha⟩:=x
   cases e
   show wpAny _ A (load s.heap.objs.size >>= _) _ _ _
   exact wpAny_bind (wpAny_load hS (wpAny_pure (h g tk af hk (Zo (Qw hS)) ha)))
  |again c1 =>
   refine⟨x.1,codeAny_mono x.2 λq s2 y=>?_⟩
   obtain⟨g,tk,af,c,rfl,rfl,hk,hS,ha⟩:=y
   show wpAny _ A (load s.heap.objs.size >>= _) _ _ _
   exact wpAny_bind (wpAny_load hS (wpAny_pure (h g tk af hk (Zo (Qw hS)) ha)))
 ·obtain ⟨_,_,_,_,e',_⟩:=x
  cases e'
def sorted_any{Q:Nb}(hl:s.heap.IsList l vs.toArray)(hz:vs.length≤sizeLine)(hS:∀(A':Around) (E':Value→Shared→Prop) (s':Shared),A'.units≤A.units+8→(∀b o,s.heap.get? b=some o→s'.heap.get? b=some o)→zbn prog w A' E' s' R vs)(h:∀(ws:Nh) (l:Nc) (g:Nm) (tk e:Nat),ws.Perm vs→R ws→s.heap.objs.size≤l→(∀b o,s.heap.get? b=some o→g.get? b=some o)→g.get? l=some (seqObj "list" ws.toArray e)→Q (.ref l) {s with heap:=g,toks:=tk}) :
  wpAny (model prog w) A (call (.builtin "sorted") [.ref l]) Q E s :=
 zez (G:=λus=>us=vs) (R:=λ_=>R) (λE' R' hR=>collect_list hl (hR _ _ _ (λb o e=>(Uv _ _ (Zn (Zk (Qw e)))).trans (Qi _ e)) (by rw[Heap.size_update,size_push'];exact Kb _) rfl) hz) (λus e=>e▸hz) (λus e=>e▸hS) λus ws l g tk e e' p1 p2=>h ws l g tk e (e'▸p1) p2
end
def str_ext{a b:Str}(h:a.cps.toList=b.cps.toList):a=b:=by
 cases a;cases b
 exact congrArg _ (Xn.mp h)
def str_ne{a b:Str}(h:¬a=b):¬a.cps.toList=b.cps.toList:=λq=>h (str_ext q)
def pairO(O P:KeyOrd):KeyOrd where
 α:=O.α×P.α
 blt a b:=O.blt a.1 b.1||(!O.blt b.1 a.1&&P.blt a.2 b.2)
 irrefl a:=by rw[O.irrefl,P.irrefl];rfl
 trans a b c h1 h2:=by
  simp only[Bool.or_eq_true,Kk,Wu]at *
  rcases h1 with h1 | ⟨n1,h1⟩
  ·rcases h2 with h2 | ⟨n2,h2⟩
   ·exact .inl (O.trans _ _ _ h1 h2)
   ·exact .inl (KeyOrd.klt_of_klt_of_kle h1 n2)
  ·rcases h2 with h2 | ⟨n2,h2⟩
   ·exact .inl (KeyOrd.klt_of_kle_of_klt n1 h2)
   ·exact .inr ⟨Yu n1 n2,P.trans _ _ _ h1 h2⟩
 negTrans a b c h:=by
  simp only[Bool.or_eq_true,Kk,Wu]at *
  rcases h with h | ⟨n,h⟩
  ·rcases O.negTrans _ b.1 _ h with q | q
   ·exact .inl (.inl q)
   ·exact .inr (.inl q)
  ·cases e1:O.blt a.1 b.1 with
   |true=>exact .inl (.inl rfl)
   | false =>
    cases e2:O.blt b.1 c.1 with
    |true=>exact .inr (.inl rfl)
    |false =>
     have n1:O.blt b.1 a.1=false:=Yu (O:=O) (a:=a.1) (b:=c.1) (c:=b.1) n e2
     have n2:O.blt c.1 b.1=false:=Yu (O:=O) (a:=b.1) (b:=a.1) (c:=c.1) e1 n
     rcases P.negTrans _ b.2 _ h with q | q
     ·exact .inl (.inr ⟨n1,q⟩)
     ·exact .inr (.inr ⟨n2,q⟩)
 total a b h1 h2:=by
  simp only[Bool.or_eq_false_iff,Bool.and_eq_false_iff,Jz]at *
  have e1:=O.total _ _ h1.1 h2.1
  obtain⟨a1,a2⟩:=a
  obtain⟨b1,b2⟩:=b
  simp only at e1 h1 h2
  subst e1
  have i:=O.irrefl a1
  rw[i]at h1 h2
  have p1:P.blt a2 b2=false:=h1.2.elim (λz=>by cases z) id
  have p2:P.blt b2 a2=false:=h2.2.elim (λz=>by cases z) id
  rw[P.total _ _ p1 p2]
def zif(h:Nm):Value→List Value
 | .ref a=>match h.get? a with
  |some o=>match o.data with
   |.seq xs _=>xs.toList
   |_=>[]
  |none=>[]
 |_=>[]
def itemsAt_ref(e:h.get? a=some o)(d:o.data=.seq xs n):zif h (.ref a)=xs.toList:=by
 unfold zif
 dsimp only
 rw[e]
 dsimp only
 rw[d]
def kvP(h:Nm)(v:Value):List Nat×List Nat:=(kvS ((zif h v).getD 0 .none),kvS ((zif h v).getD 1 .none))
def zdz(h:Nm)(v:Value)(x:Str)(q:Value):Prop:=∃a o t n,v=.ref a∧h.get? a=some o∧o.cls=.type "tuple" ∧ o.data=.seq #[.str x t,q] n
def zdz.key(p:zdz h v x q):kvP h v=(x.cps.toList,kvS q):=by
 obtain⟨a,o,t,n,rfl,e,c,d⟩:=p
 unfold kvP
 rw[itemsAt_ref e d]
 rfl
theorem katTups(k:∀b o,h.get? b=some o→s.get? b=some o):∀(vs:Nh),(∀v∈vs,∃x q,zdz h v x q)→∃fs,KatTups s vs fs∧fs.length=vs.length∧∀f∈fs,∃x t,f=.str x t
 |[],_=>⟨[],.nil,rfl,λf hf=>by cases hf⟩
 |v::vs,hv=>by
  obtain⟨fs,h1,h2,h3⟩:=katTups k vs λu hu=>hv u (Qg _ hu)
  obtain⟨x,q,a,o,t,n,rfl,e,c,d⟩:=hv v Qe
  refine⟨.str x t::fs,.cons (k _ _ e) c d rfl h1,by rw[Zg,Zg,h2],λf hf=>?_⟩
  rcases Qh.mp hf with z | z
  ·exact⟨x,t,z⟩
  ·exact h3 f z
section
variable{prog:Ni}{w:Nl}{A:Nn}{E:Nb}{s:Ng}{vs:Nh}{h:Nm}
def kind_tups(k:∀b o,h.get? b=some o→s.heap.get? b=some o)(hv:∀v∈vs,∃x q,zdz h v x q)(h2:2≤vs.length)(q:Q (tuples' true) s):wpAny (model prog w) A (keyKind' vs.toArray) Q E s:=by
 obtain⟨fs,h1,h3,h4⟩:=katTups k vs hv
 refine kat_kind (T:=.type "str") h1 (by omega) (λf hf=>?_) (by decide) q
 obtain⟨x,t,rfl⟩:=h4 f hf
 exact Looks.of_pure rfl
def blt_p:(pairO strO strO).blt (x,y) (x',y')=if x=x' then decide (y<y') else decide (x<x'):=by
 show(decide (x<x')||(!decide (x'<x)&&decide (y<y')))=_
 split
 ·rename_i e
  subst e
  rw[decide_eq_false (Wi x)];rfl
 ·rename_i ne
  by_cases h1:x<x'
  ·rw[decide_eq_true h1];rfl
  ·rw[decide_eq_false h1,decide_eq_true (Jr λh2=>ne (strO.total _ _ (decide_eq_false h1) (decide_eq_false h2)))];rfl
def zee(k:∀ b o,h.get? b=some o→s.heap.get? b=some o)(hv:∀ v∈vs,∃ x q,zdz h v x q)(hd:∀ v∈vs,∀ u∈vs,∀ x p q,zdz h v x p→zdz h u x q→v=u∨∃ y t y' t',p=.str y t∧q=.str y' t'):zbn prog w A E s (fun ws=>vs.length < 64→ws.Pairwise fun x y=>(pairO strO strO).kle (kvP h x) (kvP h y)) vs:=by
 refine .ord λh2=>⟨tuples' true,λQ q=>kind_tups k hv h2 q,λv v' hx hy Q E' q=>?_⟩
 have same:=hd v hx v' hy
 obtain⟨x,z,p⟩:=hv v hx
 obtain⟨x',z',p'⟩:=hv v' hy
 have P:=p
 have P':=p'
 rw[P.key,P'.key,blt_p]at q
 obtain⟨a,o,t,n,rfl,e,c,d⟩:=p
 obtain⟨a',o',t',n',rfl,e',c',d'⟩:=p'
 refine kat_lt (k _ _ e) d (k _ _ e') d' ?_
 show KatLex _ _ _ _ _ _ [(Value.str x t,Value.str x' t'),(z,z')] 0 s
 refine kat_cons (wpAny_eqBool_str ?_)
 by_cases ex:x=x'
 ·subst ex
  rw[if_pos rfl]at q
  rw[decide_eq_true rfl]
  refine kat_yes (kat_cons ?_)
  rcases same x z z' P P' with e2 | ⟨y,u,y',u',rfl,rfl⟩
  ·cases e2
   rw[e]at e'
   cases e'
   rw[d]at d'
   have d2:(#[Value.str x t,z]:Array Value)=#[Value.str x t',z']:=by injection d'
   have d3:z=z':=by
    have:=congrArg (λa:Array Value=>a[1]?) d2
    simpa using this
   subst d3
   rw[decide_eq_false (Wi _)]at q
   exact SeqAt.EqAt.same z _ _ _ _ (kat_yes (kat_nil q))
  ·refine wpAny_eqBool_str ?_
   by_cases ey:y=y'
   ·subst ey
    rw[show kvS (Value.str y u')=kvS (Value.str y u) from rfl,decide_eq_false (Wi _)]at q
    rw[decide_eq_true rfl]
    exact kat_yes (kat_nil q)
   ·rw [decide_eq_false ey]
    exact kat_no (kat_one _ _ (lt_str q))
 ·rw [decide_eq_false ex]
  rw[if_neg (str_ne ex)]at q
  exact kat_no (oneLt_str q)
end
def lt_loopAt(l b:Nc)(xs ys:List (Str×Tok))(n n2:Nat)(k:Nat) :
  ∀ i:Nat,min xs.length ys.length - i=k→i≤min xs.length ys.length→Meets (Builtin.«list.__eq__.loop» ⟨[.ref l,.ref b,rawInt i,rawInt 0],[]⟩)
   (fun A R s=>s.heap.get? l=some { cls:=.type "list",data:=.seq (strValues xs).toArray n }∧s.heap.get? b=some { cls:=.type "list",data:=.seq (strValues ys).toArray n2 } ∧
    ∀z,R (.ok (.ret (.bool z))) s):=by
 have get:∀(zs:List (Str×Tok)) (i:Nat),(strValues zs).toArray[((i:Nat):Int).toNat]?=zs[i]?.map λp=>Value.str p.1 p.2:=λzs i=>by
  simp[strValues]
 induction k with
 | zero =>
  intro i hk iW prog w A R s h
  obtain⟨hp,g,d,tk,os⟩:=s;obtain⟨hl,hb,h⟩:=h
  wp_walk using wpAny_loadPart' hl,wpAny_loadPart' hb
  rw[get,get]
  by_cases hx:i<xs.length
  ·have hy:ys[i]?=none:=by simp;lia
   rw[hy,Qc hx]
   dsimp only[Option.map_some,Option.map_none]
   wp_walk using wpAny_loadPart' hl,wpAny_loadPart' hb
   exact h _
  ·have c7:xs[i]?=none:=by simp;lia
   rw[c7]
   dsimp only[Option.map_some,Option.map_none]
   wp_walk using wpAny_loadPart' hl,wpAny_loadPart' hb
   exact h _
 | succ k ih =>
  intro i hk iW prog w A R s h
  obtain⟨hp,g,d,tk,os⟩:=s;obtain⟨hl,hb,h⟩:=h
  wp_walk using wpAny_loadPart' hl,wpAny_loadPart' hb
  have hx:i<xs.length:=by lia
  have hy:i<ys.length:=by lia
  rw[get,get,Qc hx,Qc hy]
  dsimp only[Option.map_some]
  have hc:((i:Int)+1)=((i+1:Nat):Int):=by push_cast;rfl
  refine wpAny_bind (wpAny_eqBool_str ?_)
  by_cases he:xs[i].1=ys[i].1
  ·rw [decide_eq_true he]
   wp_walk
   rw[hc]
   exact⟨plainId_quiet plain_eq_loop _,codeAny_builtin entry_eq_loop (by
    rw[Wv plain_eq_loop _]
    exact ih (i+1) (by lia) (by lia) prog w A R _ ⟨hl,hb,h⟩)⟩
  ·rw [decide_eq_false he]
   wp_walk using wpAny_loadPart' hl,wpAny_loadPart' hb
   rw[get,get,Qc hx,Qc hy]
   dsimp only[Option.map_some]
   refine wpAny_bind (show wpAny _ _ (compareOp .Lt (Value.str xs[i].1 xs[i].2) (Value.str ys[i].1 ys[i].2)) _ _ _ from lt_str ?_)
   wp_walk
   exact h _
def list_ltAt(l b:Nc)(xs ys:List (Str×Tok))(n n2:Nat):Meets (Builtin.«list.__lt__» ⟨[.ref l,.ref b],[]⟩)
   (fun A R s=>s.heap.get? l=some { cls:=.type "list",data:=.seq (strValues xs).toArray n }∧s.heap.get? b=some { cls:=.type "list",data:=.seq (strValues ys).toArray n2 } ∧
    ∀z,R (.ok (.ret (.bool z))) s):=by
 intro prog w A R s h
 obtain⟨hp,g,d,tk,os⟩:=s;obtain⟨hl,hb,h⟩:=h
 have f3:=AutoSeq1.sub_list_list
 wp_walk using wpAny_loadPart' hl,wpAny_loadPart' hb
 exact⟨plainId_quiet plain_eq_loop _,codeAny_builtin entry_eq_loop (by
  rw[Wv plain_eq_loop _]
  exact lt_loopAt l b xs ys n n2 _ 0 rfl (Zh _) prog w A R _ ⟨hl,hb,h⟩)⟩
section
variable{prog:Ni}{w:Nl}{A:Nn}{E:Nb}{s:Ng}
def zg2{vs:Nh}{h:Nm}(hu:A.units<cLine)(k:∀b o,h.get? b=some o→s.heap.get? b=some o)(hv:∀v∈vs,∃a xs n,v=.ref a∧h.get? a=some {cls:=.type "list",data:=.seq (strValues xs).toArray n}):zbn prog w A E s (λ_=>True) vs:=by
 refine .any λh2=>⟨oneType',λQ q=>kas_kind (T:=.type "list") h2 (λv hm=>?_) (by decide) (by decide) q,λx y hx hy Q E' q=>?_⟩
 ·obtain ⟨a,xs,n,rfl,e⟩:=hv v hm
  exact(Looks.ld (k _ _ e)).andThen .now
 ·obtain ⟨a,xs,n,rfl,e⟩:=hv x hx
  obtain⟨b,ys,m,rfl,e'⟩:=hv y hy
  rw[keyLt'_oneType,oneLt'_eq]
  simp only[if_true]
  refine wpAny_bind (wpAny_cRoomFor hu ?_)
  refine wpAny_bind (wpAny_callSpecialIfBound?_slot ⟨_,k _ _ e,rfl⟩ F.slot_list_lt (call_meets F.slot_list_lt ⟨_,k _ _ e,rfl⟩ F.entry_list_lt (F.args_list_lt_2 _ _) (list_ltAt a b xs ys n m) ⟨k _ _ e,k _ _ e',λz=>?_⟩))
  exact wpAny_truthy_bool (q _)
end
end Tm
end
section
namespace L2
open PySem PySem.Spec PyProof.Rows
def zig{K:Na}{a:Nc}{zs:Nj}{g:TG}{tb:TS}{D:Ends}{σ:St}{H:Hp}(Pv:Nat→St→Hp→Prop)(h0:Pv 0 σ H)(hl:∀i σ H,i≤(zs.map V.str).length→Pv i σ H→SqL K H a (zs.map V.str))(hs:∀i (hi:i<zs.length) σ H,Pv i σ H→g (.str zs[i]) σ H λ σ2 H2=>tb {D with nx:=Pv (i+1),ct:=Pv (i+1),bk:=D.nx} σ2 H2)(hd:∀σ H,Pv (zs.map V.str).length σ H→D.nx σ H) :
  ∃W:Nat→Nat→St→Hp→Prop,(∃m,W 0 m σ H)∧∀i m σ H,W i m σ H →
   ((Itl K a).stop i H∧D.nx σ H)∨((Itl K a).go i H∧∃N:St→Hp→Prop,(∀σ' H',N σ' H'→∃m',m'<m∧W (i+1) m' σ' H')∧∀x H',(Itl K a).yld i H x H'→g x σ H' λ σ2 H2=>tb {D with nx:=N,ct:=N,bk:=D.nx} σ2 H2) :=
 zbv Pv h0 hl (λi x σ H e p=>by
  have hi:i<zs.length:=by
   have:=(Zd.mp e).1
   rwa[Qa]at this
  rw[Qr,Qc hi]at e
  cases e
  exact hs i hi σ H p) hd
section
variable{X:Cx}
inductive RrIndex(x:V)(vs:List V)(H:Hp)(Q:VK):Prop
 |mk (l:Nc) (xs:List V) (y:V) (j:Nat) (h0:x=.ref l) (h1:vs=[y]) (h2:H l=some (.lst xs)) (h3:zdo y=true) (h4:xs.all zdo=true) (h5:(∃z,xs[j]?=some z∧eqV z y=true)) (h6:(∀m z,m<j→xs[m]?=some z→eqV z y=false)) (h7:Q (.int j) H):RrIndex x vs H Q
def rIndex:V→List V→Hp→VK→Prop:=λx vs H Q=>RrIndex x vs H Q
def zel:MtM X "list.index" rIndex:=by
 intro a7 s σ H x vs v us Q I rx rv h
 obtain⟨l,xs,y,j,rfl,rfl,hH,fy,fs,⟨z,hz,ez⟩,cF,q⟩:=h
 cases rx
 obtain⟨u,rfl,ru⟩:=rv.one
 obtain⟨zz,a8,n,r,hl,e⟩:=I.lstM hH
 have hn:=zeo
 obtain⟨wv,hw,db⟩:=r.get hz
 have hj:j<a8.length:=(Zd.mp hw).1
 have fl:∀{i:Nat} {a:V},xs[i]?=some a→zdo a=true:=λ{i a} q=>Jq.mp fs a (Yz q)
 refine call_meets F.slot_list_index ⟨_,e,rfl⟩ F.entry_list_index (F.args_list_index_2 _ _)
  (SeqAt.list_indexAt l a8.toArray n none #[] u (eqU y) j (by simpa using hj) (by lia) ?_ ?_) ⟨e,λa ha=>zdu ru fy r fs a (by simpa using ha),?_⟩
 ·have e1:a8[j]=wv:=by
   have:=Qc hj
   rw[this]at hw;exact Qs hw
  show eqU y (a8.toArray[j])=true
  rw[Uy,e1,eqU_of db (fl hz)]
  exact ez
 ·intro m hm ae
  have hm':m<a8.length:=by simpa using hm
  have bh:m<xs.length:=by exact zar6 ‹_› ‹_›
  have gx:xs[m]?=some xs[m]:=Qc bh
  obtain⟨wm,hwm,rm⟩:=r.get gx
  have e1:a8[m]=wm:=by
   have:=Qc hm'
   rw[this]at hwm;exact Qs hwm
  show eqU y (a8.toArray[m])=false
  rw[Uy,e1,eqU_of rm (fl gx)]
  exact cF m _ ae gx
 ·exact⟨.int j,H,I.tok _,⟨_,rfl⟩,q⟩
inductive RrInsert(x:V)(vs:List V)(H:Hp)(Q:VK):Prop
 |mk (l:Nc) (xs:List V) (y:V) (k:Nat) (h0:x=.ref l) (h1:vs=[.int k,y]) (h2:H l=some (.lst xs)) (h3:xs.length<sizeLine) (h4:k≤xs.length) (h5:Q .non (upd H l (.lst (xs.take k++y::xs.drop k)))):RrInsert x vs H Q
def rInsert:V→List V→Hp→VK→Prop:=λx vs H Q=>RrInsert x vs H Q
def zgi:MtM X "list.insert" rInsert:=by
 intro a7 s σ H x vs v us Q I rx rv h
 obtain⟨l,xs,y,k,rfl,rfl,hH,hz,hk,q⟩:=h
 cases rx
 obtain⟨u1,u,rfl,⟨t,rfl⟩,ru⟩:=rv.two
 obtain⟨zz,a8,n,r,hl,e⟩:=I.lstM hH
 have hn:=zeo
 obtain⟨i,hi⟩:∃i:Int,i=(k:Int):=⟨_,rfl⟩
 have rO:¬(!Builtin.List.listFitsIndex i)=true:=by
  rw[fitsIndex_both (by lia) (by lia)]
  exact Zb
 have hsz:a8.toArray.size≤sizeLine:=by rw[Qn];exact zd3 ‹_› ‹_›
 have M:=AutoSeq1.list_insert_list_int_val_1 l a8.toArray n i t u rO hsz
 rw[←hi]
 refine call_meets F.slot_list_insert ⟨_,e,rfl⟩ F.entry_list_insert (F.args_list_insert_3 _ _ _) M ⟨e,?_⟩
 refine⟨.non,_,I.lset (its':=a8.take k++u::a8.drop k) hH e ?_ ((r.take k).append (.cons ru (r.drop k))) ?_,rfl,q⟩
 ·have e1:¬ (i < 0):=by lia
  have e2:min i.toNat a8.toArray.size=k:=by rw[Qn];lia
  show(a8.toArray.extract 0 (if i<0 then(i+((a8.toArray.size:Nat):Int)).toNat else min i.toNat a8.toArray.size)).push u++a8.toArray.extract (if i<0 then(i+((a8.toArray.size:Nat):Int)).toNat else min i.toNat a8.toArray.size)=_
  rw[if_neg e1,e2]
  apply Xn.mp
  simp
  rw[Qu (by rw[Yj];exact Qd _)]
 ·simp;lia
theorem zfu:∀{zs:Nj} {a8:Nh},Vals (zs.map V.str) a8→∃l:List (Str×Tok),a8=PySem.strValues l∧l.map (·.1)=zs
 |[],_,.nil=>⟨[],rfl,rfl⟩
 |z::zs,_,.cons r t=>by
  obtain⟨tk,rfl⟩:=r
  obtain⟨l,rfl,e⟩:=zfu t
  exact⟨(z,tk)::l,rfl,by rw[Qk,e]⟩
def call_isi_str:zb3 X (.builtin "isinstance") (λxs H Q=>Ex1 λz=>Aj2 (xs=[.str z,.ty "str"]) (Q (.bl true) H)):=by
 intro a7 s σ H xs us Q I r h
 obtain⟨z,rfl,q⟩:=h
 obtain⟨u,w',rfl,⟨t,rfl⟩,e⟩:=vals2 r
 have e':w'=Value.type "str" := e
 subst e'
 exact IsiPair.str_str ⟨.bl true,H,I,rfl,q⟩
def zhr{a7:Nd}{s:Ng}{σ:St}{H:Hp}{p:Nc}{ys:List V}(hc:X.calm=true)(I:Inv X a7 σ H s)(hq:SqL X.K H p ys){Q:Nb}(h:∀ (a8:Nh) (It:Nc) (h1:Nm),Vals ys a8→Walks X.prog X.w X.A.in1 It [It,p] [It] a8.toArray.size (fun i v=>a8.toArray[i]?=some v) (fun i h=>h.IsListIter It p i∧h.IsList p a8.toArray)→(h1.IsListIter It p 0∧h1.IsList p a8.toArray)→(∀ b∈[It,p],b < h1.objs.size) →
   (∀(h':Nm) (tk:Nat),(∀b o,b∉[It]→h1.get? b=some o→h'.get? b=some o)→Inv X a7 σ H {s with heap:=h',toks:=tk})→Q (.ref It) {s with heap:=h1}) :
  wpAny (model X.prog X.w) X.A.in1 (pyIter (.ref p)) Q X.xe s:=by
 obtain⟨a8,rv,pl,hz⟩:=I.list hq
 refine wpAny_pyIter_list pl.isList ?_
 have lt:p<s.heap.objs.size:=by obtain⟨o,n,e,_⟩:=pl;exact Qw e
 refine h a8 s.heap.objs.size _ rv (Walks.list (show X.A.in1.handled=none from I.ok.hd hc) _ _ (Zk lt) _) ⟨⟨_,Za _ rfl,rfl,rfl⟩,?_⟩ (λb hb=>?_) λh' tk k=>I.kept (t':=tk) λb o e=>?_
 ·obtain ⟨o,e,r⟩:=pl.isList
  exact⟨o,Qi _ e,r⟩
 ·rcases Qh.mp hb with e | e
  ·rw[e];simp[Heap.push]
  ·rw[Qb.mp e];simp[Heap.push];exact Ke lt
 ·exact k b o (λz=>absurd (Qw e) (by rw[Qb.mp z];exact Yr _)) (Qi _ e)
theorem zd7(ns:List Int):∀k,k≤ns.length→preSum (λi=>ns.getD i 0) k=(ns.take k).sum
 |0,_=>rfl
 |k+1,h=>by
  show preSum (λi=>ns.getD i 0) k+ns.getD k 0=_
  have hk:k<ns.length:=h
  rw[zd7 ns k (by exact Zo ‹_›),Qo hk,List.sum_append,List.sum_singleton]
  congr 1
  simp[List.getD,hk]
theorem zg8:∀{ns:List Int} {a8:Nh},Vals (ns.map V.int) a8→∀(i:Nat) (v:Value),a8[i]?=some v→∃t,v=Value.int (ns.getD i 0) t
 |[],_,.nil,i,v,e=>by simp at e
 |n::ns,_,.cons r t,0,v,e=>by
  obtain⟨tk,rfl⟩:=r
  simp at e;subst e
  exact⟨tk,rfl⟩
 |n::ns,_,.cons r t,i+1,v,e=>by
  obtain⟨tk,h⟩:=zg8 t i v (by simpa using e)
  exact⟨tk,by rw[h];simp⟩
def sum_small{ns:List Int}(hb:∀n∈ns,0≤n∧n≤1000000):0≤ns.sum∧ns.sum≤1000000*(ns.length:Int):=by
 induction ns with
 |nil=>simp
 |cons a r ih =>
  have h1:=hb a Qe
  have h2:=ih λn hn=>hb n (Qg _ hn)
  rw[Yo,Zg]
  lia
def call_sum(hc:X.calm=true):zb3 X (.builtin "sum") (λxs H Q=>Ex2 λ(p:Nc) (ns:List Int)=>Aj5 (xs=[.ref p]) (SqL X.K H p (ns.map V.int)) (ns.length≤1000000) (∀n∈ns,0≤n∧n≤1000000) (Q (.int ns.sum) H)):=by
 intro a7 s σ H xs us Q I r h
 obtain⟨p,ns,rfl,hq,hl,hb,q⟩:=h
 obtain⟨u,rfl,rx⟩:=vals1 r
 cases rx
 refine call_sum_walk (zhr hc I hq λa8 It h1 rv W st lt keep=>⟨It,_,_,_,_,_,λi=>ns.getD i 0,rfl,W,st,lt,λi v e=>zg8 rv i v (by simpa using e),λj hj=>?_,λh' tk t' k=>⟨.int ns.sum,H,keep h' tk k,⟨t',?_⟩,q⟩⟩)
 ·have aJ:=rv.length
  rw[Qa]at aJ
  have kb:j<ns.length:=by rw[aJ];simpa using hj
  have s1:=sum_small (ns:=ns.take (j+1)) λn hn=>hb n (Yp hn)
  rw[Zc]at s1
  have g:ns.getD j 0=ns[j]:=by simp[List.getD,kb]
  have g2:=hb _ (Qq kb)
  refine⟨?_,?_⟩
  ·show InLong (ns.getD j 0)
   rw[g];unfold InLong;lia
  ·rw [zd7 ns (j+1) kb]
   unfold InLong;lia
 ·have aJ:=rv.length
  rw[Qa]at aJ
  rw[Qn,zd7 ns _ (by lia),←aJ,Qu (Qd _)]
theorem zg9:∀{bs:List Bool} {a8:Nh},Vals (bs.map V.bl) a8→∀(i:Nat) (v:Value),a8[i]?=some v→v=Value.bool (bs.getD i true)
 |[],_,.nil,i,v,e=>by simp at e
 |n::ns,_,.cons r t,0,v,e=>by
  cases r
  simp at e;subst e
  rfl
 |n::ns,_,.cons r t,i+1,v,e=>by
  have h:=zg9 t i v (by simpa using e)
  rw[h];simp
def all_range(bs:List Bool):(List.range bs.length).all (λi=>bs.getD i true)=bs.all id:=by
 rw[Wm,Jq,Jq]
 constructor
 ·intro h x hx
  obtain⟨i,hi,e⟩:=Zf hx
  have:=h i (Yq.mpr hi)
  simp[List.getD,hi]at this
  rw[←e];exact this
 ·intro h i hi
  have dy:=Yq.mp hi
  simp[List.getD,dy]
  exact h _ (Qq dy)
def call_all(hc:X.calm=true):zb3 X (.builtin "all") (λxs H Q=>Ex2 λ(p:Nc) (bs:List Bool)=>Aj3 (xs=[.ref p]) (SqL X.K H p (bs.map V.bl)) (Q (.bl (bs.all id)) H)):=by
 intro a7 s σ H xs us Q I r h
 obtain⟨p,bs,rfl,hq,q⟩:=h
 obtain⟨u,rfl,rx⟩:=vals1 r
 cases rx
 refine call_all_walk (zhr hc I hq λa8 It h1 rv W st lt keep=>⟨It,_,_,_,_,_,λi=>bs.getD i true,rfl,W,st,λi v s' Q' E' e q'=>?_,λh' tk k=>⟨.bl (bs.all id),H,keep h' tk k,?_,q⟩⟩)
 ·have e':=zg9 rv i v (by simpa using e)
  subst e'
  exact wpAny_truthy_bool q'
 ·have aJ:=rv.length
  rw[Qa]at aJ
  show Value.bool _=Value.bool _
  rw[Qn,←aJ,all_range]
end
end L2
end
section
namespace L2
open PySem PySem.Spec PyProof.Rows Tm
def Vals.perm{ws us:Nh}(p:ws.Perm us):∀{ys:List V},Vals ys us→∃zs,zs.Perm ys∧Vals zs ws:=by
 induction p with
 |nil=>intro ys r;cases r;exact⟨[],.nil,.nil⟩
 | cons x q ih =>
  intro ys r
  cases r with
  |cons r1 r2 =>
   obtain⟨zs,h1,h2⟩:=ih r2
   exact⟨_::zs,h1.cons _,.cons r1 h2⟩
 | swap x y l =>
  intro ys r
  cases r with
  |cons r1 r2 =>
   cases r2 with
   |cons r3 r4=>exact⟨_,List.Perm.swap ..,.cons r3 (.cons r1 r4)⟩
 |trans _ _ ih1 ih2 =>
  intro ys r
  obtain⟨zs,h1,h2⟩:=ih2 r
  obtain⟨cH,h3,h4⟩:=ih1 h2
  exact⟨cH,h3.trans h1,h4⟩
theorem Vals.pairwise{α:Type}{R:α→α→Prop}{kv:Value→α}{kV:V→α}:∀{zs:List V} {ws:Nh},Vals zs ws→(∀v∈zs,∀u,RelV v u→kv u=kV v)→ws.Pairwise (λa b=>R (kv a) (kv b))→zs.Pairwise λa b=>R (kV a) (kV b)
 |_,_,.nil,_,_=>.nil
 |v::zs,u::ws,.cons r t,hk,h=>by
  rw[Ua]at h ⊢
  refine⟨λb hb=>?_,Vals.pairwise t (λv hv=>hk v (Qg _ hv)) h.2⟩
  obtain⟨i,hi,e⟩:=Zf hb
  obtain⟨x,hx,rx⟩:=Vals.get t (i:=i) (x:=b) (by rw[Qc hi,e])
  have:=h.1 x (Yz hx)
  rw[hk v Qe u r,hk b (Qg _ hb) x rx]at this
  exact this
section
variable{X:Cx}
def zc6{a7:Nd}{s:Ng}{σ:St}{H:Hp}{p:Nc}{ys:List V}{R:List Value→List Value→Prop}{Q:VK}(I:Inv X a7 σ H s)(hq:SqL X.K H p ys)(hS:∀a8,Vals ys a8→∀(A':Around) (E':Value→Shared→Prop) (s':Shared),A'.units≤X.A.units+8→(∀b o,s.heap.get? b=some o→s'.heap.get? b=some o)→zbn X.prog X.w A' E' s' (R a8) a8)(h:∀(l:Nc) (ws:List V) (a8 us:Nh),H l=none→ws.Perm ys→Vals ys a8→Vals ws us→R a8 us→Q (.ref l) (upd H l (.lst ws))) :
  wpAny (model X.prog X.w) X.A (call (.builtin "sorted") [.ref p]) (EP X a7 σ Q) X.xe s:=by
 obtain⟨a8,r,pl,hz⟩:=I.list hq
 refine sorted_any pl.isList (by rw[←r.length];exact hz) (hS a8 r) λws l g tk e p1 p2 le k he=>?_
 obtain⟨zs,q1,q2⟩:=Vals.perm p1 r
 exact⟨.ref l,_,I.laid (t':=tk) k le (show zbo X.prog X.w _ g _ (.lst zs) from⟨by rw[q1.length_eq];exact hz,ws,e,q2,he⟩),rfl,h l zs a8 ws (I.hok.fresh le) q1 r q2 p2⟩
def leS(x y:Str):Prop:=¬y.cps.toList<x.cps.toList
def txV:V→List Nat
 |.str x=>x.cps.toList
 |_=>[]
def strs_perm{ws:List V}{zs:Nj}(pm:ws.Perm (zs.map V.str)):∃ts:List Str,ws=ts.map V.str∧ts.Perm zs:=by
 have a1:∀v∈ws,∃x,v=V.str x:=λv hv=>by
  obtain⟨x,_,e⟩:=Ql.mp (pm.mem_iff.mp hv)
  exact⟨x,e.symm⟩
 have a2:∃ts:List Str,ws=ts.map V.str:=by
  clear pm
  induction ws with
  |nil=>exact⟨[],rfl⟩
  |cons v r ih =>
   obtain⟨ts,e⟩:=ih λv hv=>a1 v (Qg _ hv)
   obtain⟨x,e2⟩:=a1 v Qe
   exact⟨x::ts,by rw[e,e2];rfl⟩
 obtain⟨ts,rfl⟩:=a2
 refine⟨ts,rfl,?_⟩
 have:=pm.map (λv=>match v with | .str x=>x | _=>Str.empty)
 rw[Zp,Zp]at this
 simpa[Function.comp_def] using this
def zfa{zs:Nj}{a8:Nh}(r:Vals (zs.map V.str) a8):∀v∈a8,∃x t,v=.str x t:=λv hv=>by
 obtain⟨l,rfl,e⟩:=zfu r
 obtain⟨pr,_,e2⟩:=Ql.mp hv
 exact⟨_,_,e2.symm⟩
def txV_str{zs:Nj}:∀v∈zs.map V.str,∀u,RelV v u→kvS u=txV v:=λv hv u ru=>by
 obtain⟨x,_,rfl⟩:=Ql.mp hv
 obtain⟨t,rfl⟩:=ru
 rfl
def strs_out{zs ts:Nj}{a8 us:Nh}(r:Vals (zs.map V.str) a8)(r2:Vals (ts.map V.str) us)(p:a8.length<64→us.Pairwise λx y=>strO.kle (kvS x) (kvS y))(h:zs.length<64):ts.Pairwise leS:=by
 have p2:=Vals.pairwise (R:=λa b=>strO.kle a b) (kV:=txV) r2 txV_str (p (by rw[←r.length,Qa];exact h))
 rw[Wt]at p2
 exact p2.imp of_decide_eq_false
def zfj:zb3 X (.builtin "sorted") (λxs H Q=>Ex2 λ(p:Nc) (zs:Nj)=>Aj3 (xs=[.ref p]) (SqL X.K H p (zs.map V.str)) (∀(l:Nc) (ws:Nj),H l=none→ws.Perm zs→(zs.length<64→ws.Pairwise leS)→Q (.ref l) (upd H l (.lst (ws.map V.str))))):=by
 intro a7 s σ H xs us Q I r h
 obtain⟨p,zs,rfl,hq,q⟩:=h
 obtain⟨u,rfl,rx⟩:=vals1 r
 cases rx
 refine zc6 I hq (λa8 r A' E' s' _ _=>zef (zfa r)) λl ws a8 us hl p1 r1 r2 p2=>?_
 obtain⟨ts,rfl,p3⟩:=strs_perm p1
 exact q l ts hl p3 (strs_out r1 r2 p2)
def zed(I:Inv X a7 σ H s)(e:H a=some (.tup [.str x,z])):∃q,RelV z q∧zdz s.heap (.ref a) x q:=by
 obtain⟨_,a8,r,o,e1,c,n,d⟩:=I.hok a _ e
 obtain⟨u,w',rfl,⟨t,rfl⟩,rz⟩:=vals2 r
 exact⟨w',rz,a,o,t,n,rfl,e1,c,d⟩
def zfv(r:Vals ys a8):∀v∈a8,∃b∈ys,RelV b v:=λv hv=>by
 obtain⟨i,hi,e⟩:=Zf hv
 have hl:=r.length
 have aw:i<ys.length:=by exact zar6 ‹_› ‹_›
 obtain⟨u,hu,ru⟩:=r.get (i:=i) (Qc aw)
 rw[Qc hi,e]at hu
 cases hu
 exact⟨_,Qq aw,ru⟩
def zdq(a:zdz h v x p)(b:zdz h v y q):x=y∧p=q:=by
 obtain⟨a,o,t,n,rfl,e,c,d⟩:=a
 obtain⟨a',o',t',n',e0,e',c',d'⟩:=b
 cases e0
 rw[e]at e'
 cases e'
 rw[d]at d'
 have d2:(#[Value.str x t,p]:Array Value)=#[Value.str y t',q]:=by injection d'
 have d3:=congrArg (λa:Array Value=>a[0]?) d2
 have d4:=congrArg (λa:Array Value=>a[1]?) d2
 simp at d3 d4
 exact⟨d3.1,d4⟩
def rowV(H:Hp):V→List Nat
 |.ref a=>match H a with
  |some (.tup [x,_])=>txV x
  |_=>[]
 |_=>[]
def zc7(e:H a=some (.tup [x,y])):rowV H (.ref a)=txV x:=by
 unfold rowV;dsimp only;rw[e]
def zfk:zb3 X (.builtin "sorted") (λxs H Q=>Ex2 λ(p:Nc) (ys:List V)=>Aj5 (xs=[.ref p]) (SqL X.K H p ys) (∀v∈ys,∃a x z,v=.ref a∧H a=some (.tup [.str x,z])) (∀v∈ys,∀u∈ys,rowV H v=rowV H u→v=u) (∀(l:Nc) (ws:List V),H l=none→ws.Perm ys→(ys.length<64→ws.Pairwise λa b=>strO.kle (rowV H a) (rowV H b))→Q (.ref l) (upd H l (.lst ws)))):=by
 intro a7 s σ H xs us Q I r h
 obtain⟨p,ys,rfl,hq,hy,hd,q⟩:=h
 obtain⟨u,rfl,rx⟩:=vals1 r
 cases rx
 have back:∀a8,Vals ys a8→∀v∈a8,∃b∈ys,RelV b v∧∃a x z q,b=.ref a∧v=.ref a∧H a=some (.tup [.str x,z])∧zdz s.heap v x q:=λa8 r v hv=>by
  obtain⟨b,hb,rb⟩:=zfv r v hv
  obtain⟨a,x,z,rfl,e2⟩:=hy b hb
  have rb':=rb
  cases rb
  obtain⟨q',_,T⟩:=zed I e2
  exact⟨_,hb,rb',a,x,z,q',rfl,rfl,e2,T⟩
 refine zc6 I hq (λa8 r A' E' s' _ k=>zee k (λv hv=>?_) λv hv u hu x p q T T'=>?_) λl ws a8 us hl p1 r1 r2 p2=>q l ws hl p1 λoN=>?_
 ·obtain ⟨b,hb,rb,a,x,z,q,_,_,_,T⟩:=back a8 r v hv
  exact⟨x,q,T⟩
 ·obtain ⟨b,hb,rb,a,x1,z,q1,rfl,rfl,e1,T1⟩:=back a8 r v hv
  obtain⟨c,hc,rc,a',x2,z',q2,rfl,rfl,e2,T2⟩:=back a8 r u hu
  have h1:=(zdq T T1).1
  have h2:=(zdq T' T2).1
  subst h1
  subst h2
  have:=hd _ hb _ hc (by rw[zc7 e1,zc7 e2])
  cases this
  exact .inl rfl
 ·refine Vals.pairwise (R:=fun a b=>strO.kle a b) (kv:=fun u=>(kvP s.heap u).1) r2 (fun v hv u ru=>?_) ((p2 (by rw [← r1.length];exact oN)).imp fun h=>(Bool.or_eq_false_iff.mp h).1)
  obtain⟨a,x,z,rfl,e2⟩:=hy v (p1.mem_iff.mp hv)
  cases ru
  obtain⟨q',_,T⟩:=zed I e2
  rw[T.key,zc7 e2]
  rfl
def pairV(H:Hp):V→List Nat×List Nat
 |.ref a=>match H a with
  |some (.tup [x,y])=>(txV x,txV y)
  |_=>([],[])
 |_=>([],[])
def zf9(e:H a=some (.tup [x,y])):pairV H (.ref a)=(txV x,txV y):=by
 unfold pairV;dsimp only;rw[e]
def ze8(hu:X.A.units+8<cLine):zb3 X (.builtin "sorted") (λxs H Q=>Ex2 λ(p:Nc) (ys:List V)=>Aj4 (xs=[.ref p]) (SqL X.K H p ys) (∀v∈ys,∃a zs,v=.ref a∧H a=some (.lst (List.map V.str zs))) (∀(l:Nc) (ws:List V),H l=none→ws.Perm ys→Q (.ref l) (upd H l (.lst ws)))):=by
 intro a7 s σ H xs us Q I r h
 obtain⟨p,ys,rfl,hq,hy,q⟩:=h
 obtain⟨u,rfl,rx⟩:=vals1 r
 cases rx
 refine zc6 I hq (λa8 r A' E' s' hA k=>zg2 (by exact Wa ‹_› ‹_›) k λv hv=>?_) λl ws _ _ hl p1 _ _ _=>q l ws hl p1
 obtain⟨b,hb,ru⟩:=zfv r v hv
 obtain⟨a,zs,rfl,e2⟩:=hy b hb
 cases ru
 obtain⟨_,ay,n,r2,e3⟩:=I.hok a _ e2
 obtain⟨l2,rfl,_⟩:=zfu r2
 exact⟨a,l2,n,rfl,e3⟩
def dk_at{a7:Nd}{s:Ng}{σ:St}{H:Hp}{d:Nc}{kvs:List (Key×V)}(I:Inv X a7 σ H s)(rd:Rd H d (.dK kvs)) :
  kvs.length≤sizeLine∧(d==sysModules)=false∧∃vs ep,KV kvs vs∧s.heap.DictAt (zaq X.prog X.w) d vs ep∧vs.length=kvs.length:=by
 obtain⟨z,y,vs,r,hd⟩:=rd.ok I.hok
 obtain⟨ep,ha⟩:=hd.dictAt
 exact⟨z,y,vs,ep,r,ha,(Zt r).symm⟩
def KV.get{kvs:List (Key×V)}{vs:List (Key×Value)}(r:KV kvs vs){i:Nat}(e:vs[i]?=some (k,x)):∃v,kvs[i]?=some (k,v)∧RelV v x:=by
 induction r generalizing i with
 |nil=>simp at e
 | cons h t ih =>
  cases i with
  |zero =>
   simp at e
   subst e
   exact⟨_,by simp;exact Km h.1 rfl,h.2⟩
  |succ j =>
   obtain⟨v,h1,h2⟩:=ih (i:=j) (by simpa using e)
   exact⟨v,by simpa using h1,h2⟩
def key_rel(h:(zaq P w).is k v=true):RelV (kV k) v:=by
 rcases zbd h with⟨i,t,rfl,rfl⟩ | ⟨x,t,rfl,rfl⟩
 ·exact⟨t,rfl⟩
 ·exact⟨t,rfl⟩
def keys_vals{P:Ni}{w:Nl}{kvs:List (Key×V)}{vs:List (Key×Value)}{af:Array Value}(r:KV kvs vs)(hl:vs.length=kvs.length)(h:ItemsOf (λi v=>∃k x,vs[i]?=some (k,x)∧(zaq P w).is k v=true) af vs.length):Vals (kvs.map λp=>kV p.1) af.toList:=by
 have g:∀(i:Nat),i<kvs.length→∃v,af.toList[i]?=some v∧RelV (kV ((kvs.map Prod.fst).getD i (.inl 0))) v:=λi hi=>by
  have aw:i<af.size:=by rw[h.1];exact zar6 ‹_› ‹_›
  have e:af[i]?=some af[i]:=by simp[aw]
  obtain⟨k,x,e1,e2⟩:=h.2 i _ e
  obtain⟨v',e3,_⟩:=KV.get r e1
  refine⟨af[i],by rw[Uu];exact e,?_⟩
  have e4:(kvs.map Prod.fst).getD i (.inl 0)=k:=by
   rw[Qx,Qr,e3];rfl
  rw[e4]
  exact key_rel e2
 have hsz:af.toList.length=kvs.length:=by rw[Yi,h.1];exact hl
 clear h r hl
 generalize af.toList=l at g hsz
 induction kvs generalizing l with
 |nil =>
  have:l=[]:=Kc.mp hsz
  subst this
  exact .nil
 | cons p t ih =>
  cases l with
  |nil=>cases hsz
  | cons u us =>
   refine .cons ?_ (ih us (λi hi=>?_) (by simpa using hsz))
   ·obtain ⟨v,e1,e2⟩:=g 0 (by simp)
    simp at e1
    subst e1
    exact e2
   ·obtain ⟨v,e1,e2⟩:=g (i+1) (by simpa using hi)
    exact⟨v,by simpa using e1,by simpa using e2⟩
def zg6(hc:X.calm=true):zb3 X (.type "list") (λxs H Q=>Ex2 λ(d:Nc) (kvs:List (Key×V))=>Aj3 (xs=[.ref d]) (Rd H d (.dK kvs)) (∀l,H l=none→Q (.ref l) (upd H l (.lst (kvs.map λp=>kV p.1))))):=by
 intro a7 s σ H xs us Q I r h
 obtain⟨d,kvs,rfl,hq,q⟩:=h
 obtain⟨u,rfl,rx⟩:=vals1 r
 cases rx
 obtain⟨z,lo,vs,ep,rk,ha,hl⟩:=dk_at I hq
 refine PySem.W.kdl_call (PySem.W.kdl_dict lo) (I.ok.hd hc) ha (by rw[hl];exact z) λh' tk af c k e hi=>?_
 have rv:=keys_vals rk hl hi
 exact⟨.ref _,_,I.laid (t':=tk) k (Qd _) (show zbo X.prog X.w _ h' _ (.lst _) from⟨by rw[Qa];exact z,af.toList,c,rv,by rw[e]⟩),rfl,q _ (I.hok.fresh (Qd _))⟩
def zbl(hc:X.calm=true):zb3 X (.builtin "sorted") (λxs H Q=>Ex3 λ(d:Nc) (kvs:List (Key×V)) (zs:Nj)=>Aj4 (xs=[.ref d]) (Rd H d (.dK kvs)) ((kvs.map λp=>kV p.1)=zs.map V.str) (∀(l:Nc) (ws:Nj),H l=none→ws.Perm zs→(zs.length<64→ws.Pairwise leS)→Q (.ref l) (upd H l (.lst (ws.map V.str))))):=by
 intro a7 s σ H xs us Q I r h
 obtain⟨d,kvs,zs,rfl,hq,ez,q⟩:=h
 obtain⟨u,rfl,rx⟩:=vals1 r
 cases rx
 obtain⟨z,lo,vs,ep,rk,ha,hl⟩:=dk_at I hq
 refine zez (G:=λa8=>Vals (zs.map V.str) a8) (λE' R hR=>zgv (PySem.W.kdl_dict lo) (show X.A.in1.handled=none from I.ok.hd hc) ha (by rw[hl];exact z) λg tk af k le hi=>hR g tk _ k le (ez▸keys_vals rk hl hi))
  (λa8 r=>by rw[←r.length,←ez,Qa];exact z) (λa8 r A' E' s' _ _=>zef (zfa r)) λa8 ws l g tk e r p1 p2 le k he=>?_
 obtain⟨cH,q1,q2⟩:=Vals.perm p1 r
 obtain⟨ts,rfl,p3⟩:=strs_perm q1
 refine⟨.ref l,_,I.laid (t':=tk) k le (show zbo X.prog X.w _ g _ (.lst _) from⟨?_,ws,e,q2,he⟩),rfl,q l ts (I.hok.fresh le) p3 (strs_out r q2 p2)⟩
 rw[q1.length_eq,←ez,Qa];exact z
end
section
variable{X:Cx}{a7:Nd}{σ:St}{H:Hp}{s:Ng}
def Inv.freeze(I:Inv X a7 σ H s)(hd:H d=some u)(ho:s.heap.get? d=some o)(mu:Mut (some u)):Inv X a7 σ (upd H d (.frz o u)) s:=by
 have ne:∀b,H b=none→b≠d:=λb e z=>by rw[z,hd]at e;cases e
 have nt:∀b xs,H b=some (.tup xs)→b≠d:=λb xs e z=>by rw[z,hd]at e;cases e;exact mu
 have nf:∀b o' u',H b=some (.frz o' u')→b≠d:=λb o' u' e z=>by rw[z,hd]at e;cases e;exact mu
 have nb:∀b ps,H b=some (.tbl ps)→b≠d:=λb ps e z=>by rw[z,hd]at e;cases e;exact mu
 have no:∀b a,H b=some (.own a)→b≠d:=λb a e z=>by rw[z,hd]at e;cases e;exact mu
 refine I.un (h':=s.heap) (t':=s.toks) ⟨λb o e _ _ _=>e,λb o e _ _ _=>⟨o.slots,e⟩,λb o e n _=>by rw[zad (ne b n)];exact n,λb o e _=>⟨o,e⟩,λb xs e=>by rw[zad (nt b xs e)];exact e,
  λb o' u' e=>by rw[zad (nf b o' u' e)];exact e,λb ps e=>⟨#[],by rw[zad (nb b ps e),e];simp⟩⟩ λb v e=>?_
 by_cases hb:b=d
 ·subst hb
  rw[zac]at e
  cases e
  exact⟨ho,(I.hok b u hd).stay (λc v _ q=>q) (λc q=>by rw[zad (no c _ q)];exact q) λc xs q=>by rw[zad (nt c xs q)];exact q⟩
 ·rw [zad hb] at e
  exact(I.hok b v e).stay (λc v _ q=>q) (λc q=>by rw[zad (no c _ q)];exact q) λc xs q=>by rw[zad (nt c xs q)];exact q
def Inv.thaw(I:Inv X a7 σ H s)(hd:H d=some (.frz o u))(hx:∀o' u',X.H₀ d≠some (.frz o' u')):Inv X a7 σ (upd H d u) s:=by
 have ne:∀b,H b=none→b≠d:=λb e z=>by rw[z,hd]at e;cases e
 have nt:∀b xs,H b=some (.tup xs)→b≠d:=λb xs e z=>by rw[z,hd]at e;cases e
 have nb:∀b ps,H b=some (.tbl ps)→b≠d:=λb ps e z=>by rw[z,hd]at e;cases e
 have no:∀b a,H b=some (.own a)→b≠d:=λb a e z=>by rw[z,hd]at e;cases e
 have B:=I.base
 refine⟨I.ok,I.os,I.bare,⟨B.keep,B.slot,λb o e n hx=>?_,B.there,λb xs e=>?_,λb o' u' e=>?_,λb ps e=>?_⟩,I.loc,I.cell,?_,λx c e=>?_,λp hp=>?_,λb v e=>?_,I.len⟩
 ·have:=B.free b o e n hx
  rw[zad (ne b this)];exact this
 ·have:=B.tups b xs e
  rw[zad (nt b xs this)];exact this
 ·have:=B.frzs b o' u' e
  have nd:b≠d:=λz=>hx o' u' (z▸e)
  rw[zad nd];exact this
 ·obtain ⟨m,q⟩:=B.tbls b ps e
  exact⟨m,by rw[zad (nb b _ q)];exact q⟩
 ·rw[zad (ne _ I.free)];exact I.free
 ·rw[zad (ne c (I.freeC x c e))];exact I.freeC x c e
 ·obtain ⟨h1,h2,h3⟩:=I.pin p hp
  exact⟨h1,by rw[zad (ne _ h2)];exact h2,h3⟩
 ·by_cases hb:b=d
  ·subst hb
   rw[zac]at e
   cases e
   exact(show s.heap.get? b=some o∧zbo X.prog X.w H s.heap b u from I.hok b _ hd).2.stay (λc v _ q=>q) (λc q=>by rw[zad (no c _ q)];exact q) λc xs q=>by rw[zad (nt c xs q)];exact q
  ·rw [zad hb] at e
   exact(I.hok b v e).stay (λc v _ q=>q) (λc q=>by rw[zad (no c _ q)];exact q) λc xs q=>by rw[zad (nt c xs q)];exact q
inductive Thaw(X:Cx)(R:Hp→Prop)(H':Hp):Prop
 |mk (d:Nc) (o:Obj) (u:HO) (h:H' d=some (.frz o u)) (n:∀o' u',X.H₀ d≠some (.frz o' u')) (q:R (upd H' d u)):Thaw X R H'
def tThaw(X:Cx)(t:TE):TE:=λ σ H Q=>t σ H λv H'=>Thaw X (Q v) H'
def pe_thaw(h:PE X e t):PE X e (tThaw X t):=by
 intro a7 s σ H Q I q
 refine thn (h a7 s σ H _ I q) λu s' ⟨v,H',I',r,d,o,w',e1,e2,e3⟩=>?_
 exact⟨v,_,I'.thaw e1 e2,r,e3⟩
def sThaw(X:Cx)(t:TS):TS:=λD σ H=>t {nx:=λ σ' H'=>Thaw X (D.nx σ') H',rt:=λv H'=>Thaw X (D.rt v) H',bk:=λ σ' H'=>Thaw X (D.bk σ') H',ct:=λ σ' H'=>Thaw X (D.ct σ') H'} σ H
def ps_thaw{st:Stmt}{t:TS}(h:PS X st t):PS X st (sThaw X t):=by
 intro a7 s σ H D I q
 refine thn (h a7 s σ H _ I q) λf s' z=>?_
 cases f with
 |next=>obtain⟨σ',H',I',d,o,w',e1,e2,e3⟩:=z;exact⟨σ',_,I'.thaw e1 e2,e3⟩
 |brk=>obtain⟨σ',H',I',d,o,w',e1,e2,e3⟩:=z;exact⟨σ',_,I'.thaw e1 e2,e3⟩
 |cont=>obtain⟨σ',H',I',d,o,w',e1,e2,e3⟩:=z;exact⟨σ',_,I'.thaw e1 e2,e3⟩
 |ret u=>obtain⟨v,σ',H',I',r,d,o,w',e1,e2,e3⟩:=z;exact⟨v,σ',_,I'.thaw e1 e2,r,e3⟩
def Itd(d:Nc)(o:Obj)(kvs:List (Key×V)):It :=
 ⟨λi H=>H d=some (.frz o (.dK kvs))∧i<kvs.length,λi H x H'=>H'=H∧∃p,kvs[i]?=some p∧x=kV p.1,λi H=>H d=some (.frz o (.dK kvs))∧kvs.length≤i⟩
def frz_at(I:Inv X a7 σ H s)(e:H d=some (.frz o (.dK kvs))):s.heap.get? d=some o∧zbo X.prog X.w H s.heap d (.dK kvs):=I.hok d _ e
def zhk{h:Nm}{kvs:List (Key×V)}{vs vs':List (Key×Value)}{ep ep':Nat}(ho:h.get? d=some o)(a:h.DictAt (zaq P w) d vs ep)(o':Obj)(h':Nm)(aG:h'.get? d=some o):h'.DictAt (zaq P w) d vs ep:=by
 obtain⟨q,es,e,r⟩:=a
 rw[ho]at e
 cases e
 exact⟨o,es,aG,r⟩
theorem turn_dict{P:Ni}{w:Nl}{K:Na}{tg:Expr}{o:Obj}{kvs:List (Key×V)}{vs:List (Key×Value)}{ep:Nat}{h0:Nm}(d it:Nc)(rk:KV kvs vs)(hl:vs.length=kvs.length)(h00:h0.get? d=some o)(jK:h0.DictAt (zaq P w) d vs ep) :
  Turn P w K tg (Itd d o kvs) [it] it (λi h=>h.IsKeyIter it d i vs.length ep) where
 mem:=by simp
 obj:=λi h st b hb=>by
  have e:b=it:=by simpa using hb
  subst e
  obtain⟨o,e,c,d⟩:=st
  exact⟨o,e,λv z=>by rw[d]at z;cases z⟩
 keep:=λi h h' st k=>st.at λo e=>k it (by simp) o e
 item:=by
  intro X hP hw hK hc i a7 s σ H E I hf st hg
  subst hP hw hK
  obtain⟨fz,hi⟩:=hg
  obtain⟨ho,_⟩:=frz_at I fz
  have DA:s.heap.DictAt (zaq X.prog X.w) d vs ep:=zhk (kvs:=kvs) (vs':=vs) (ep':=ep) h00 jK o s.heap ho
  obtain⟨f0,f1,f2,f3,f4,f5⟩:=hf it (by simp)
  have aw:i<vs.length:=by exact zar6 ‹_› ‹_›
  obtain⟨v',e3,_⟩:=KV.get rk (i:=i) (k:=vs[i].1) (x:=vs[i].2) (Qc aw)
  refine wpAny_pyNext_dict_item st DA (k:=vs[i].1) (v:=vs[i].2) (Qc aw) λkey h' hk a9 sb=>?_
  have I1:Inv X a7 σ H {s with heap:=h'}:=I.turned (t':=s.toks) (λb o hb e=>(sb.2 b hb).trans e) f0 f1 f3 f4 f5
  obtain⟨o2,e,c,d2⟩:=id a9
  exact⟨key,rfl,go_of (s:={s with heap:=h'}) e c d2 (by decide) ⟨kV vs[i].1,H,I1,key_rel hk,⟨rfl,_,e3,rfl⟩,a9,λb hb=>(hf b hb).1⟩⟩
 done:=by
  intro X hP hw hK hc i a7 s σ H E I hf st hg
  subst hP hw hK
  obtain⟨fz,hi⟩:=hg
  obtain⟨ho,_⟩:=frz_at I fz
  have DA:s.heap.DictAt (zaq X.prog X.w) d vs ep:=zhk (kvs:=kvs) (vs':=vs) (ep':=ep) h00 jK o s.heap ho
  obtain⟨f0,f1,f2,f3,f4,f5⟩:=hf it (by simp)
  exact wpAny_pyNext_dict_end (I.ok.hd hc) st DA (Ut (by omega)) λh' eb=>⟨rfl,I.turned (t':=s.toks) (λb o hb e=>eb b o hb e) f0 f1 f3 f4 f5⟩
 self:=λ_ _ _ _ _ st h=>wpAny_pyIter_keyiter st h
inductive RIDi(x:V)(H:Hp)(R:It→Hp→Prop):Prop
 |mk (d:Nc) (kvs:List (Key×V)) (e:x=.ref d) (h:H d=some (.dK kvs)) (q:∀o,R (Itd d o kvs) (upd H d (.frz o (.dK kvs)))):RIDi x H R
def iDict(td:TE):TI:=λ σ H R=>td σ H λx H1=>RIDi x H1 R
def pi_dict{tg l:Expr}{tl:TE}(hl:PE X l tl):PI X tg l (iDict tl):=by
 intro a7 s σ H R I h
 refine thn (hl a7 s σ H _ I h) λv s1 ⟨x,H1,I1,r1,q1⟩=>?_
 obtain⟨d,kvs,e,hd,q⟩:=q1
 subst e
 cases r1
 obtain⟨z,lo,vs,ep,rk,ha,ad⟩:=dk_at I1 (.inl hd)
 obtain⟨o,es,ho,r⟩:=id ha
 refine wpAny_pyIter_dict lo ha ?_
 have I2:=I1.freeze hd ho trivial
 have I3:Inv X a7 σ (upd H1 d (.frz o (.dK kvs))) {s1 with heap:=s1.heap.push {cls:=.type "dict_keyiterator",data:=.fields #[.ref d,.int 0 0,.int vs.length 0,.int ep 0]}}:=I2.kept (t':=s1.toks) λb o e=>Qi _ e
 refine⟨s1.heap.objs.size,[s1.heap.objs.size],_,_,_,rfl,I3,turn_dict d _ rk ad ho ha,⟨_,Za _ rfl,rfl,rfl⟩,λb hb=>?_,q o⟩
 have e:b=s1.heap.objs.size:=by simpa using hb
 subst e
 exact I2.fpOk (Qd _) (I2.hok.fresh (Qd _))
end
def for_dict{d:Nc}{o:Obj}{kvs:List (Key×V)}{g:TG}{tb:TS}{D:Ends}{σ:St}{H:Hp}(Pv:Nat→St→Hp→Prop)(h0:Pv 0 σ H)(hl:∀i σ H,i≤kvs.length→Pv i σ H→H d=some (.frz o (.dK kvs)))(hs:∀i p σ H,kvs[i]?=some p→Pv i σ H→g (kV p.1) σ H λ σ2 H2=>tb {D with nx:=Pv (i+1),ct:=Pv (i+1),bk:=D.nx} σ2 H2)(hd:∀σ H,Pv kvs.length σ H→D.nx σ H) :
  ∃W:Nat→Nat→St→Hp→Prop,(∃m,W 0 m σ H)∧∀i m σ H,W i m σ H →
   ((Itd d o kvs).stop i H∧D.nx σ H)∨((Itd d o kvs).go i H∧∃N:St→Hp→Prop,(∀σ' H',N σ' H'→∃m',m'<m∧W (i+1) m' σ' H')∧∀x H',(Itd d o kvs).yld i H x H'→g x σ H' λ σ2 H2=>tb {D with nx:=N,ct:=N,bk:=D.nx} σ2 H2):=by
 refine⟨λi m σ H=>m=kvs.length-i∧i≤kvs.length∧Pv i σ H,⟨kvs.length,by simp,Zh _,h0⟩,?_⟩
 rintro i m σ H ⟨rfl,hi,p⟩
 have q:=hl i σ H hi p
 by_cases ae:i<kvs.length
 ·refine .inr ⟨⟨q,ae⟩,Pv (i+1),fun σ' H' p'=>⟨kvs.length - (i+1),by exact zar1 ‹_›,rfl,ae,p'⟩,fun x H' y=>?_⟩
  obtain⟨e,pr,e2,rfl⟩:=y
  subst e
  exact hs i pr σ _ e2 p
 ·have e:i=kvs.length:=by exact zar3 ‹_› ‹_›
  subst e
  exact .inl ⟨⟨q,Qd _⟩,hd σ H p⟩
end L2
end
section
namespace Enu
open PySem PyProof.Rows
open AutoSeq1 (wpAny_loadPart')
section
variable{prog:Ni}{w:Nl}{A:Nn}{E:Nb}{s:Ng}
def next_item(st:s.heap.IsTupleIter j t i)(ht:s.heap.IsTuple t xs)(hx:xs[i]?=some x)(hQ:∀g,g.IsTupleIter j t (i+1)→Heap.SameBut j s.heap g→Q x {s with heap:=g}):wpAny (model prog w) A (Builtin.SmallTypes.nextOf (.ref j)) Q E s:=by
 obtain⟨o,ho,hc,hd⟩:=id st
 obtain⟨p,hp,_,k,hk⟩:=ht
 unfold Builtin.SmallTypes.nextOf
 refine wpAny_bind (wpAny_callSpecial?_slot (name:=Str.ofString "__next__") st.typeIs Js (wpAny_call_entry Js st.typeIs F.entry_tuple_iterator_next ?_ (F.args_tuple_iterator_next_1 _)))
 show wpAny _ _ (field (.ref j) 0 >>= _) _ _ s
 refine wpAny_bind (wpAny_field ho hd (x:=.ref t) rfl ?_)
 show wpAny _ _ (if(Value.ref t==.none)=true then _ else _) _ _ s
 rw[if_neg (show ¬((Value.ref t==.none)=true) from Zb)]
 show wpAny _ _ (field (.ref j) 1 >>= _) _ _ s
 refine wpAny_bind (wpAny_field ho hd (x:=.int i 0) rfl ?_)
 show wpAny _ _ (seqItems? (.ref t) >>= _) _ _ s
 refine wpAny_bind (wpAny_seqItems hp hk ?_)
 simp only[Jm,hx]
 refine wpAny_bind (wpAny_setField ho hd (by simp) (wpAny_pure ⟨x,rfl,wpAny_pure (hQ _ ⟨_,Heap.get?_update_self _ ho (Obj.isFreed_of_fields (Xh hd _)),(Obj.cls_mapFields ..).trans hc,by rw[Xh hd];simp[rawInt]⟩ (Xc ..))⟩))
def next_end(hh:A.handled=none)(st:s.heap.IsTupleIter j t i)(ht:s.heap.IsTuple t xs)(hx:xs[i]?=none)(hE:∀g e,Heap.ExtBut j s.heap g→(∃o,g.get? e=some o∧o.cls=.type "StopIteration")→E (.ref e) {s with heap:=g}):wpAny (model prog w) A (Builtin.SmallTypes.nextOf (.ref j)) Q E s:=by
 obtain⟨o,ho,hc,hd⟩:=id st
 obtain⟨p,hp,_,k,hk⟩:=ht
 unfold Builtin.SmallTypes.nextOf
 refine wpAny_bind (wpAny_callSpecial?_slot (name:=Str.ofString "__next__") st.typeIs Js (wpAny_call_entry Js st.typeIs F.entry_tuple_iterator_next ?_ (F.args_tuple_iterator_next_1 _)))
 show wpAny _ _ (field (.ref j) 0 >>= _) _ _ s
 refine wpAny_bind (wpAny_field ho hd (x:=.ref t) rfl ?_)
 show wpAny _ _ (if(Value.ref t==.none)=true then _ else _) _ _ s
 rw[if_neg (show ¬((Value.ref t==.none)=true) from Zb)]
 show wpAny _ _ (field (.ref j) 1 >>= _) _ _ s
 refine wpAny_bind (wpAny_field ho hd (x:=.int i 0) rfl ?_)
 show wpAny _ _ (seqItems? (.ref t) >>= _) _ _ s
 refine wpAny_bind (wpAny_seqItems hp hk ?_)
 simp only[Jm,hx]
 refine wpAny_bind (wpAny_rule (wpAny_bind (wpAny_setField ho hd (by simp) ?_)))
 show wpAny _ _ (newExc (.type "StopIteration") [] >>= _) _ _ _
 refine wpAny_bind ?_
 simp only[newExc,newTuple]
 refine wpAny_bind (wpAny_newObj_type (wpAny_bind (m:=firstArgMember _ _) (wpAny_of_eq (a:=Value.none) (by first | rfl | (simp only[firstArgMember];rfl)) (wpAny_newObj_type ?_ (by size_fits)))) (by size_fits))
 simp only[raiseNew]
 refine wpAny_bind (wpAny_handled ?_)
 first | rw[show A.in1.handled=none from hh] | rw[hh]
 refine wpAny_bind (wpAny_pure (wpAny_throw (hE _ _ (((Xc ..).extBut.push _).push _) ⟨_,Za _ rfl,rfl⟩)))
theorem drawsT(hh:A.handled=none)(j t:Nc)(aW:t≠j)(xs:Array Value) :
  Draws prog w A j [j,t] xs.size (λi v=>xs[i]?=some v) (λi h=>h.IsTupleIter j t i∧h.IsTuple t xs) where
 live:=λ_ _ st=>let⟨o,ho,_⟩:=st.1;⟨o,ho⟩
 frame:=λi h h' st k=>⟨st.1.at λo e=>k j (by simp) o e,let⟨o,e,r⟩:=st.2;⟨o,k t (by simp) o e,r⟩⟩
 item:=λi s Q E hi st hQ=>by
  refine next_item st.1 st.2 (x:=xs[i]) (by simp[hi]) λg a b=>?_
  obtain⟨o,e,r⟩:=st.2
  exact hQ _ g s.toks (by simp[hi]) ⟨a,o,(b.2 t aW).trans e,r⟩ b
 done:=λs Q E st hE=>next_end hh st.1 st.2 (by simp) hE
def new_tuple(t:Nc)(xs:Array Value)(n:Nat)(dct:Option Addr)(sl:Array (Option Value)) :
  Meets (Builtin.«enumerate.__new__» ⟨[.type "enumerate",.ref t],[]⟩) (λ_ R s=>s.heap.get? t=some {cls:=.type "tuple",dict:=dct,data:=.seq xs n,slots:=sl} ∧
   R (.ok (.ret (.ref (s.heap.push {cls:=.type "tuple_iterator",data:=.fields #[.ref t,.int 0 0]}).objs.size)))
    {s with heap:=(s.heap.push {cls:=.type "tuple_iterator",data:=.fields #[.ref t,.int 0 0]}).push {cls:=.type "enumerate",data:=.fields #[.none,.bool false,.ref s.heap.objs.size,rawInt 0,.none,.none]}}) :=
 .of_wp λprog w A R s h=>by
  obtain⟨hp,g,d,tk,os⟩:=s;obtain⟨hl,h⟩:=h
  have iE:=sub_enumerate
  have hL:Heap.IsTuple (Shared.heap ⟨hp,g,d,tk,os⟩) t xs:=⟨_,hl,rfl,n,rfl⟩
  wp_walk using wpAny_loadPart' hl
  refine wpAny_stack_any λst=>wpAny_pure ?_
  split
  ·rename_i c _ _ _ _ _
   cases(c==Value.type "enumerate")<;>(wp_walk using wpAny_loadPart' hl,wpAny_pyIter_tuple hL;exact⟨_,rfl,h⟩)
  ·wp_walk using wpAny_loadPart' hl,wpAny_pyIter_tuple hL
   exact⟨_,rfl,h⟩
def call_enum(hL:s.heap.IsTuple t xs)(h:∀g,IsEnum g (s.heap.objs.size+1) s.heap.objs.size 0 .none→g.IsTupleIter s.heap.objs.size t 0→g.objs.size=s.heap.objs.size+2→(∀b o,s.heap.get? b=some o→g.get? b=some o)→Q (.ref (s.heap.objs.size+1)) {s with heap:=g}) :
  wpAny (model prog w) A (call (.type "enumerate") [.ref t]) Q E s:=by
 obtain⟨⟨c,dct,dt,sl⟩,hl,hc,n,hd⟩:=hL
 replace hc:c=.type "tuple" := hc
 replace hd:dt=.seq xs n:=hd
 subst hc hd
 refine callType_new F.called_enumerate (by decide) (F.typeCall_enumerate_1 _) (F.newCall_enumerate_1 _) (λobj=>F.args_object_init_2 obj _) F.entry_enumerate_new (new_tuple t xs n dct sl) ⟨hl,?_⟩
 have hz:(s.heap.push {cls:=.type "tuple_iterator",data:=.fields #[.ref t,.int 0 0]}).objs.size=s.heap.objs.size+1:=Uh ..
 show _∧_
 rw[hz]
 have he:IsEnum ((s.heap.push {cls:=.type "tuple_iterator",data:=.fields #[.ref t,.int 0 0]}).push {cls:=.type "enumerate",data:=.fields #[.none,.bool false,.ref s.heap.objs.size,rawInt 0,.none,.none]}) (s.heap.objs.size+1) s.heap.objs.size 0 .none:=by
  have q:=Za (s.heap.push {cls:=.type "tuple_iterator",data:=.fields #[.ref t,.int 0 0]}) (o:={cls:=.type "enumerate",data:=.fields #[.none,.bool false,.ref s.heap.objs.size,rawInt 0,.none,.none]}) rfl
  rw[hz]at q;exact q
 exact⟨⟨_,he,rfl⟩,h _ he ⟨_,Qi _ (Za _ rfl),rfl,rfl⟩ (by rw[Uh,hz]) λb o x=>Qi _ (Qi _ x)⟩
end
end Enu
namespace L2
open PySem PySem.Spec PyProof.Rows Enu
def Ite(a:Nc)(K:Na):It :=
 ⟨λi H=>∃xs,SqT K H a xs∧i<xs.length,λi H x H'=>∃y t,(∀xs,SqT K H a xs→xs[i]?=some y)∧H t=none∧x=.ref t∧H'=upd H t (.tup [.int i,y]),λi H=>∃xs,SqT K H a xs∧xs.length≤i⟩
theorem turn_enum{P:Ni}{w:Nl}{K:Na}{elts:No}{kk:Nat}{pos:Pos}(a e j:Nc)(su:e≠j)(haj:a≠j)(hae:e≠a) :
  Turn P w K (.Tuple elts kk pos) (Ite a K) [e,j] e (λi h=>(∃old,IsEnum h e j i old)∧h.IsTupleIter j a i) where
 mem:=by simp
 obj:=λi h st b hb=>by
  rcases Qh.mp hb with z | z
  ·subst z
   obtain⟨old,q⟩:=st.1
   exact⟨_,q,λv z=>by
    have z':Data.fields _=Data.cell v:=z
    cases z'⟩
  ·rw [Qb.mp z]
   obtain⟨o,q,c,d⟩:=st.2
   exact⟨o,q,λv z=>by rw[d]at z;cases z⟩
 keep:=λi h h' st k=>⟨let⟨old,q⟩:=st.1;⟨old,k e (by simp) _ q⟩,st.2.at λo q=>k j (by simp) o q⟩
 item:=by
  intro X hP hw hK hc i a7 s σ H E I hf st hg
  subst hP hw hK
  obtain⟨xs,hq,hi⟩:=hg
  obtain⟨a8,rv,p,hz⟩:=I.tuple hq
  have hl:=rv.length
  obtain⟨⟨old,he⟩,ke⟩:=st
  have hh:X.A.in1.handled=none:=I.ok.hd hc
  refine wpAny_pyNext_enum_itemD (drawsT hh j a haj a8.toArray) he ⟨ke,p⟩ (by simp;exact zar7 ‹_› ‹_›) su (by simp[su,hae]) λx g tk hP ho hs hT hsz hk=>⟨.ref s.heap.objs.size,rfl,?_⟩
  have fr:∀b,b∈[e,j]→FpOk X a7 H b:=hf
  obtain⟨e0,e1,e2,e3,e4,e5⟩:=hf e (by simp)
  obtain⟨j0,j1,j2,j3,j4,j5⟩:=hf j (by simp)
  have hHe:∀b u,H b=some u→b≠e∧b≠j:=λb u q=>⟨λz=>(by rw[z,e0]at q;cases q),λz=>(by rw[z,j0]at q;cases q)⟩
  have I1:Inv X a7 σ H {s with heap:=g,toks:=tk+1}:=by
   refine I.step (g':=s.gens) (d':=s.drawn) (ch:=[e,j]) (λb hb=>?_) (λb o _ _ hc q _=>hk b o (λz=>hc (by simp[z])) (λz=>hc (by simp[z])) q) (λb o _ _ hc q _=>⟨o.slots,hk b o (λz=>hc (by simp[z])) (λz=>hc (by simp[z])) q⟩) (λ_ _ _ _ n=>n)
    (λb o hc q=>⟨o,hk b o (λz=>hc (by simp[z])) (λz=>hc (by simp[z])) q⟩) (λ_ _ q=>q) (λ_ _ _ q=>q) (λb ps q=>⟨#[],by rw[q];simp⟩) (λm hm=>?_) (λb u q=>?_) I.bare
   ·rcases Qh.mp hb with z | z
    ·subst z;exact⟨e3,e1,e4,e5⟩
    ·rw[Qb.mp z];exact⟨j3,j1,j4,j5⟩
   ·obtain ⟨o,es,ep,q,r⟩:=hm
    exact⟨o,es,ep,hk _ o (Zn e1) (Zn j1) q,r⟩
   ·refine (I.hok b u q).stay (fun c v hc z=>?_) (fun _ z=>z) fun _ _ z=>z
    have hcn:c≠e∧c≠j:=by
     rcases hc with rfl | hc
     ·exact hHe c u q
     ·exact hHe c _ hc
    exact hk c v hcn.1 hcn.2 z
  obtain⟨y,hy⟩:∃y,xs[i]?=some y:=⟨xs[i],Qc hi⟩
  obtain⟨u,hu,ru⟩:=rv.get hy
  have hP':a8[i]?=some x:=by simpa using hP
  rw[hu]at hP'
  have hux:u=x:=Qs hP'
  subst hux
  have hN:H s.heap.objs.size=none:=I.hok.fresh (Qd _)
  refine wpAny_letOwnedTupleGo_enum ho λg' ax c8=>?_
  have nT:s.heap.objs.size≠e:=Wg (Qw he)
  have nJ:s.heap.objs.size≠j:=by obtain⟨o,q,_⟩:=ke;exact Wg (Qw q)
  have I2:Inv X a7 σ H {s with heap:=g',toks:=tk+1}:=Inv.turned (s:={s with heap:=g,toks:=tk+1}) (t':=tk+1) (it:=e) I1 (λb o hb q=>(c8.2 b hb).trans q) e0 e1 e3 e4 e5
  have hT':g'.get? s.heap.objs.size=some {cls:=.type "tuple",data:=.seq #[.int i tk,u]}:=(c8.2 _ nT).trans hT
  have I3:Inv X a7 σ (upd H s.heap.objs.size (.tup [.int i,y])) {s with heap:=g',toks:=tk+1}:=by
   refine⟨I2.ok,I2.os,I2.bare,⟨I2.base.keep,I2.base.slot,λb o q n hx=>?_,I2.base.there,λb zs q=>?_,λb o v q=>?_,λb ps q=>?_⟩,I2.loc,I2.cell,?_,λz c q=>?_,λpp hp=>?_,λb v q=>?_,I2.len⟩
   ·have lt:b < s.heap.objs.size:=Zw (Qw q) I.sz
    rw[zad (Zk lt)];exact I2.base.free b o q n hx
   ·have:=I2.base.tups b zs q
    rw[zad (zab this hN)];exact this
   ·have:=I2.base.frzs b o v q
    rw[zad (zab this hN)];exact this
   ·obtain ⟨m,z⟩:=I2.base.tbls b ps q
    exact⟨m,by rw[zad (zab z hN)];exact z⟩
   ·rw[zad (Zk I.lt)];exact I2.free
   ·rw[zad (Zk (I.cl_lt z c q))];exact I2.freeC z c q
   ·obtain ⟨h1,h2,h3⟩:=I2.pin pp hp
    exact⟨h1,by rw[zad (Zk (I.pin_lt pp hp))];exact h2,h3⟩
   ·by_cases hb:b=s.heap.objs.size
    ·subst hb
     rw[zac]at q
     cases q
     exact⟨by show 2≤sizeLine;decide,[.int i tk,u],.cons ⟨tk,rfl⟩ (.cons ru .nil),_,hT',rfl,_,rfl⟩
    ·rw [zad hb] at q
     exact(I2.hok b v q).stay (λc v _ z=>z) (λc z=>by rw[zad (zab z hN)];exact z) λc zs z=>by rw[zad (zab z hN)];exact z
  refine⟨.ref s.heap.objs.size,_,I3,rfl,⟨y,_,λys hys=>by rw[I.tuple_inj hys hq];exact hy,hN,rfl,rfl⟩,⟨⟨u,by simpa using ax⟩,?_⟩,λb hb=>?_⟩
  ·exact hs.1.at λo q=>(c8.2 j (Zn su)).trans q
  ·rcases Qh.mp hb with z | z
   ·rw[z,zad (Zn nT)];exact e0
   ·rw[Qb.mp z,zad (Zn nJ)];exact j0
 done:=by
  intro X hP hw hK hc i a7 s σ H E I hf st hg
  subst hP hw hK
  obtain⟨xs,hq,hi⟩:=hg
  obtain⟨a8,rv,p,hz⟩:=I.tuple hq
  have hl:=rv.length
  obtain⟨⟨old,he⟩,ke⟩:=st
  obtain⟨j0,j1,j2,j3,j4,j5⟩:=hf j (by simp)
  have hh:X.A.in1.handled=none:=I.ok.hd hc
  have hT:s.TypeIs (.ref e) "enumerate" := ⟨_,he,rfl⟩
  unfold pyNext
  refine wpAny_bind (wpAny_attempt (wpAny_callSpecial?_slot (name:=Str.ofString "__next__") hT F.slot_enumerate_next (wpAny_call_entry F.slot_enumerate_next hT F.entry_enumerate_next ?_ (F.args_enumerate_next_1 _))))
  show wpAny _ _ (field (.ref e) 2 >>= _) _ _ _
  refine wpAny_bind (wpAny_field he rfl (x:=.ref j) rfl (wpAny_bind (next_end hh ke p (by simp;exact zd3 ‹_› ‹_›) λg x hg hx=>?_)))
  obtain⟨o,ho,hc⟩:=hx
  refine wpAny_bind (wpAny_isInstance (T := "StopIteration") (b:=true) ⟨o,ho,hc⟩ isSubtype_stop (wpAny_pure ⟨rfl,?_⟩))
  exact I.turned (t':=s.toks) (λb o hb q=>hg b o hb q) j0 j1 j3 j4 j5
 self:=λA i s Q E st h=>by
  obtain⟨⟨old,he⟩,_⟩:=st
  exact wpAny_pyIter_enum he h
end L2
end
section
namespace L2
open PySem PySem.Spec PyProof.Rows Enu
section
variable{X:Cx}
def iEnum(K:Na)(ta:TA):TI:=λ σ H R=>ta σ H λvs H1=>∃a,vs=[.ref a]∧(∃xs,SqT K H1 a xs)∧R (Ite a K) H1
def pi_enum(hg:Gl X "enumerate")(hm:X.mg "enumerate" = none)(ha:PA X [a] ta)(hs:starEach [a] X.env=[(false,eval a X.env)]:=by rfl) :
  PI X (.Tuple elts kk tpos) (.Call (.Name "enumerate" p) [a] [] pos) (iEnum X.K ta):=by
 intro a7 s σ H R I h
 refine Call_ (ld_blt I hg hm boot_enumerate (Kt (thn (ha pos a7 s σ H _ I h) λus s1 ⟨vs,H1,I1,r1,q1⟩=>?_) hs rfl))
 obtain⟨t,e,⟨xs,hq⟩,q⟩:=q1
 subst e
 obtain⟨u,rfl,ru⟩:=vals1 r1
 cases ru
 obtain⟨a8,rv,pl,hz⟩:=I1.tuple hq
 have lt:t<s1.heap.objs.size:=by obtain⟨o,q,_⟩:=pl;exact Qw q
 refine call_enum pl λg he ke hsz k=>wpAny_pyIter_enum he ?_
 have I2:Inv X a7 σ H1 {s1 with heap:=g}:=I1.kept (t':=s1.toks) k
 refine⟨s1.heap.objs.size+1,[s1.heap.objs.size+1,s1.heap.objs.size],_,_,H1,rfl,I2,turn_enum t _ _ (Xi _) (Zk lt) (Wg (Ke lt)),⟨⟨_,he⟩,ke⟩,λb hb=>?_,q⟩
 have oI:s1.heap.objs.size≤b:=by
  rcases Qh.mp hb with z | z
  ·rw[z];exact Kb _
  ·rw[Qb.mp z];exact Qd _
 exact I1.fpOk oI (I1.hok.fresh oI)
def for_enum{K:Na}{a:Nc}{xs:List V}{g:TG}{tb:TS}{D:Ends}{σ:St}{H:Hp}(Pv:Nat→St→Hp→Prop)(h0:Pv 0 σ H)(hl:∀i σ H,i≤xs.length→Pv i σ H→H a=some (.tup xs))(hs:∀i x t σ H,xs[i]?=some x→Pv i σ H→H t=none→g (.ref t) σ (upd H t (.tup [.int i,x])) λ σ2 H2=>tb {D with nx:=Pv (i+1),ct:=Pv (i+1),bk:=D.nx} σ2 H2)(hd:∀σ H,Pv xs.length σ H→D.nx σ H) :
  ∃W:Nat→Nat→St→Hp→Prop,(∃m,W 0 m σ H)∧∀i m σ H,W i m σ H →
   ((Ite a K).stop i H∧D.nx σ H)∨((Ite a K).go i H∧∃N:St→Hp→Prop,(∀σ' H',N σ' H'→∃m',m'<m∧W (i+1) m' σ' H')∧∀x H',(Ite a K).yld i H x H'→g x σ H' λ σ2 H2=>tb {D with nx:=N,ct:=N,bk:=D.nx} σ2 H2):=by
 refine⟨λi m σ H=>m=xs.length-i∧i≤xs.length∧Pv i σ H,⟨xs.length,by simp,Zh _,h0⟩,?_⟩
 rintro i m σ H ⟨rfl,hi,p⟩
 have q:=hl i σ H hi p
 by_cases ae:i<xs.length
 ·refine .inr ⟨⟨xs,SqT.of q,ae⟩,Pv (i+1),fun σ' H' p'=>⟨xs.length - (i+1),by exact zar1 ‹_›,rfl,ae,p'⟩,fun x H' y=>?_⟩
  obtain⟨z,t,e1,e3,rfl,rfl⟩:=y
  exact hs i z t σ H (e1 xs (SqT.of q)) p e3
 ·have e:i=xs.length:=by exact zar3 ‹_› ‹_›
  subst e
  exact .inl ⟨⟨xs,SqT.of q,Qd _⟩,hd σ H p⟩
def Its(x:Str):It:=⟨λi _=>i<x.cps.size,λi H v H'=>H'=H∧∃c,x.cps[i]?=some c∧v=.str ⟨#[c]⟩,λi _=>x.cps.size≤i⟩
theorem turn_str{P:Ni}{w:Nl}{K:Na}{tg:Expr}{x:Str}{t:Tok}(it:Nc):Turn P w K tg (Its x) [it] it (λi h=>h.IsStrIter it "str_ascii_iterator" x t i) where
 mem:=by simp
 obj:=λi h st b hb=>by
  rw[Qb.mp hb]
  obtain⟨o,e,c,d⟩:=st
  exact⟨o,e,λv z=>by rw[d]at z;cases z⟩
 keep:=λi h h' st k=>let⟨o,ho,r⟩:=st;⟨o,k it (by simp) o ho,r⟩
 item:=by
  intro X hP hw hK hc i a7 s σ H E I hf st hg
  subst hP hw hK
  obtain⟨f0,f1,f2,f3,f4,f5⟩:=hf it (by simp)
  have hi:i<x.cps.size:=hg
  refine wpAny_pyNext_ascii_item st (c:=x.cps[i]) (by simp[hi]) λh' a9 sb=>?_
  have I1:Inv X a7 σ H {s with heap:=h',toks:=s.toks+1}:=I.turned (λb o hb e=>(sb.2 b hb).trans e) f0 f1 f3 f4 f5
  obtain⟨o,e,c,d⟩:=id a9
  exact⟨_,rfl,go_of (s:={s with heap:=h',toks:=s.toks+1}) e c d (by decide) ⟨.str ⟨#[x.cps[i]]⟩,H,I1,⟨_,rfl⟩,⟨rfl,_,by simp[hi],rfl⟩,a9,λb hb=>(hf b hb).1⟩⟩
 done:=by
  intro X hP hw hK hc i a7 s σ H E I hf st hg
  subst hP hw hK
  obtain⟨f0,f1,f2,f3,f4,f5⟩:=hf it (by simp)
  have hi:x.cps.size≤i:=hg
  exact wpAny_pyNext_ascii_end (I.ok.hd hc) st (by simp[hi]) λh' eb=>⟨rfl,I.turned (t':=s.toks) (λb o hb e=>eb b o hb e) f0 f1 f3 f4 f5⟩
 self:=λ_ _ _ _ _ st h=>wpAny_pyIter_striter_ascii st h
def iStr(tl:TE):TI:=λ σ H R=>tl σ H λv H1=>∃x:Str,v=.str x∧x.cps.all (· < 128)=true∧R (Its x) H1
def pi_str{tg l:Expr}{tl:TE}(hl:PE X l tl):PI X tg l (iStr tl):=by
 intro a7 s σ H R I h
 refine thn (hl a7 s σ H _ I h) λv s1 ⟨y,H1,I1,r1,q1⟩=>?_
 obtain⟨x,e,ha,q⟩:=q1
 subst e
 obtain⟨t,rfl⟩:=r1
 refine wpAny_pyIter_ascii ha ?_
 refine⟨s1.heap.objs.size,[s1.heap.objs.size],_,_,H1,rfl,I1.kept (t':=s1.toks) λb o e=>Qi _ e,turn_str (t:=t) _,⟨_,Za _ rfl,rfl,rfl⟩,λb hb=>?_,q⟩
 rw[Qb.mp hb]
 exact I1.fpOk (Qd _) (I1.hok.fresh (Qd _))
def op_le_str:OpR X (compareOp .LtE) (λx y H Q=>Ex2 λi j=>Aj3 (x=.str i) (y=.str j) (Q (.bl (!decide (j.cps.toList<i.cps.toList))) H)):=by
 intro a7 s σ H x y v u Q I rx ry h
 obtain⟨i,j,rfl,rfl,q⟩:=h
 obtain⟨t,rfl⟩:=rx
 obtain⟨t',rfl⟩:=ry
 exact PySem.P.le_str (za4 I q rfl)
end
end L2
end
section
namespace L2
open PySem PySem.Spec PyProof.Rows
section
variable{X:Cx}{a7:Nd}{σ:St}{H:Hp}{s:Ng}
inductive RrNil(neg:Bool)(K:Na)(x:V)(y:V)(H:Hp)(Q:VK):Prop
 |mk (l:_) (b:_) (xs:_) (h0:x=.ref l) (h1:y=.ref b) (h2:SqL K H l xs) (h3:SqL K H b []) (h4:Q (.bl (if neg then !xs.isEmpty else xs.isEmpty)) H):RrNil neg K x y H Q
def rNil(neg:Bool)(K:Na):R2:=λx y H Q=>RrNil neg K x y H Q
def op_eq_nil(hu:X.A.units<cLine):OpR X (compareOp .Eq) (rNil false X.K):=by
 intro a7 s σ H x y v u Q I rx ry h
 obtain⟨l,b,xs,rfl,rfl,h1,h2,q⟩:=h
 cases rx;cases ry
 obtain⟨a8,r,pl,_⟩:=I.list h1
 obtain⟨ay,r2,dG,_⟩:=I.list h2
 cases r2
 cases r with
 |nil=>exact SeqAt.eq_listAt (e:=λ_=>true) pl.isList dG.isList rfl hu (λj h1 _=>by simp at h1) ⟨.bl true,H,I,rfl,q⟩
 |cons a t=>exact SeqAt.eq_list_lengthsAt pl.isList dG.isList (by simp) hu ⟨.bl false,H,I,rfl,q⟩
theorem argBest_lt:∀k,argBest bt k≤k
 |0=>Qd _
 |k+1=>by
  show(if bt (k+1) (argBest bt k)=true then k+1 else argBest bt k)≤k+1
  split
  ·exact Qd _
  ·exact Nat.le_succ_of_le (argBest_lt k)
theorem zdc(f:Nat→List Nat):∀k j,j≤k→¬f j<f (argBest (λi j=>decide (f i<f j)) k)
 |0,j,h=>by
  have:j=0:=by lia
  subst this
  exact Wi _
 | k+1,j,h=>by
  show ¬f j<f (if decide (f (k+1)<f (argBest (λi j=>decide (f i<f j)) k))=true then k+1 else argBest (λi j=>decide (f i<f j)) k)
  by_cases ae:f (k+1)<f (argBest (λi j=>decide (f i<f j)) k)
  ·rw [if_pos (decide_eq_true ae)]
   by_cases hj:j=k+1
   ·subst hj;exact Wi _
   ·intro z
    exact zdc f k j (by lia) (List.lt_trans z ae)
  ·rw [if_neg (by simpa using ae)]
   by_cases hj:j=k+1
   ·subst hj;exact ae
   ·exact zdc f k j (by lia)
def zev(hc:X.calm=true):zb3 X (.builtin "min") (λxs H Q=>Ex2 λ(p:Nc) (zs:Nj)=>Aj4 (xs=[.ref p]) (SqL X.K H p (zs.map V.str)) (zs≠[]) (∀z∈zs,(∀y∈zs,leS z y)→Q (.str z) H)):=by
 intro a7 s σ H xs us Q I r h
 obtain⟨p,zs,rfl,hq,aW,q⟩:=h
 obtain⟨u,rfl,rx⟩:=vals1 r
 cases rx
 have cu:0<zs.length:=Uf.mpr aW
 refine call_min_walk (zhr hc I hq λa8 It h1 rv W st lt keep=>⟨It,_,_,_,_,_,λi j=>decide ((zs.getD i Str.empty).cps.toList<(zs.getD j Str.empty).cps.toList),rfl,W,st,lt,?_,λi j vi vj s' Q' E' hi hj gi=>?_,λv h' tk hv k=>?_⟩)
 ·have:=rv.length
  rw[Qa]at this
  rw[Qn];exact zar7 ‹_› ‹_›
 ·have gs:∀ (i:Nat) (v:Value),a8.toArray[i]?=some v→∃ t,v=.str (zs.getD i Str.empty) t:=fun i v e=>by
   have e':a8[i]?=some v:=by simpa using e
   have hi:i<a8.length:=(Zd.mp e').1
   have hl:=rv.length
   rw[Qa]at hl
   have aw:i<zs.length:=by exact zar6 ‹_› ‹_›
   obtain⟨u,e2,t,e3⟩:=rv.get (i:=i) (x:=.str zs[i]) (by simp[aw])
   rw[e']at e2
   cases e2
   exact⟨t,by rw[e3];simp[List.getD,aw]⟩
  obtain⟨t1,rfl⟩:=gs i vi hi
  obtain⟨t2,rfl⟩:=gs j vj hj
  exact lt_str gi
 ·have hl:=rv.length
  rw[Qa]at hl
  have hk:=argBest_lt (bt:=λi j=>decide ((zs.getD i Str.empty).cps.toList<(zs.getD j Str.empty).cps.toList)) (a8.toArray.size-1)
  generalize hb:argBest (λi j=>decide ((zs.getD i Str.empty).cps.toList<(zs.getD j Str.empty).cps.toList)) (a8.toArray.size-1)=b at hv hk
  have dA:b<zs.length:=by rw[Qn]at hk;lia
  have dI:a8[b]?=some v:=by simpa using hv
  obtain⟨u,e2,t,e3⟩:=rv.get (i:=b) (x:=.str zs[b]) (by simp[dA])
  rw[dI]at e2
  cases e2
  refine⟨.str zs[b],H,keep h' tk k,⟨t,e3⟩,q _ (Qq dA) λy hy=>?_⟩
  obtain⟨j,hj,ej⟩:=Zf hy
  have:=zdc (λi=>(zs.getD i Str.empty).cps.toList) (a8.toArray.size-1) j (by rw[Qn];lia)
  rw[hb]at this
  have g1:zs.getD b Str.empty=zs[b]:=by simp[List.getD,dA]
  have g2:zs.getD j Str.empty=y:=by simp[List.getD,hj,ej]
  rw[g1,g2]at this
  exact this
end
section
variable{X:Cx}
def eqV_self{x:V}(f:zdo x=true):eqV x x=true:=by
 cases x with
 |non=>rfl
 |bl b=>exact beq_self_eq_true b
 |int i=>exact beq_self_eq_true i
 |str z=>exact beq_self_eq_true z
 |_=>cases f
end
end L2
end
section
namespace SetT
open PySem PyProof.Rows PySem.Spec
section
variable{prog:Ni}{w:Nl}{A:Nn}{R:Nt}{I:Nc}{fp wr:Nk}{G:Array GenState→Array GenState→Prop}{n:Nat}{P:Nat→Value→Prop}{St:Nat→Shared→Prop}
def loop(W:WalksS prog w A.in1 I fp wr G n P St)(S:Nc)(oK:S∉fp)(zs:Nj)(hz:zs.length=n)(nd:zs.Nodup)(iz:∀i v,P i v→∃t,v=.str (zs.getD i Str.empty) t)(hb:n+1<scanBound) :
  ∀(k i:Nat) (s:Ng),n-i=k→i≤n→St i s→s.heap.SetOf (PySem.strKind prog w) S (λx=>decide (x∈zs.take i)) i →
   (∀s',Moved (S::wr) G s s'→s'.heap.SetOf (PySem.strKind prog w) S (λx=>decide (x∈zs.take n)) n→R (.ok (.ret .none)) s')→codeAny (model prog w) A (.builtin "set.update.loop" ⟨[.ref S,.ref I],[]⟩) R s:=by
 have hSw:S∉wr:=λh=>oK (W.sub _ h)
 have sub:∀b∈wr,b∈S::wr:=λb q=>Qg _ q
 intro k
 induction k with
 |zero =>
  intro i s hk hi az hS hR
  obtain rfl:i=n:=by lia
  refine codeAny_builtin F.entry_set_update_loop ?_
  rw[Wv F.plain_set_update_loop _]
  show wpAny _ A.in1 (pyNext (.ref I) >>= _) _ _ s
  refine wpAny_bind (W.done s _ _ az λs' hm=>(show wpAny _ A.in1 (ret Value.none) _ _ s' from wpAny_pure (hR s' (hm.mono sub) ?_)))
  obtain⟨o,es,ep,t,ho,rest⟩:=hS
  exact⟨o,es,ep,t,hm.heap S _ hSw ho,rest⟩
 | succ k ih =>
  intro i s hk hi az hS hR
  have lt:i<n:=by lia
  refine codeAny_builtin F.entry_set_update_loop ?_
  rw[Wv F.plain_set_update_loop _]
  show wpAny _ A.in1 (pyNext (.ref I) >>= _) _ _ s
  refine wpAny_bind (W.item i s _ _ lt az λv s' hP iF hm=>?_)
  obtain⟨t,rfl⟩:=iz i v hP
  have aw:i<zs.length:=by exact zar6 ‹_› ‹_›
  have eg:zs.getD i Str.empty=zs[i]:=by simp[List.getD,aw]
  rw[eg]
  have kB:s'.heap.SetOf (PySem.strKind prog w) S (λx=>decide (x∈zs.take i)) i:=by
   obtain⟨o,es,ep,tb,ho,rest⟩:=hS
   exact⟨o,es,ep,tb,hm.heap S _ hSw ho,rest⟩
  show wpAny _ A.in1 (holding [Value.str zs[i] t] (setAdd S (.str zs[i] t)) >>= _) _ _ s'
  refine wpAny_bind (wpAny_holding ?_)
  unfold setAdd
  refine wpAny_holding (wpAny_bind ((PySem.strKind prog w).pyHash (k:=zs[i]) (by simp[PySem.strKind,Value.isStrOf]) ?_))
  have nin:decide (zs[i]∈zs.take i)=false:=decide_eq_false λq=>by
   obtain⟨j,hj,e⟩:=Zf q
   rw[Zc]at hj
   rw[Ud]at e
   have:=(Wn nd).mp e
   lia
  refine wpAny_setAddHashed_of (knd:=PySem.strKind prog w) (k:=zs[i]) (by simp[PySem.strKind,Value.isStrOf]) rfl kB (by lia) λg sb hS2=>?_
  have oJ:g.SetOf (PySem.strKind prog w) S (λx=>decide (x∈zs.take (i+1))) (i+1):=by
   refine SetOf_congr hS2 (λx=>?_) (by simp only[nin];simp)
   rw[Wm]
   simp only[Bool.or_eq_true,decide_eq_true_eq]
   rw[Qo aw,Qf,Qb]
  refine wpAny_pure ⟨plainId_quiet F.plain_set_update_loop _,ih (i+1) _ (by lia) lt (W.frame _ s' _ _ iF (by first | exact Qd _ | exact Kb _) λb q o e=>?_) oJ λs2 bh hS3=>hR s2 (Moved.trans W.gtrans ((hm.mono sub).then_heap (by first | exact Qd _ | exact Kb _) λb o q e=>?_) bh) hS3⟩
  ·rw[sb.2 b (λz:b=S=>oK (by rw[←z];exact q))];exact e
  ·rw[sb.2 b (λz:b=S=>q (by rw[z];exact Qe))];exact e
end
section
variable{prog:Ni}{w:Nl}{A:Nn}{E:Nb}{s:Ng}
def call_set{l:Nc}{a8:Nh}{zs:Nj}{Q:Nb}(hh:A.handled=none)(hl:s.heap.IsList l a8.toArray)(hz:zs.length=a8.length)(nd:zs.Nodup)(iz:∀(i:Nat) (v:Value),a8[i]?=some v→∃t,v=.str (zs.getD i Str.empty) t)(hb:a8.length+1<scanBound)(h:∀(g:Nm) (tk:Nat),g.SetOf (PySem.strKind prog w) s.heap.objs.size (λx=>decide (x∈zs)) zs.length→(∀b o,s.heap.get? b=some o→g.get? b=some o)→Q (.ref s.heap.objs.size) {s with heap:=g,toks:=tk}) :
  wpAny (model prog w) A (call (.type "set") [.ref l]) Q E s:=by
 obtain⟨c,tl,hmro⟩:=Wz.mro
 have hmade:=Wz.made
 have iE:=Wz.sub
 refine wpAny_call (codeAny_of_tree (show wpAny _ _ (callAny (.type "set") _) _ _ _ from wpAny_pure ⟨Code.quiet_builtin _ (by decide +kernel),codeAny_builtin PySem.F.entry_type_call ?_⟩))
 rw[Around.under_plain (weight_type_call_type "set" [.ref l] []) rfl]
 have h1:=Wz.notType
 have h2:=Wz.canCreate
 have ku:=PySem.F.typeCall_set_1 (.ref l)
 repeat(any_goals (first | assumption | wp_step))
 refine codeAny_mono (code_set_new_1 (.ref l) (E:=E) (Q₁:=λobj s₁=>∃led:Bool,obj=.ref s.heap.objs.size∧s₁={s with heap:=s.heap.push {cls:=.type "set",dict:=none,data:=.set #[] 0 (.fresh 0 0 led)}}) λled=>⟨led,rfl,rfl⟩) λr s1 hr=>?_
 cases r with
 |error e=>exact hr
 | ok fl =>
  cases fl with
  | ret obj =>
   obtain⟨led,rfl,rfl⟩:=hr
   have hS:(s.heap.push {cls:=.type "set",dict:=none,data:=.set #[] 0 (.fresh 0 0 led)}).get? s.heap.objs.size=some {cls:=.type "set",dict:=none,data:=.set #[] 0 (.fresh 0 0 led)}:=Za _ rfl
   have hT:Shared.TypeIs {s with heap:=s.heap.push {cls:=.type "set",dict:=none,data:=.set #[] 0 (.fresh 0 0 led)}} (.ref s.heap.objs.size) "set" := ⟨_,hS,rfl⟩
   have hli:=Wz.init.lookup
   have hbi:=Wz.init.bind (.ref s.heap.objs.size)
   repeat(any_goals (first | assumption | wp_step))
   refine codeAny_mono (codeAny_call_builtin (R:=wants (λr s₂=>r=.none∧∃g tk,s₂={s with heap:=g,toks:=tk}∧g.SetOf (PySem.strKind prog w) s.heap.objs.size (λx=>decide (x∈zs)) zs.length∧(∀b o,s.heap.get? b=some o→g.get? b=some o)) E)
    Wz.init.plain PySem.F.entry_set_init (check_set_init_1 hT ?_)) λr2 s2 c9=>?_
   ·obtain ⟨ol,qJ,jy,nl,kr⟩:=hl
    obtain⟨ocls,odict,odata,oslots⟩:=ol
    simp only at jy kr
    subst jy;subst kr
    have qI:(s.heap.push {cls:=.type "set",dict:=none,data:=.set #[] 0 (.fresh 0 0 led)}).get? l=some {cls:=.type "list",dict:=odict,data:=.seq a8.toArray nl,slots:=oslots}:=Qi _ qJ
    have hsls:=PySem.F.sub_list_set
    have hslf:=PySem.F.sub_list_frozenset
    have aW:(Value.type "list" == Value.type "dict")=false:=by decide
    have cG:(s.heap.push {cls:=.type "set",dict:=none,data:=.set #[] 0 (.fresh 0 0 led)}).IsList l a8.toArray:=⟨_,qI,rfl,nl,rfl⟩
    unfold Builtin.«set.__init__» noKeywords Builtin.Frozenset.updateFrom
    generalize hPI:pyIter=PI
    wp_walk
    subst hPI
    refine wpAny_pyIter_list cG (wpAny_bind (wpAny_runValue ?_))
    have hlS:l<s.heap.objs.size:=Qw qJ
    have hh3:A.in1.in1.in1.handled=none:=by simp[hh]
    have z1:(s.heap.push {cls:=.type "set",dict:=none,data:=.set #[] 0 (.fresh 0 0 led)}).objs.size=s.heap.objs.size+1:=Uh ..
    have qV:l≠(s.heap.push {cls:=.type "set",dict:=none,data:=.set #[] 0 (.fresh 0 0 led)}).objs.size:=by rw[z1];exact Zk (Ke hlS)
    have oK:s.heap.objs.size∉[(s.heap.push {cls:=.type "set",dict:=none,data:=.set #[] 0 (.fresh 0 0 led)}).objs.size,l]:=by
     rw[z1];simp only[Qh,List.not_mem_nil,or_false,not_or]
     exact⟨Zk (Yv _),Wg hlS⟩
    refine loop ((Walks.list hh3 _ l qV a8.toArray).toS) s.heap.objs.size oK zs (by rw[Qn];exact hz) nd (λi v hv=>iz i v (by simpa using hv)) (by rw[Qn];exact hb) _ 0 _ rfl (Zh _) ⟨⟨_,Za _ rfl,rfl,rfl⟩,(cG.push _)⟩ ?_ ?_
    ·exact SetOf_congr ((setObjOf_fresh (knd:=PySem.strKind prog w) led).setOf (Qi _ hS) (by unfold scanBound;exact Nat.le_add_left _ _)) (λ_=>by simp) rfl
    ·intro s' hm kB
     obtain⟨g,g',d',p9,pj⟩:=s'
     have eg:g'=s.gens:=hm.gens
     have ed:d'=s.drawn:=hm.drawn
     have eo:pj=s.os:=hm.os
     subst eg;subst ed;subst eo
     show wpAny _ _ _ _ _ _
     refine wpAny_pure (show wpAny _ _ (ret Value.none) _ _ _ from wpAny_pure ⟨rfl,g,p9,rfl,?_,λb o e=>?_⟩)
     ·have e1:a8.toArray.size=zs.length:=by rw [Qn,hz]
      rw[e1,Qu (Qd _)]at kB
      exact kB
     ·have kA:b < s.heap.objs.size:=Qw e
      refine hm.heap b o ?_ (Qi _ (Qi _ e))
      rw[z1]
      simp only[Qh,List.not_mem_nil,or_false,not_or]
      exact⟨Zk kA,Zk (Ke kA)⟩
   ·cases r2 with
    |error e=>exact c9
    | ok fl2 =>
     cases fl2 with
     |ret r =>
      obtain⟨rfl,g,tk,rfl,kB,rp⟩:=c9
      repeat(any_goals (first | assumption | wp_step))
      exact h _ _ kB rp
     |_=>exact c9.elim
  |_=>exact hr.elim
end
end SetT
namespace L2
open PySem PySem.Spec PyProof.Rows
def setO(P:Ni)(w:Nl)(a:Nc)(zs:Nj):HO:=.ext λh=>h.SetOf (PySem.strKind P w) a (λx=>decide (x∈zs)) zs.length
section
variable{X:Cx}
def zio(hc:X.calm=true):zb3 X (.type "set") (λxs H Q=>Ex2 λ(p:Nc) (zs:Nj)=>Aj5 (xs=[.ref p]) (SqL X.K H p (zs.map V.str)) zs.Nodup (zs.length≤1000) (∀l,H l=none→Q (.ref l) (upd H l (setO X.prog X.w l zs)))):=by
 intro a7 s σ H xs us Q I r h
 obtain⟨p,zs,rfl,hq,nd,hz,q⟩:=h
 obtain⟨u,rfl,rx⟩:=vals1 r
 cases rx
 obtain⟨a8,rv,pl,_⟩:=I.list hq
 have hl:=rv.length
 rw[Qa]at hl
 refine SetT.call_set (zs:=zs) (I.ok.hd hc) pl.isList hl nd (λi v e=>?_) (by unfold scanBound;lia) λg tk hS k=>?_
 ·have hi:i < a8.length:=(Zd.mp e).1
  have aw:i<zs.length:=by exact zar6 ‹_› ‹_›
  obtain⟨u,e2,t,e3⟩:=rv.get (i:=i) (x:=.str zs[i]) (by simp[aw])
  rw[e]at e2
  cases e2
  exact⟨t,by rw[e3];simp[List.getD,aw]⟩
 ·refine ⟨.ref _,_,I.laid (t':=tk) k (Qd _) (show zbo X.prog X.w _ g _ (setO X.prog X.w s.heap.objs.size zs) from ⟨hS,?_,fun h1 h2 p1 k1=>?_⟩),rfl,q _ (I.hok.fresh (Qd _))⟩
  ·obtain ⟨o,_,_,_,e,_⟩:=hS
   exact⟨o,e⟩
  ·obtain ⟨o,es,ep,t,e,rest⟩:=p1
   exact⟨o,es,ep,t,k1 o e,rest⟩
def zir:zb3 X (.builtin "len") (λxs H Q=>Ex2 λ(p:Nc) (zs:Nj)=>Aj4 (xs=[.ref p]) (H p=some (setO X.prog X.w p zs)) (zs.length≤1000) (Q (.int zs.length) H)):=by
 intro a7 s σ H xs us Q I r h
 obtain⟨p,zs,rfl,hq,hz,q⟩:=h
 obtain⟨u,rfl,rx⟩:=vals1 r
 cases rx
 obtain⟨⟨o,es,ep,t,ho,kl,hd,ko,gn,hb,hf,hn⟩,_⟩:=(show zbo X.prog X.w H s.heap p (setO X.prog X.w p zs) from I.hok p _ hq)
 exact call_len_set ho kl hd hf (by rw[hn];lia) ⟨.int zs.length,H,I.tok _,⟨_,by rw[hn]⟩,q⟩
end
end L2
end
section
namespace DictR
open PySem PyProof.Rows PySem.Spec
def miss_keys:typeLookup (.type "list") "keys" = pure none:=am_miss_of_fast (by decide +kernel)
section
variable{prog:Ni}{w:Nl}{A:Nn}{E:Nb}{s:Ng}
def no_keys{a:Nc}{xs:Array Value}{k:Nat}{sl:Array (Option Value)}{Q:Option Value→Shared→Prop}(hx:s.heap.get? a=some {cls:=.type "list",dict:=none,data:=.seq xs k,slots:=sl})(hA:A.handled=none)(h:∀g tk,(∀b o,s.heap.get? b=some o→g.get? b=some o)→Q none {s with heap:=g,toks:=tk}):wpAny (model prog w) A (getAttr? (.ref a) "keys") Q E s:=by
 obtain⟨hp,g,d,tk,os⟩:=s
 have hT:∀t',(⟨hp,g,d,t',os⟩:Shared).TypeIs (.ref a) "list" := λ_=>⟨_,hx,rfl⟩
 have f1:=sub_AttributeError
 have f3:=Bb.lookup
 have f4:=Bb.bind (.ref a)
 have f5:=am_list_getattr_none
 unfold getAttr? getAttrBy? getAttrBy
 repeat(any_goals (first | assumption | exact hT _ | ((with_reducible show wpAny _ _ (call (Value.builtin "list.__getattribute__") _ _) _ _ _);refine call_meets Bb (hT _) am_entry_list_getattribute (F.args_list_getattribute_2 _ _) (meets_getattribute_miss_list a xs k sl "keys" _ miss_keys (by decide +kernel) (by decide +kernel)) ⟨hx,hA,λh' p9 e c7=>?_⟩) | wp_step))
 obtain⟨t',u',he⟩:=c7.there
 show wpAny _ _ (getattributeRaised _ _ _ _ _ _ _) _ _ _
 unfold getattributeRaised
 repeat(any_goals (first | assumption | wp_step))
 exact h h' p9 c7.keeps
def zhj:entryFor table "dict.update.loop" = some Builtin.«dict.update.loop»:=entryFor_of_tree (by kernel_rfl)
def zdt:plainId "dict.update.loop" = true:=by decide +kernel
structure Row(K:Type) where
 a:Addr
 o:Obj
 k:K
 key:Value
 val:Value
 n:Nat
variable{K:Type}[DecidableEq K]{knd:KeyKind prog w K}
def RowAt(knd:KeyKind prog w K)(h:Nm)(r:Row K):Prop:=h.get? r.a=some r.o∧r.o.cls=.type "tuple" ∧ r.o.data=.seq #[r.key,r.val] r.n∧knd.is r.k r.key=true
def stored_new{kvs:List (K×Value)}(h:k∉kvs.map (·.1)):stored kvs k v=kvs++[(k,v)]:=by
 unfold stored
 rw[if_neg]
 intro z
 obtain⟨p,hp,e⟩:=Wf.mp z
 exact h (Ql.mpr ⟨p,hp,of_decide_eq_true e⟩)
def loop{R:Nt}{I l:Nc}(hh:A.handled=none)(rows:List (Row K))(d:Nc)(sw:d≠I)(kr:d≠l)(hlI:l≠I)(hr:∀ r∈rows,r.a≠d∧r.a≠I)(nd:(rows.map (·.k)).Nodup)(hz:rows.length≤sizeLine) :
  ∀(m i:Nat) (s:Ng),rows.length-i=m→i≤rows.length→s.heap.IsListIter I l i→s.heap.IsList l (rows.map λr=>Value.ref r.a).toArray→(∀r∈rows,RowAt knd s.heap r)→s.heap.DictOf knd d ((rows.take i).map λr=>(r.k,r.val)) →
   (∀g tk,(∀b o,b≠d→b≠I→s.heap.get? b=some o→g.get? b=some o)→g.DictOf knd d (rows.map λr=>(r.k,r.val))→R (.ok (.ret .none)) {s with heap:=g,toks:=tk}) →
   codeAny (model prog w) A (.builtin "dict.update.loop" ⟨[.ref d,.ref I,rawInt i,.none],[]⟩) R s:=by
 intro m
 induction m with
 |zero =>
  intro i s hm hi st hl hR hd hQ
  obtain rfl:i=rows.length:=by lia
  refine codeAny_builtin zhj ?_
  rw[Wv zdt _]
  show wpAny _ A.in1 (pyNext (.ref I) >>= _) _ _ s
  refine wpAny_bind (wpAny_pyNext_list_end (show A.in1.handled=none from hh) st hl (by simp) λg eb=>?_)
  show wpAny _ A.in1 (Builtin.Dict.addKeywords d [] >>= λ_=>ret Value.none) _ _ _
  refine wpAny_bind (show wpAny _ A.in1 (pure ()) _ _ _ from wpAny_pure (wpAny_pure (hQ g s.toks (λb o _ hb e=>eb b o hb e) ?_)))
  rw[Qu (Qd _)]at hd
  exact hd.extBut eb sw
 | succ m ih =>
  intro i s hm hi st hl hR hd hQ
  have lt:i<rows.length:=by lia
  obtain⟨e1,e2,e3,e4⟩:=hR rows[i] (Qq lt)
  obtain⟨n1,n2⟩:=hr rows[i] (Qq lt)
  refine codeAny_builtin zhj ?_
  rw[Wv zdt _]
  show wpAny _ A.in1 (pyNext (.ref I) >>= _) _ _ s
  refine wpAny_bind (wpAny_pyNext_list_item st hl (x:=.ref rows[i].a) (by simp[lt]) λg a9 sb=>?_)
  have k1:∀b o,b≠I→s.heap.get? b=some o→g.get? b=some o:=λb o hb e=>(sb.2 b hb).trans e
  have oE:g.DictOf knd d ((rows.take i).map λr=>(r.k,r.val)):=hd.sameBut sb sw
  refine wpAny_bind (wpAny_holding ?_)
  refine wpAny_bind (wpAny_tryCatch ?_)
  show wpAny _ A.in1 (Builtin.Dict.pairItems (.ref rows[i].a)) _ _ _
  unfold Builtin.Dict.pairItems
  refine wpAny_bind (wpAny_typeOf (T := "tuple") ⟨_,k1 _ _ n2 e1,e2⟩ ?_)
  rw[if_pos (by decide)]
  refine wpAny_bind (wpAny_seqItems (k1 _ _ n2 e1) e3 (wpAny_pure ?_))
  show wpAny _ A.in1 (holding [rows[i].key,rows[i].val] (dictSet d rows[i].key rows[i].val)) _ _ _
  have nk:rows[i].k∉((rows.take i).map λr=>(r.k,r.val)).map (·.1):=by
   rw[Zp]
   intro q
   obtain⟨r,aI,c9⟩:=Ql.mp q
   obtain⟨j,hj,ej⟩:=Zf aI
   rw[Zc]at hj
   rw[Ud]at ej
   have bH:j<rows.length:=by lia
   have:(rows.map (·.k))[j]'(by simpa using bH)=(rows.map (·.k))[i]'(by simpa using lt):=by
    rw[Yd,Yd,ej];exact c9
   have:=(Wn nd).mp this
   lia
  refine wpAny_holding (wpAny_dictSet_pairs (knd:=knd) e4 oE (λg2 hd2 sb2=>?_) (by rw[Qa,Zc];lia))
  rw[stored_new nk]at hd2
  have mz:g2.DictOf knd d ((rows.take (i+1)).map λr=>(r.k,r.val)):=by
   rw[Qo lt,Qt];exact hd2
  have k2:∀b o,b≠d→b≠I→s.heap.get? b=some o→g2.get? b=some o:=λb o fR dA e=>(sb2.2 b fR).trans (k1 b o dA e)
  have hc:((i:Int)+1)=((i+1:Nat):Int):=by push_cast;rfl
  refine wpAny_pure ⟨plainId_quiet zdt _,?_⟩
  rw[hc]
  refine ih (i+1) _ (by lia) lt ?_ ?_ (λr lw=>?_) mz λg3 tk3 k3 sx=>?_
  ·obtain ⟨o,q,z⟩:=a9
   exact⟨o,(sb2.2 I (Zn sw)).trans q,z⟩
  ·obtain ⟨o,q,z⟩:=hl
   exact⟨o,k2 l o (Zn kr) hlI q,z⟩
  ·obtain ⟨q1,q2⟩:=hR r lw
   exact⟨k2 _ _ (hr r lw).1 (hr r lw).2 q1,q2⟩
  ·exact hQ g3 tk3 (λb o fR dA e=>k3 b o fR dA (k2 b o fR dA e)) sx
def call{l:Nc}{rows:List (Row K)}{Q:Nb}{xk:Nat}(hh:A.handled=none)(hl:s.heap.get? l=some {cls:=.type "list",data:=.seq (rows.map λr=>Value.ref r.a).toArray xk})(hR:∀r∈rows,RowAt knd s.heap r)(nd:(rows.map (·.k)).Nodup)(hz:rows.length≤sizeLine)(h:∀g tk,g.DictOf knd s.heap.objs.size (rows.map λr=>(r.k,r.val))→(∀b o,s.heap.get? b=some o→g.get? b=some o)→Q (.ref s.heap.objs.size) {s with heap:=g,toks:=tk}) :
  wpAny (model prog w) A (call (.type "dict") [.ref l]) Q E s:=by
 refine callType_codes (Q₁:=λobj s₁=>obj=.ref s.heap.objs.size∧s₁={s with heap:=s.heap.push {cls:=.type "dict",data:=.dict #[]}}) PySem.F.kt_called_dict (PySem.F.kt_typeCall_dict_1 _) PySem.F.entry_dict_init (kt_code_dict_new _ ⟨rfl,rfl⟩) ?_
 rintro obj s₁ ⟨rfl,rfl⟩
 have cw:(s.heap.push {cls:=.type "dict",data:=.dict #[]}).DictOf knd s.heap.objs.size []:=Heap.DictOf.new s.heap
 refine⟨cw.typeIs,PySem.F.args_dict_init_2 _ _,?_⟩
 unfold Builtin.«dict.__init__»
 refine wpAny_bind ?_
 unfold Builtin.Dict.selfAndRest
 refine wpAny_bind (wpAny_notOrdered_dict cw.typeIs (show wpAny _ _ (pure (s.heap.objs.size,[Value.ref l])) _ _ _ from wpAny_pure ?_))
 show wpAny _ _ (Builtin.Dict.updateFrom "dict.__init__" s.heap.objs.size (.ref l) [] .none) _ _ _
 unfold Builtin.Dict.updateFrom
 have cG:(s.heap.push {cls:=.type "dict",data:=.dict #[]}).get? l=some {cls:=.type "list",data:=.seq (rows.map λr=>Value.ref r.a).toArray xk}:=Qi _ hl
 refine wpAny_bind (wpAny_typeOf (T := "list") ⟨_,cG,rfl⟩ ?_)
 rw[if_pos (by decide)]
 refine wpAny_bind (no_keys cG (by first | exact hh | (show A.handled=none;exact hh)) λg tk kg=>?_)
 simp only[Option.isNone_none,if_true]
 refine wpAny_bind (wpAny_rule ?_)
 have ltl:l<s.heap.objs.size:=Qw hl
 have dg:g.DictOf knd s.heap.objs.size []:=by
  obtain⟨o,es,ep,q,z⟩:=cw
  exact⟨o,es,ep,kg _ _ q,z⟩
 have hlg:g.IsList l (rows.map λr=>Value.ref r.a).toArray:=⟨_,kg _ _ cG,rfl,xk,rfl⟩
 have ltd:s.heap.objs.size<g.objs.size:=by
  obtain⟨o,es,ep,q,z⟩:=dg
  exact Qw q
 have lts:∀b o,s.heap.get? b=some o→b≠s.heap.objs.size∧b≠g.objs.size:=λb o e=>⟨Zk (Qw e),Zk (Ws (Qw e) ltd)⟩
 refine wpAny_bind (wpAny_pyIter_list (s:={s with heap:=g,toks:=tk}) hlg (wpAny_pure ⟨plainId_quiet zdt _,?_⟩))
 refine loop (knd:=knd) (I:=g.objs.size) (l:=l) (by first | exact hh | (show A.handled=none;exact hh)) rows s.heap.objs.size (Zk ltd) (Wg ltl) (Zk (Ws ltl ltd)) (λr hr=>lts r.a r.o (hR r hr).1) nd hz _ 0 _ rfl (Zh _) ⟨_,Za _ rfl,rfl,rfl⟩ ?_ (λr hr=>?_) ?_ λg2 tk2 k2 hd=>?_
 ·obtain ⟨o,q,z⟩:=hlg
  exact⟨o,Qi _ q,z⟩
 ·obtain ⟨q1,q2⟩:=hR r hr
  exact⟨Qi _ (kg _ _ (Qi _ q1)),q2⟩
 ·exact dg.push _
 ·exact⟨rfl,h g2 tk2 hd λb o e=>k2 b o (lts b o e).1 (lts b o e).2 (Qi _ (kg _ _ (Qi _ e)))⟩
end
end DictR
end
section
namespace L2
open PySem PySem.Spec PyProof.Rows
section
variable{X:Cx}
abbrev RowsAt(H:Hp):List Addr→List (Str×V)→Prop:=Paired λa p=>H a=some (.tup [.str p.1,p.2])
theorem rows_of(I:Inv X a7 σ H s):∀{as:Nk} {ps:List (Str×V)},RowsAt H as ps →
  ∃rows:List (DictR.Row Key),rows.map (·.a)=as∧(∀r∈rows,DictR.RowAt (zaq X.prog X.w) s.heap r)∧rows.map (·.k)=ps.map (λp=>Sum.inr p.1)∧KV (ps.map λp=>((Sum.inr p.1:Key),p.2)) (rows.map λr=>(r.k,r.val))
 |_,_,.nil=>⟨[],rfl,λr hr=>(by cases hr),rfl,.nil⟩
 | a::as,p::ps,.cons h t=>by
  obtain⟨rows,e1,e2,e3,e4⟩:=rows_of I t
  obtain⟨_,a8,r,o,q,c,n,d⟩:=I.hok a _ h
  obtain⟨u,w',rfl,⟨tk,rfl⟩,rz⟩:=vals2 r
  refine⟨⟨a,o,Sum.inr p.1,.str p.1 tk,w',n⟩::rows,by rw[Qk,e1],λx hx=>?_,by rw[Qk,Qk,e3],.cons ⟨rfl,rz⟩ e4⟩
  rcases Qh.mp hx with z | z
  ·subst z
   exact⟨q,c,d,zgj _ _ _ _⟩
  ·exact e2 x z
def zd2(hc:X.calm=true):zb3 X (.type "dict") (fun xs H Q=>Ex3 fun (p:Nc) (as:Nk) (ps:List (Str×V))=>Aj5 (xs=[.ref p]) (H p=some (.lst (as.map V.ref))) (RowsAt H as ps) ((ps.map (·.1)).Nodup) (∀ l,H l=none→Q (.ref l) (upd H l (.dK (ps.map fun p=>((Sum.inr p.1:Key),p.2)))))):=by
 intro a7 s σ H xs us Q I r h
 obtain⟨p,as,ps,rfl,hp,hr,nd,q⟩:=h
 obtain⟨u,rfl,rx⟩:=vals1 r
 cases rx
 obtain⟨hz,a8,n,rv,hl,e⟩:=I.lstM hp
 obtain⟨rows,e1,e2,e3,e4⟩:=rows_of I hr
 have eits:a8=rows.map λr=>Value.ref r.a:=by
  have dC:=e1
  clear hz hl e hp e4 e3 e2 hr e1 q
  induction rows generalizing as a8 with
  |nil=>subst dC;cases rv;rfl
  | cons r rs ih =>
   cases as with
   |nil=>cases dC
   | cons a as =>
    rw[Qk]at dC rv
    injection dC with h1 h2
    cases rv with
    |cons r1 r2 =>
     cases r1
     rw[Qk,h1,ih _ _ r2 h2]
 subst eits
 have ad:rows.length≤sizeLine:=by rw[Qa]at hz hl;rw[Qa]at hl;exact zd3 ‹_› ‹_›
 have ndk:(rows.map (·.k)).Nodup:=by
  rw[e3,show(λp:Str×V=>(Sum.inr p.1:Key))=(Sum.inr:Str→Key)∘(λp:Str×V=>p.1) from rfl,←Zp]
  exact List.Pairwise.map _ (λa b z q=>z (Ka q)) nd
 refine DictR.call (knd:=zaq X.prog X.w) (rows:=rows) (xk:=n) (I.ok.hd hc) e e2 ndk ad λg tk hd k=>?_
 have nS:(s.heap.objs.size==sysModules)=false:=beq_eq_false_iff_ne.mpr (Wg I.big)
 refine⟨.ref _,_,I.laid (t':=tk) k (Qd _) (show zbo X.prog X.w _ g _ (.dK _) from⟨?_,nS,_,e4,hd⟩),rfl,q _ (I.hok.fresh (Qd _))⟩
 have:=Zt e4
 rw[Qa,Qa]at this
 rw[Qa];omega
end
def zii{prog:Ni}{w:Nl}{A:Nn}{s:Ng}{kx vx target iter:Expr}{ifs:No}{scope:Scope}{pos:Pos}{it:Value}{D:Nc}{env:Env}{R:Nt}(I:Nat→Shared→Prop)(turn:∀ n s,I n s→wpAny (model prog w) A (pyNext it) (fun r s₁=>match r with
   |none=>R (.ok .next) s₁
   | some v=>wpAny (model prog w) A (letOwnedTupleGo target it v) (fun _ s₁'=>wpAny (model prog w) A (assign target env v) (fun _ s₂ =>
     wpAny (model prog w) A (forIn ifs true λc r=>if r=true then do let ok ←isTrue c env (eval c env);pure (ForInStep.yield ok) else pure (ForInStep.yield r)) (λok s₃ =>
      if ok=true then wpAny (model prog w) A (eval kx env) (λkv s₄=>wpAny (model prog w) A (eval vx env) (λvv s₅ =>
       wpAny (model prog w) A (dictSet D kv vv) (λ_ s₆=>∃m,m<n∧I m s₆) (λ_ _=>False) s₅) (λ_ _=>False) s₄) (λ_ _=>False) s₃
      else ∃m,m<n∧I m s₃) (λ_ _=>False) s₂) (λ_ _=>False) s₁') (λ_ _=>False) s₁) (λ_ _=>False) s)(n:Nat)(h:I n s):codeAny (model prog w) A (.compLoop (.DictComp kx vx [⟨target,iter,ifs,0⟩] scope pos) 0 it (.ref D) env) R s:=by
 refine codeAny_loop rfl I (λn s hI=>?_) n h
 show wpAny _ A ((compTurn (.DictComp kx vx [⟨target,iter,ifs,0⟩] scope pos) 0 it (.ref D) env).onRaise (λx=>do noteFrame x env;theTreesLotGoes x)) _ _ s
 refine wpAny_noted ?_
 rw[compTurn_dict]
 refine wpAny_bind (wpAny_standAt (wpAny_bind (wpAny_mono (turn n s hI) (λr s₁ h₁=>?_) λ_ _ h'=>h'.elim)))
 cases r with
 |none=>exact wpAny_pure h₁
 | some v =>
  refine wpAny_bind (wpAny_mono h₁ (λ_ s₁' h₁'=>?_) λ_ _ h'=>h'.elim)
  refine wpAny_bind (wpAny_mono h₁' (λ_ s₂ h₂=>wpAny_bind (wpAny_mono h₂ (λok s₃ h₃=>?_) λ_ _ h'=>h'.elim)) λ_ _ h'=>h'.elim)
  cases ok with
  |false=>exact wpAny_pure ⟨rfl,h₃⟩
  |true =>
   exact wpAny_bind (wpAny_bind (wpAny_mono h₃ (λkv s₄ h₄=>wpAny_bind (wpAny_holding (wpAny_mono h₄ (λvv s₅ h₅=>wpAny_bind (wpAny_standAt (wpAny_holding (wpAny_mono h₅ (λ_ s₆ h₆=>wpAny_pure ⟨rfl,h₆⟩) λ_ _ h'=>h'.elim)))) λ_ _ h'=>h'.elim))) λ_ _ h'=>h'.elim))
section
variable{X:Cx}{sc:Scope}{M:Nj}{ix:Nq}{a7:Nd}{σ:St}{H:Hp}{s:Ng}
def rDC(g:TG)(tc:TT)(tk tv:TE)(Q:VK)(J:It)(τ:St)(H1:Hp):Prop:=∃W:Nat→Nat→List (Key×V)→St→Hp→Prop,(∃m,W 0 m [] τ H1)∧∀i m ys τ H,W i m ys τ H →
 (J.stop i H∧∀D,H D=none→Q (.ref D) (upd H D (.dK ys))) ∨
 (J.go i H∧ys.length<sizeLine∧∀x H',J.yld i H x H'→g x τ H' λ τ2 H2=>tc τ2 H2 λb H3=>if b=true then tk τ2 H3 λkv H4=>tv τ2 H4 λy H5=>∃k,kv=kV k∧∃m',m'<m∧W (i+1) m' (putK ys k y) τ2 H5 else ∃m',m'<m∧W (i+1) m' ys τ2 H3)
def tDC(ix:Nq)(wi:TI)(g:TG)(tc:TT)(tk tv:TE):TE:=λ σ H Q=>wi σ H λJ H1=>rDC g tc tk tv Q J (inner ix σ) H1
def dc_block{tg kx vx iter:Expr}{ifs:No}{pos:Pos}{g:TG}{tc:TT}{tk tv:TE}{fp:Nk}{it:Nc}{tn:Nat→Heap→Prop}{J:It}{Q:VK}{RR:Value→Addr→Result→Shared→Prop}{E:Nb}(B:Blk X sc M ix)(hc:X.calm=true)(hg:∀C ex s H,PG (zbx X sc M C a7 ex s H) tg g)(ht:∀C ex s H,PTs (zbx X sc M C a7 ex s H) ifs tc)(hk:∀C ex s H,PE (zbx X sc M C a7 ex s H) kx tk)(he:∀C ex s H,PE (zbx X sc M C a7 ex s H) vx tv)(I:Inv X a7 σ H s)(T:Turn X.prog X.w X.K tg J fp it tn)(h0:tn 0 s.heap)(hf:∀b∈fp,FpOk X a7 H b)(q:rDC g tc tk tv Q J (inner ix σ) H)(jE:∀D C m ys H' s',Inv X a7 σ (upd H' D (.dK ys)) s'→Q (.ref D) (upd H' D (.dK ys))→s'.heap.Ns C m→upd H' D (.dK ys) C=none→s.heap.objs.size<C→RR (.ref D) C (.ok .next) s') :
  wpAny (model X.prog X.w) X.A newDict (λaf s₃=>wpAny (model X.prog X.w) X.A (newFunctionEnv sc X.env.globals (clOf sc X.env) [] X.env.qual none .none (some X.env)) (λcenv s₄ =>
   codeAny (model X.prog X.w) X.A (.compStart (.DictComp kx vx [⟨tg,iter,ifs,0⟩] sc pos) 0 (.ref it) af {cenv with scope:=relabel sc X.env}) (RR af cenv.locals) s₄) E s₃) E s:=by
 refine wpAny_newObj_type (wpAny_newFunctionEnv B.nocell (by intro y hy;simp at hy) (λh₁ hns₁ hsb₁=>?_) B.kind)
 dsimp only at hns₁ hsb₁ ⊢
 generalize hD:s.heap.objs.size=D at hns₁ hsb₁ ⊢
 generalize dQ:s.heap.push {cls:=.type "dict",dict:=none,data:=.dict #[]}=g2 at hns₁ hsb₁ ⊢
 have hC:g2.objs.size=D+1:=by rw[←dQ,Uh,hD]
 have k2:∀b o,s.heap.get? b=some o→g2.get? b=some o:=λb o e=>by rw[←dQ];exact Qi _ e
 have I3:Inv X a7 σ H {s with heap:=g2}:=I.kept (t':=s.toks) k2
 have HD:H D=none:=I.hok.fresh (by rw[hD];exact Qd _)
 have fD:FpOk X a7 H D:=I.fpOk (by rw[hD];exact Qd _) HD
 have D2:g2.get? D=some {cls:=.type "dict",dict:=none,data:=.dict #[]}:=by rw[←dQ,←hD];exact Za _ rfl
 have nS:(D==sysModules)=false:=beq_eq_false_iff_ne.mpr (by rw[←hD];exact Wg I.big)
 have k1:∀b o,g2.get? b=some o→h₁.get? b=some o:=λb o e=>by
  have hb:b≠g2.objs.size:=Zk (Qw e)
  exact(hsb₁.2 b hb).trans (Qi _ e)
 have DN:h₁.DictOf (zaq X.prog X.w) D []:=by
  have q:g2.DictOf (zaq X.prog X.w) D []:=by rw[←dQ,←hD];exact Heap.DictOf.new s.heap
  obtain⟨o,es,ep,e,r⟩:=q
  exact⟨o,es,ep,k1 _ _ e,r⟩
 have fpx:∀b∈D::fp,FpOk X a7 H b:=λb hb=>by
  rcases Qh.mp hb with e | e
  ·rw[e];exact fD
  ·exact hf b e
 have fplt:∀b∈D::fp,b<g2.objs.size:=λb hb=>by
  rcases Qh.mp hb with e | e
  ·rw[e,hC];exact Yv _
  ·obtain ⟨o,q,_⟩:=T.obj _ _ h0 b e
   exact Qw (k2 b o q)
 have fpD:D∉fp:=λhm=>by
  obtain⟨o,q,_⟩:=T.obj _ _ h0 D hm
  have:=Qw q
  rw[hD]at this
  exact Yr _ this
 generalize am:zbx X sc M g2.objs.size a7 (D::fp) {s with heap:=g2} H=Y
 have IY:Inv Y [] (inner ix σ) H {s with heap:=h₁,toks:=s.toks+([]:List (Str×Value)).length}:=by
  rw[←am]
  exact inv_blk B I3 fpx fplt rfl hns₁ k1 rfl rfl
 have Yg:=am▸hg g2.objs.size (D::fp) {s with heap:=g2} H
 have Yt:=am▸ht g2.objs.size (D::fp) {s with heap:=g2} H
 have Yk:=am▸hk g2.objs.size (D::fp) {s with heap:=g2} H
 have Ye:=am▸he g2.objs.size (D::fp) {s with heap:=g2} H
 have eP:Y.prog=X.prog:=by rw[←am];rfl
 have eW:Y.w=X.w:=by rw[←am];rfl
 have eK:Y.K=X.K:=by rw[←am];rfl
 have eA:Y.A=X.A:=by rw[←am];rfl
 have eC:Y.calm=true:=by rw[←am];exact hc
 have eE:Y.env=compEnvC sc (clOf sc X.env) g2.objs.size X.env:=by rw[←am];rfl
 have eX:Y.xe=λ_ _=>False:=by rw[←am];rfl
 have eEx:Y.ex=D::fp:=by rw[←am];rfl
 have eFs:Y.fs=frs X.stack:=by rw[←am];rfl
 have ePn:Y.pn=X.pn++a7:=by rw[←am];rfl
 have eL:Y.env.locals=g2.objs.size:=by rw[eE];rfl
 have ny:Y.H₀=H:=by rw[←am];rfl
 have i5:Y.s₀={s with heap:=g2}:=by rw[←am];rfl
 have fY:∀{H':Hp} {pl:Nd} {b:Nc},b∈D::fp→H' b=none→(∀p∈pl,p.1≠b)→FpOk Y pl H' b:=λ{H' pl b} hb hn hp=>by
  obtain⟨f0,f1,f2,f3,f4,f5⟩:=fpx b hb
  refine⟨hn,?_,?_,.inl (by rw[eEx];exact hb),IY.ok.exf b (by rw[eEx];exact hb) |>.2,λp bY=>?_⟩
  ·rw[eL];exact Zk (fplt b hb)
  ·rw [eFs]
   intro z
   rcases Qh.mp (I3.stkSub b z) with q | q
   ·exact f1 q
   ·exact f2 q
  ·rw [ePn] at bY
   rcases Qf.mp bY with z | z
   ·exact f5 p z
   ·exact hp p z
 obtain⟨W,⟨m0,w0⟩,turn⟩:=q
 have loop:∀ sN:Shared,sN={ s with heap:=h₁,toks:=s.toks+([]:List (Str×Value)).length } →
   codeAny (model X.prog X.w) X.A (.compLoop (.DictComp kx vx [⟨tg,iter,ifs,0⟩] sc pos) 0 (.ref it) (.ref D) (compEnvC sc (clOf sc X.env) g2.objs.size X.env)) (RR (.ref D) g2.objs.size) sN:=by
  rintro sN rfl
  refine zii (λn s'=>Ex5 λi τ H' ys vs=>Aj7 (Inv Y [] τ H' s') (tn i s'.heap) (∀b∈D::fp,H' b=none) (s'.heap.DictOf (zaq X.prog X.w) D vs) (KV ys vs) (ys.length≤sizeLine) (W i n ys τ H')) ?_ m0
   ⟨0,inner ix σ,H,[],[],IY,T.keep _ _ _ h0 λb _ o e=>k1 b o (k2 b o e),λb hb=>(fpx b hb).1,DN,.nil,Zh _,w0⟩
  rintro n s5 ⟨i,τ,H5,ys,vs,I5,t5,n5,dd5,v5,z5,w5⟩
  obtain⟨o5,jG,sZ,d5,oR⟩:=id dd5
  have nc5:∀v,o5.data≠.cell v:=λv z=>by
   obtain⟨_,q,_⟩:=oR
   rw[q]at z;cases z
  have oD:∀b∈[D],∃o,s5.heap.get? b=some o∧∀v,o.data≠.cell v:=λb hb=>by
   rw[Qb.mp hb]
   exact⟨_,d5,nc5⟩
  have dE:Inv Y ([]++zbb [D] s5.heap) τ H5 s5:=I5.pinned (λb hb=>fY (by rw[Qb.mp hb];exact Qe) (n5 b (by rw[Qb.mp hb];exact Qe)) (by simp)) oD
  have pD:∀p∈zbb [D] s5.heap,p.1=D∧p.2=o5:=λp hp=>by
   obtain⟨e1,e2⟩:=zcx hp
   have dC:p.1=D:=Qb.mp e1
   rw[dC,d5]at e2
   exact⟨dC,(Qs e2).symm⟩
  have fN:∀{H':Hp},(∀b∈fp,H' b=none)→∀b∈fp,FpOk Y ([]++zbb [D] s5.heap) H' b:=λhn b hb=>fY (Qg _ hb) (hn b hb) λp hp z=>by
   rw[Wq]at hp
   rw[(pD p hp).1]at z
   exact fpD (z▸hb)
  rcases turn i n ys τ H5 w5 with⟨stop,qn⟩ | ⟨go,zl,step⟩
  ·have h6:=T.done Y eP eW eK eC i _ s5 τ H5 (fun _ _=>False) dE (fN fun b hb=>n5 b (Qg _ hb)) t5 stop
   rw[eA]at h6
   refine thn h6 λr s6 ⟨hr,I6⟩=>?_
   subst hr
   have d6:s6.heap.get? D=some o5:=by
    have hp:=za2 (fp:=[D]) (Qb.mpr rfl) d5
    exact(I6.pin (D,_) (Qj _ hp)).1
   have H5D:H5 D=none:=n5 D Qe
   obtain⟨mL,nL,_⟩:=I6.loc
   rw[eL]at nL
   have CD:g2.objs.size≠D:=by rw[hC];exact Xi _
   refine jE D _ mL ys H5 s6 ?_ (qn D H5D) nL ?_ (by rw[hC,hD];exact Yv _)
   ·have u6:=I6.base
    rw[eFs,eEx,ny,i5]at u6
    refine I3.call' (ch:=D::fp) (I6.os.trans (by rw[i5])) ⟨u6.keep,u6.slot,λb o e n hx=>?_,u6.there,λb xs e=>?_,λb o u e=>?_,λb ps e=>?_⟩ ?_ I6.bare λb hb=>?_
    ·rw[zad (λz=>hx (by rw[z];exact Qe))];exact u6.free b o e n hx
    ·rw[zad (zab e HD)];exact u6.tups b xs e
    ·rw[zad (zab e HD)];exact u6.frzs b o u e
    ·rw[zad (zab e HD)];exact u6.tbls b ps e
    ·have gF:=I6.hok
     rw[eP,eW]at gF
     intro b u e
     by_cases hb:b=D
     ·subst hb
      rw[zac]at e
      cases e
      exact⟨z5,nS,vs,v5,o5,jG,sZ,d6,oR⟩
     ·rw [zad hb] at e
      exact(gF b u e).stay (λc v _ q=>q) (λc q=>by rw[zad (zab q H5D)];exact q) λc xs q=>by rw[zad (zab q H5D)];exact q
    ·obtain ⟨f0,f1,f2,f3,f4,f5⟩:=fpx b hb
     exact⟨f3,f1,f4,f5⟩
   ·rw [zad CD]
    have:=I6.free
    rw[eL]at this
    exact this
  ·have h6:=T.item Y eP eW eK eC i _ s5 τ H5 (fun _ _=>False) dE (fN fun b hb=>n5 b (Qg _ hb)) t5 go
   rw[eA]at h6
   refine thn h6 λr s6 ⟨u,hr,h7⟩=>?_
   subst hr
   refine thn h7 λ_ s7 ⟨x,H7,I7,r7,y7,t7,n7⟩=>?_
   have jM:=I7.pinned (fN n7) (T.obj _ _ t7)
   have h8:=Yg _ s7 τ H7 x u _ jM r7 (step x H7 y7)
   rw[eP,eW,eA,eX,eE]at h8
   refine thn h8 λ_ s8 ⟨τ8,H8,I8,q8⟩=>?_
   have h9:=Yt _ s8 τ8 H8 _ I8 q8
   rw[eP,eW,eA,eX,eE]at h9
   refine thn h9 λok s9 ⟨H9,I9,q9⟩=>?_
   have again:∀{τ':St} {H':Hp} {s':Ng},Inv Y (([]++zbb [D] s5.heap)++zbb fp s7.heap) τ' H' s'→s'.heap.get? D=some o5∧H' D=none∧tn (i+1) s'.heap∧∀b∈fp,H' b=none:=λ{τ' H' s'} I'=>by
    have pp:∀{b:Nc} {o:Obj},b∈fp→s7.heap.get? b=some o→s'.heap.get? b=some o∧H' b=none:=λ{b o} hb e =>
     let z:=I'.pin (b,o) (Qj _ (Qj _ (za2 hb e)))
     ⟨z.1,z.2.1⟩
    have hp:=za2 (fp:=[D]) (Qb.mpr rfl) d5
    have z:=I'.pin (D,_) (Qj _ (Qv _ hp))
    refine⟨z.1,z.2.1,T.keep _ _ _ t7 λb hb o e=>(pp hb e).1,λb hb=>?_⟩
    obtain⟨o,e,_⟩:=T.obj _ _ t7 b hb
    exact(pp hb e).2
   have drop:∀{pl:Nd} {τ':St} {H':Hp} {s':Ng},Inv Y pl τ' H' s'→Inv Y [] τ' H' s':=λI'=>I'.pins_of (by simp)
   cases ok with
   |false =>
    rw[if_neg (by decide)]at q9 ⊢
    obtain⟨m',hm,w9⟩:=q9
    obtain⟨d9,H9D,t9,n9⟩:=again I9
    exact⟨m',hm,i+1,τ8,H9,ys,vs,drop I9,t9,λb hb=>(Qh.mp hb).elim (λe=>e▸H9D) (n9 b),⟨o5,jG,sZ,d9,oR⟩,v5,z5,w9⟩
   | true =>
    rw[if_pos rfl]at q9 ⊢
    have dB:=Yk _ s9 τ8 H9 _ I9 q9
    rw[eP,eW,eA,eX,eE]at dB
    refine thn dB λkv cJ ⟨kw,dF,fE,jO,pf⟩=>?_
    have nj:=Ye _ cJ τ8 dF _ fE pf
    rw[eP,eW,eA,eX,eE]at nj
    refine thn nj λy pc ⟨yv,H11,kH,r11,kk,ek,m',hm,w11⟩=>?_
    subst ek
    obtain⟨d11,H11D,t11,n11⟩:=again kH
    have tq:pc.heap.DictOf (zaq X.prog X.w) D vs:=⟨o5,jG,sZ,d11,oR⟩
    have jg:(zaq X.prog X.w).is kk kv=true:=by
     cases kk with
     |inl i=>obtain⟨t,rfl⟩:=jO;exact keyIs_int i t
     |inr x=>obtain⟨t,rfl⟩:=jO;exact keyIs_str x t
    refine wpAny_dictSet_pairs (knd:=zaq X.prog X.w) jg tq (λh' fk sb=>?_) (by rw[←Zt v5];assumption)
    have kkp:∀b o,b≠D→pc.heap.get? b=some o→h'.get? b=some o:=λb o hb e=>(sb.2 b hb).trans e
    obtain⟨g0,g1,g2',g3,g4,g5⟩:=fY (pl:=[]) (H':=H11) (b:=D) Qe H11D (by simp)
    have I12:=(drop kH).turned (h':=h') (t':=pc.toks+1) (it:=D) kkp H11D g1 g3 g4 g5
    refine⟨m',hm,i+1,τ8,H11,putK ys kk yv,stored vs kk y,I12,T.keep _ _ _ t11 λb hb o e=>kkp b o (λz=>fpD (z▸hb)) e,λb hb=>(Qh.mp hb).elim (λe=>e▸H11D) (n11 b),fk,v5.put kk r11,?_,w11⟩
    unfold putK
    split
    ·rw[Qa];exact z5
    ·rw[Qm,Ki];assumption
 exact codeAny_compStart_dict (loop _ rfl) (T.self _ 0 _ _ _ (T.keep _ _ _ h0 λb _ o e=>k1 b o (k2 b o e)) (loop _ rfl))
def ps_dc(hN:X.N.Nodup)(dy:X.N[i]?=some y)(hy:X.env.scope.names.lookup y=some .local)(B:Blk X sc M ix)(hc:X.calm=true)(hi:PI X tg iter wi)(hg:∀C a7 ex s H,PG (zbx X sc M C a7 ex s H) tg g)(ht:∀C a7 ex s H,PTs (zbx X sc M C a7 ex s H) ifs tc)(hk:∀C a7 ex s H,PE (zbx X sc M C a7 ex s H) kx tk)(he:∀C a7 ex s H,PE (zbx X sc M C a7 ex s H) vx tv)(ql:swapsWith (.DictComp kx vx [⟨tg,iter,ifs,0⟩] sc pos) (some (.Name y py)) spos.line X.env=pure true)(hs:∀x,foldedSetIterable iter X.env x=pure x:=by intro _;rfl):PS X (.Assign [.Name y py] (.DictComp kx vx [⟨tg,iter,ifs,0⟩] sc pos) spos) (tAsg (tDC ix wi g tc tk tv) (gName i)):=by
 intro a7 s σ H D' I h
 rw[exec_Assign_Name_used _ _ _ _ ql]
 refine wpAny_bind (wpAny_standAt (wpAny_bind ?_))
 show wpAny _ X.A (do let _ ←comprehension (.DictComp kx vx [⟨tg,iter,ifs,0⟩] sc pos) sc X.env _ newDict false (eval iter X.env) (some (assign (.Name y py) X.env))) _ _ s
 refine wpAny_bind (wpAny_mono (wpAny_comprehension_free (use:=some (assign (.Name y py) X.env)) (Q:=λ_ s'=>SP X a7 D' .next s') rfl hs (zb2 (B.clos I)) B.kind B.names
  (thn (hi a7 s σ H _ I h) λv s1 h1=>thn h1 λitv s2 h2=>?_)) (λ_ s' hq=>wpAny_pure (wpAny_pure hq)) λ_ _ e=>e)
 obtain⟨it,fp,tn,J,H2,e,I2,T,aq,f2,q⟩:=h2
 subst e
 refine dc_block (RR:=λaf C=>compPost (model X.prog X.w) X.A X.xe (some (assign (.Name y py) X.env)) (λ_ s'=>SP X a7 D' .next s') af C) B hc (hg · a7) (ht · a7) (hk · a7) (he · a7) I2 T aq f2 q ?_
 intro D C m ys H' s' I' q' hn hC ae
 show wpAny _ X.A (assign (.Name y py) X.env (.ref D)) _ _ s'
 refine wpAny_assign_Name (zfw I' hN dy (.inl hy) (v:=.ref D) rfl (λkL tU ⟨a,sb,ha⟩=>?_) (.inr hy))
 have aC:C≠a:=by
  rcases ha with z | z
  ·rw[z];exact Wg (Ws I2.lt ae)
  ·exact Wg (Ws (I2.cl_lt _ _ z) ae)
 have bg:=hn.sameBut sb aC
 exact⟨m,bg,λh' c8=>⟨_,_,tU.letgo bg hC I2.lt I2.cl_lt I2.pin_lt I2.sz ae c8,q'⟩⟩
end
def compTurn_in(elt tg1 it1 target iter:Expr)(ifs:No)(scope:Scope)(pos:Pos)(it af:Value)(env:Env) :
  compTurn (.ListComp elt [⟨tg1,it1,[],0⟩,⟨target,iter,ifs,0⟩] scope pos) 1 it af env=(do
   standAt iter.pos
   match ←pyNext it with
   |none=>pure (.done .next)
   | some v =>
    letOwnedTupleGo target it v
    assign target env v
    let mut ok:=true
    for c in ifs do
     if ok then ok ←isTrue c env (eval c env)
    if ok then
     (do let _ ←call (.builtin "list.append") [af,←eval elt env])
    again (.compLoop (.ListComp elt [⟨tg1,it1,[],0⟩,⟨target,iter,ifs,0⟩] scope pos) 1 it af env)):=by rfl
def compTurn_out(elt target iter cT bE:Expr)(ifs:No)(scope:Scope)(pos:Pos)(it af:Value)(env:Env) :
  compTurn (.ListComp elt [⟨target,iter,[],0⟩,⟨cT,bE,ifs,0⟩] scope pos) 0 it af env=(do
   standAt iter.pos
   match ←pyNext it with
   |none=>pure (.done .next)
   |some v =>
    letOwnedTupleGo target it v
    assign target env v
    let x ←eval bE env
    standAt bE.pos
    let x ←foldedSetIterable bE env x
    let _ ←runOwn (.compStart (.ListComp elt [⟨target,iter,[],0⟩,⟨cT,bE,ifs,0⟩] scope pos) 1 (←holding [x] (pyIter x)) af env) env
    again (.compLoop (.ListComp elt [⟨target,iter,[],0⟩,⟨cT,bE,ifs,0⟩] scope pos) 0 it af env)):=by rfl
section
variable{prog:Ni}{w:Nl}{A:Nn}{s:Ng}{elt tg1 it1 target iter:Expr}{ifs:No}{scope:Scope}{pos:Pos}{it af:Value}{env:Env}{R:Nt}
def start_in(h0:codeAny (model prog w) A (.compLoop (.ListComp elt [⟨tg1,it1,[],0⟩,⟨target,iter,ifs,0⟩] scope pos) 1 it af env) R s)(h:wpAny (model prog w) A (pyIter it) (λpM s'=>codeAny (model prog w) A (.compLoop (.ListComp elt [⟨tg1,it1,[],0⟩,⟨target,iter,ifs,0⟩] scope pos) 1 pM af env) R s') (λ_ _=>False) s) :
  codeAny (model prog w) A (.compStart (.ListComp elt [⟨tg1,it1,[],0⟩,⟨target,iter,ifs,0⟩] scope pos) 1 it af env) R s:=by
 refine codeAny_of_tree (show wpAny _ _ ((compStart (.ListComp elt [⟨tg1,it1,[],0⟩,⟨target,iter,ifs,0⟩] scope pos) 1 it af env).onRaise (λx=>do noteFrame x env;standAt theWindowsPlace)) _ _ s from wpAny_notedAt ?_)
 unfold compStart
 show wpAny _ _ (ask >>= _) _ _ s
 refine wpAny_bind (wpAny_askSetting (wpAny_ite ?_))
 split
 ·first
   |exact wpAny_pure (And.intro rfl h0)
   |exact wpAny_bind (wpAny_pure (wpAny_pure (And.intro rfl h0)))
 ·refine wpAny_bind (wpAny_rule ?_)
  first
   |exact wpAny_bind (wpAny_standAt (wpAny_bind (wpAny_mono h (λpM s' h'=>wpAny_pure (And.intro rfl h')) λ_ _ x=>x.elim)))
   |(show wpAny _ _ (standAt iter.pos >>= _) _ _ s;exact wpAny_bind (wpAny_standAt (wpAny_bind (wpAny_mono h (λpM s' h'=>wpAny_pure (And.intro rfl h')) λ_ _ x=>x.elim))))
def loop_in(I:Nat→Shared→Prop)(turn:∀ n s,I n s→wpAny (model prog w) A (pyNext it) (fun r s₁=>match r with
   |none=>R (.ok .next) s₁
   | some v=>wpAny (model prog w) A (letOwnedTupleGo target it v) (fun _ s₁'=>wpAny (model prog w) A (assign target env v) (fun _ s₂ =>
     wpAny (model prog w) A (forIn ifs true λc r=>if r=true then do let ok ←isTrue c env (eval c env);pure (ForInStep.yield ok) else pure (ForInStep.yield r)) (λok s₃ =>
      if ok=true then wpAny (model prog w) A (eval elt env) (λx s₄=>wpAny (model prog w) A (call (.builtin "list.append") [af,x]) (λ_ s₅=>∃m,m<n∧I m s₅) (λ_ _=>False) s₄) (λ_ _=>False) s₃
      else ∃m,m<n∧I m s₃) (λ_ _=>False) s₂) (λ_ _=>False) s₁') (λ_ _=>False) s₁) (λ_ _=>False) s)(n:Nat)(h:I n s):codeAny (model prog w) A (.compLoop (.ListComp elt [⟨tg1,it1,[],0⟩,⟨target,iter,ifs,0⟩] scope pos) 1 it af env) R s:=by
 refine codeAny_loop rfl I (λn s hI=>?_) n h
 show wpAny _ A ((compTurn (.ListComp elt [⟨tg1,it1,[],0⟩,⟨target,iter,ifs,0⟩] scope pos) 1 it af env).onRaise (λx=>do noteFrame x env;theTreesLotGoes x)) _ _ s
 refine wpAny_noted ?_
 rw[compTurn_in]
 refine wpAny_bind (wpAny_standAt (wpAny_bind (wpAny_mono (turn n s hI) (λr s₁ h₁=>?_) λ_ _ h'=>h'.elim)))
 cases r with
 |none=>exact wpAny_pure h₁
 | some v =>
  refine wpAny_bind (wpAny_mono h₁ (λ_ s₁' h₁'=>?_) λ_ _ h'=>h'.elim)
  refine wpAny_bind (wpAny_mono h₁' (λ_ s₂ h₂=>wpAny_bind (wpAny_mono h₂ (λok s₃ h₃=>?_) λ_ _ h'=>h'.elim)) λ_ _ h'=>h'.elim)
  cases ok with
  |false=>exact wpAny_pure ⟨rfl,h₃⟩
  |true =>
   exact wpAny_bind (wpAny_bind (wpAny_mono h₃ (λx s₄ h₄=>wpAny_bind (wpAny_mono h₄ (λ_ s₅ h₅=>wpAny_pure (wpAny_pure ⟨rfl,h₅⟩)) λ_ _ h'=>h'.elim)) λ_ _ h'=>h'.elim))
def loop_out(hs:∀x,foldedSetIterable bE env x=pure x)(I:Nat→Shared→Prop)(turn:∀ n s,I n s→wpAny (model prog w) A (pyNext it) (fun r s₁=>match r with
   |none=>R (.ok .next) s₁
   | some v=>wpAny (model prog w) A (letOwnedTupleGo target it v) (fun _ s₁'=>wpAny (model prog w) A (assign target env v) (fun _ s₂ =>
     wpAny (model prog w) A (eval bE env) (λx s₃=>wpAny (model prog w) A (pyIter x) (λj s₄=>codeAny (model prog w) A (.compStart (.ListComp elt [⟨target,iter,[],0⟩,⟨cT,bE,ifs,0⟩] scope pos) 1 j af env) (λr s₅=>(∃f,r=.ok f)∧∃m,m<n∧I m s₅) s₄) (λ_ _=>False) s₃)
      (λ_ _=>False) s₂) (λ_ _=>False) s₁') (λ_ _=>False) s₁) (λ_ _=>False) s)(n:Nat)(h:I n s):codeAny (model prog w) A (.compLoop (.ListComp elt [⟨target,iter,[],0⟩,⟨cT,bE,ifs,0⟩] scope pos) 0 it af env) R s:=by
 refine codeAny_loop rfl I (λn s hI=>?_) n h
 show wpAny _ A ((compTurn (.ListComp elt [⟨target,iter,[],0⟩,⟨cT,bE,ifs,0⟩] scope pos) 0 it af env).onRaise (λx=>do noteFrame x env;theTreesLotGoes x)) _ _ s
 refine wpAny_noted ?_
 rw[compTurn_out]
 refine wpAny_bind (wpAny_standAt (wpAny_bind (wpAny_mono (turn n s hI) (λr s₁ h₁=>?_) λ_ _ h'=>h'.elim)))
 cases r with
 |none=>exact wpAny_pure h₁
 | some v =>
  refine wpAny_bind (wpAny_mono h₁ (λ_ s₁' h₁'=>?_) λ_ _ h'=>h'.elim)
  refine wpAny_bind (wpAny_mono h₁' (λ_ s₂ h₂=>?_) λ_ _ h'=>h'.elim)
  refine wpAny_bind (wpAny_mono h₂ (λx s₃ h₃=>wpAny_bind (wpAny_standAt (wpAny_bind (wpAny_of_eq (hs x) (wpAny_bind (wpAny_holding (wpAny_mono h₃ (λj s₄ h₄=>wpAny_bind (wpAny_runOwn ?_)) λ_ _ h'=>h'.elim)))))))
   λ_ _ h'=>h'.elim)
  refine codeAny_mono (show codeAny (model prog w) (A.mark none) _ _ s₄ from h₄) λr s₅ h₅=>?_
  obtain⟨⟨f,rfl⟩,h₆⟩:=h₅
  exact wpAny_pure ⟨rfl,h₆⟩
end
def rIn2(g:TG)(tc:TT)(te:TE)(Fin:List V→St→Hp→Prop)(J:It)(ys:List V)(τ:St)(H1:Hp):Prop:=∃W:Nat→Nat→List V→St→Hp→Prop,(∃m,W 0 m ys τ H1)∧∀i m ys τ H,W i m ys τ H →
 (J.stop i H∧Fin ys τ H) ∨
 (J.go i H∧ys.length<sizeLine∧∀x H',J.yld i H x H'→g x τ H' λ τ2 H2=>tc τ2 H2 λb H3=>if b=true then te τ2 H3 λy H4=>∃m',m'<m∧W (i+1) m' (ys++[y]) τ2 H4 else ∃m',m'<m∧W (i+1) m' ys τ2 H3)
def in_loop{Y:Cx}{D:Nc}{P1:Nd}{elt tg1 it1 tg iter:Expr}{ifs:No}{sc:Scope}{pos:Pos}{g:TG}{tc:TT}{te:TE}{fp:Nk}{it:Nc}{tn:Nat→Heap→Prop}{J:It}{Fin:List V→St→Hp→Prop}{τ0:St}{H0:Hp}{s0:Ng}{nH:List V}{ik:Nh}{k0:Nat}(hc:Y.calm=true)(eX:Y.xe=λ_ _=>False)(Yg:PG Y tg g)(Yt:PTs Y ifs tc)(Ye:PE Y elt te)(T:Turn Y.prog Y.w Y.K tg J fp it tn)(fpD:D∉fp)(fD:∀{H':Hp},H' D=none→FpOk Y P1 H' D)(f2:∀{H':Hp} {b:Nc},b∈fp→H' b=none→FpOk Y P1 H' b)(I0:Inv Y P1 τ0 H0 s0)(t0:tn 0 s0.heap)(n0:∀b∈D::fp,H0 b=none)(d0:s0.heap.get? D=some {cls:=.type "list",data:=.seq ik.toArray k0})(v0:Vals nH ik)(z0:nH.length≤sizeLine)(q:rIn2 g tc te Fin J nH τ0 H0){R:Nt}(hR:∀ys a8 k τ H' s',Inv Y P1 τ H' s'→H' D=none→s'.heap.get? D=some {cls:=.type "list",data:=.seq (a8:Nh).toArray k}→Vals ys a8→ys.length≤sizeLine→Fin ys τ H'→R (.ok .next) s') :
  codeAny (model Y.prog Y.w) Y.A (.compStart (.ListComp elt [⟨tg1,it1,[],0⟩,⟨tg,iter,ifs,0⟩] sc pos) 1 (.ref it) (.ref D) Y.env) R s0:=by
 obtain⟨W,⟨m0,w0⟩,turn⟩:=q
 have loop:codeAny (model Y.prog Y.w) Y.A (.compLoop (.ListComp elt [⟨tg1,it1,[],0⟩,⟨tg,iter,ifs,0⟩] sc pos) 1 (.ref it) (.ref D) Y.env) R s0:=by
  refine loop_in (λn s'=>Ex6 λi τ H' ys a8 k=>Aj7 (Inv Y P1 τ H' s') (tn i s'.heap) (∀b∈D::fp,H' b=none) (s'.heap.get? D=some {cls:=.type "list",data:=.seq (a8:Nh).toArray k}) (Vals ys a8) (ys.length≤sizeLine) (W i n ys τ H')) ?_ m0 ⟨0,τ0,H0,nH,ik,k0,I0,t0,n0,d0,v0,z0,w0⟩
  rintro n s5 ⟨i,τ,H5,ys,a8,k,I5,t5,n5,d5,v5,z5,w5⟩
  have oD:∀b∈[D],∃o,s5.heap.get? b=some o∧∀v,o.data≠.cell v:=λb hb=>by
   rw[Qb.mp hb]
   exact⟨_,d5,λv z=>by cases z⟩
  have dE:Inv Y (P1++zbb [D] s5.heap) τ H5 s5:=I5.pinned (λb hb=>by rw[Qb.mp hb];exact fD (n5 D Qe)) oD
  have pD:∀p∈zbb [D] s5.heap,p.1=D:=λp hp=>Qb.mp (zcx hp).1
  have fN:∀{H':Hp},(∀b∈fp,H' b=none)→∀b∈fp,FpOk Y (P1++zbb [D] s5.heap) H' b:=λhn b hb=>by
   obtain⟨f0,f1,f3,f4,f5,f6⟩:=f2 hb (hn b hb)
   refine⟨f0,f1,f3,f4,f5,λp hp=>?_⟩
   rw[←Qp]at hp
   rcases Qf.mp hp with z | z
   ·exact f6 p z
   ·rw[pD p z];exact λe=>fpD (e▸hb)
  rcases turn i n ys τ H5 w5 with⟨stop,qn⟩ | ⟨go,zl,step⟩
  ·refine thn (T.done Y rfl rfl rfl hc i _ s5 τ H5 (fun _ _=>False) dE (fN fun b hb=>n5 b (Qg _ hb)) t5 stop) fun r s6 ⟨hr,I6⟩=>?_
   subst hr
   have hp:=za2 (fp:=[D]) (Qb.mpr rfl) d5
   have z:=I6.pin (D,_) (Qj _ (Qj _ hp))
   exact hR ys a8 k τ H5 s6 I6.unpinned (n5 D Qe) z.1 v5 z5 qn
  ·refine thn (T.item Y rfl rfl rfl hc i _ s5 τ H5 (fun _ _=>False) dE (fN fun b hb=>n5 b (Qg _ hb)) t5 go) fun r s6 ⟨u,hr,h7⟩=>?_
   subst hr
   refine thn h7 λ_ s7 ⟨x,H7,I7,r7,y7,t7,n7⟩=>?_
   have jM:=I7.pinned (fN n7) (T.obj _ _ t7)
   have h8:=Yg _ s7 τ H7 x u _ jM r7 (step x H7 y7)
   rw[eX]at h8
   refine thn h8 λ_ s8 ⟨τ8,H8,I8,q8⟩=>?_
   have h9:=Yt _ s8 τ8 H8 _ I8 q8
   rw[eX]at h9
   refine thn h9 λok s9 ⟨H9,I9,q9⟩=>?_
   have again:∀{τ':St} {H':Hp} {s':Ng},Inv Y ((P1++zbb [D] s5.heap)++zbb fp s7.heap) τ' H' s'→s'.heap.get? D=some {cls:=.type "list",data:=.seq a8.toArray k}∧H' D=none∧tn (i+1) s'.heap∧∀b∈fp,H' b=none:=λ{τ' H' s'} I'=>by
    have pp:∀{b:Nc} {o:Obj},b∈fp→s7.heap.get? b=some o→s'.heap.get? b=some o∧H' b=none:=λ{b o} hb e =>
     let z:=I'.pin (b,o) (Qj _ (Qj _ (za2 hb e)))
     ⟨z.1,z.2.1⟩
    have hp:=za2 (fp:=[D]) (Qb.mpr rfl) d5
    have z:=I'.pin (D,_) (Qj _ (Qv _ (Qj _ hp)))
    refine⟨z.1,z.2.1,T.keep _ _ _ t7 λb hb o e=>(pp hb e).1,λb hb=>?_⟩
    obtain⟨o,e,_⟩:=T.obj _ _ t7 b hb
    exact(pp hb e).2
   have drop:∀{τ':St} {H':Hp} {s':Ng},Inv Y ((P1++zbb [D] s5.heap)++zbb fp s7.heap) τ' H' s'→Inv Y P1 τ' H' s':=λI'=>I'.unpinned.unpinned
   cases ok with
   |false =>
    rw[if_neg (by decide)]at q9 ⊢
    obtain⟨m',hm,w9⟩:=q9
    obtain⟨d9,H9D,t9,n9⟩:=again I9
    exact⟨m',hm,i+1,τ8,H9,ys,a8,k,drop I9,t9,λb hb=>(Qh.mp hb).elim (λe=>e▸H9D) (n9 b),d9,v5,z5,w9⟩
   | true =>
    rw[if_pos rfl]at q9 ⊢
    have dB:=Ye _ s9 τ8 H9 _ I9 q9
    rw[eX]at dB
    refine thn dB λy cJ ⟨yv,dF,fE,jO,m',hm,oW⟩=>?_
    obtain⟨jI,H10D,kJ,pC⟩:=again fE
    refine call_meets F.slot_list_append ⟨_,jI,rfl⟩ F.entry_list_append (F.args_list_append_2 _ _) (PySem.list_append D a8.toArray k y (by rw[Qn,←v5.length];assumption)) ⟨jI,?_⟩
    have q:=PySem.IsL.update jI (λa=>a.push y)
    have tm:(a8.toArray.push y)=(a8++[y]).toArray:=by simp
    rw[tm]at q
    have kk:∀b o,b≠D→cJ.heap.get? b=some o→(cJ.heap.update D (Obj.mapSeq λa=>a.push y)).get? b=some o:=λb o hb e=>(Uv cJ.heap (Obj.mapSeq λa=>a.push y) (Zn hb)).trans e
    obtain⟨g0,g1,g2',g3,g4,g5⟩:=fD H10D
    have kH:=(drop fE).turned (h':=cJ.heap.update D (Obj.mapSeq λa=>a.push y)) (t':=cJ.toks) (it:=D) kk H10D g1 g3 g4 g5
    exact⟨m',hm,i+1,τ8,dF,ys++[yv],a8++[y],_,kH,T.keep _ _ _ kJ λb hb o e=>kk b o (λz=>fpD (z▸hb)) e,λb hb=>(Qh.mp hb).elim (λe=>e▸H10D) (pC b),q,v5.append (.cons jO .nil),
     by rw[Qm,Ki];assumption,oW⟩
 exact start_in loop (T.self _ 0 _ _ _ t0 loop)
section
variable{X:Cx}{sc:Scope}{M:Nj}{ix:Nq}{a7:Nd}{σ:St}{H:Hp}{s:Ng}
def rLC2(g1:TG)(gD:TI)(g:TG)(tc:TT)(te:TE)(Q:VK)(J:It)(τ:St)(H1:Hp):Prop:=∃W:Nat→Nat→List V→St→Hp→Prop,(∃m,W 0 m [] τ H1)∧∀i m ys τ H,W i m ys τ H →
 (J.stop i H∧∀D,H D=none→Q (.ref D) (upd H D (.lst ys))) ∨
 (J.go i H∧∀x H',J.yld i H x H'→g1 x τ H' λ τ2 H2=>gD τ2 H2 λJ2 H3=>rIn2 g tc te (λoU τ' H'=>∃m',m'<m∧W (i+1) m' oU τ' H') J2 ys τ2 H3)
def tLC2(ix:Nq)(wi:TI)(g1:TG)(gD:TI)(g:TG)(tc:TT)(te:TE):TE:=λ σ H Q=>wi σ H λJ H1=>rLC2 g1 gD g tc te Q J (inner ix σ) H1
def lc2_block{tg elt iter cT bE:Expr}{ifs:No}{pos:Pos}{g1:TG}{gD:TI}{g:TG}{tc:TT}{te:TE}{fp:Nk}{it:Nc}{tn:Nat→Heap→Prop}{J:It}{Q:VK}{RR:Value→Addr→Result→Shared→Prop}{E:Nb}(B:Blk X sc M ix)(hc:X.calm=true)(ki:∀C ex s H,PG (zbx X sc M C a7 ex s H) tg g1)(aw:∀C ex s H,PI (zbx X sc M C a7 ex s H) cT bE gD)(cj:∀C x,foldedSetIterable bE (compEnvC sc (clOf sc X.env) C X.env) x=pure x)(hg:∀C ex s H,PG (zbx X sc M C a7 ex s H) cT g)(ht:∀C ex s H,PTs (zbx X sc M C a7 ex s H) ifs tc)(he:∀C ex s H,PE (zbx X sc M C a7 ex s H) elt te)(I:Inv X a7 σ H s)(T:Turn X.prog X.w X.K tg J fp it tn)(h0:tn 0 s.heap)(hf:∀b∈fp,FpOk X a7 H b)(q:rLC2 g1 gD g tc te Q J (inner ix σ) H)(jE:∀D C m ys H' s',Inv X a7 σ (upd H' D (.lst ys)) s'→Q (.ref D) (upd H' D (.lst ys))→s'.heap.Ns C m→upd H' D (.lst ys) C=none→s.heap.objs.size<C→RR (.ref D) C (.ok .next) s') :
  wpAny (model X.prog X.w) X.A (newList []) (λaf s₃=>wpAny (model X.prog X.w) X.A (newFunctionEnv sc X.env.globals (clOf sc X.env) [] X.env.qual none .none (some X.env)) (λcenv s₄ =>
   codeAny (model X.prog X.w) X.A (.compStart (.ListComp elt [⟨tg,iter,[],0⟩,⟨cT,bE,ifs,0⟩] sc pos) 0 (.ref it) af {cenv with scope:=relabel sc X.env}) (RR af cenv.locals) s₄) E s₃) E s:=by
 refine wpAny_newObj_type (wpAny_newFunctionEnv B.nocell (by intro y hy;simp at hy) (λh₁ hns₁ hsb₁=>?_) B.kind)
 dsimp only at hns₁ hsb₁ ⊢
 generalize hD:s.heap.objs.size=D at hns₁ hsb₁ ⊢
 generalize dQ:s.heap.push {cls:=.type "list",dict:=none,data:=.seq ([]:List Value).toArray}=g2 at hns₁ hsb₁ ⊢
 have hC:g2.objs.size=D+1:=by rw[←dQ,Uh,hD]
 have k2:∀b o,s.heap.get? b=some o→g2.get? b=some o:=λb o e=>by rw[←dQ];exact Qi _ e
 have I3:Inv X a7 σ H {s with heap:=g2}:=I.kept (t':=s.toks) k2
 have HD:H D=none:=I.hok.fresh (by rw[hD];exact Qd _)
 have fD:FpOk X a7 H D:=I.fpOk (by rw[hD];exact Qd _) HD
 have D2:g2.get? D=some {cls:=.type "list",dict:=none,data:=.seq ([]:List Value).toArray}:=by rw[←dQ,←hD];exact Za _ rfl
 have k1:∀b o,g2.get? b=some o→h₁.get? b=some o:=λb o e=>by
  have hb:b≠g2.objs.size:=Zk (Qw e)
  exact(hsb₁.2 b hb).trans (Qi _ e)
 have fpx:∀b∈D::fp,FpOk X a7 H b:=λb hb=>by
  rcases Qh.mp hb with e | e
  ·rw[e];exact fD
  ·exact hf b e
 have fplt:∀b∈D::fp,b<g2.objs.size:=λb hb=>by
  rcases Qh.mp hb with e | e
  ·rw[e,hC];exact Yv _
  ·obtain ⟨o,q,_⟩:=T.obj _ _ h0 b e
   exact Qw (k2 b o q)
 have fpD:D∉fp:=λhm=>by
  obtain⟨o,q,_⟩:=T.obj _ _ h0 D hm
  have:=Qw q
  rw[hD]at this
  exact Yr _ this
 generalize am:zbx X sc M g2.objs.size a7 (D::fp) {s with heap:=g2} H=Y
 have IY:Inv Y [] (inner ix σ) H {s with heap:=h₁,toks:=s.toks+([]:List (Str×Value)).length}:=by
  rw[←am]
  exact inv_blk B I3 fpx fplt rfl hns₁ k1 rfl rfl
 have Yg1:=am▸ki g2.objs.size (D::fp) {s with heap:=g2} H
 have Yi2:=am▸aw g2.objs.size (D::fp) {s with heap:=g2} H
 have Yg:=am▸hg g2.objs.size (D::fp) {s with heap:=g2} H
 have Yt:=am▸ht g2.objs.size (D::fp) {s with heap:=g2} H
 have Ye:=am▸he g2.objs.size (D::fp) {s with heap:=g2} H
 have eP:Y.prog=X.prog:=by rw[←am];rfl
 have eW:Y.w=X.w:=by rw[←am];rfl
 have eK:Y.K=X.K:=by rw[←am];rfl
 have eA:Y.A=X.A:=by rw[←am];rfl
 have eC:Y.calm=true:=by rw[←am];exact hc
 have eE:Y.env=compEnvC sc (clOf sc X.env) g2.objs.size X.env:=by rw[←am];rfl
 have eX:Y.xe=λ_ _=>False:=by rw[←am];rfl
 have eEx:Y.ex=D::fp:=by rw[←am];rfl
 have eFs:Y.fs=frs X.stack:=by rw[←am];rfl
 have ePn:Y.pn=X.pn++a7:=by rw[←am];rfl
 have eL:Y.env.locals=g2.objs.size:=by rw[eE];rfl
 have ny:Y.H₀=H:=by rw[←am];rfl
 have i5:Y.s₀={s with heap:=g2}:=by rw[←am];rfl
 have fY:∀{H':Hp} {pl:Nd} {b:Nc},b∈D::fp→H' b=none→(∀p∈pl,p.1≠b)→FpOk Y pl H' b:=λ{H' pl b} hb hn hp=>by
  obtain⟨f0,f1,f2,f3,f4,f5⟩:=fpx b hb
  refine⟨hn,?_,?_,.inl (by rw[eEx];exact hb),IY.ok.exf b (by rw[eEx];exact hb) |>.2,λp bY=>?_⟩
  ·rw[eL];exact Zk (fplt b hb)
  ·rw [eFs]
   intro z
   rcases Qh.mp (I3.stkSub b z) with q | q
   ·exact f1 q
   ·exact f2 q
  ·rw [ePn] at bY
   rcases Qf.mp bY with z | z
   ·exact f5 p z
   ·exact hp p z
 obtain⟨W,⟨m0,w0⟩,turn⟩:=q
 have loop:∀ sN:Shared,sN={ s with heap:=h₁,toks:=s.toks+([]:List (Str×Value)).length } →
   codeAny (model X.prog X.w) X.A (.compLoop (.ListComp elt [⟨tg,iter,[],0⟩,⟨cT,bE,ifs,0⟩] sc pos) 0 (.ref it) (.ref D) (compEnvC sc (clOf sc X.env) g2.objs.size X.env)) (RR (.ref D) g2.objs.size) sN:=by
  rintro sN rfl
  refine loop_out (cj _) (λn s'=>Ex6 λi τ H' ys a8 k=>Aj7 (Inv Y [] τ H' s') (tn i s'.heap) (∀b∈D::fp,H' b=none) (s'.heap.get? D=some {cls:=.type "list",data:=.seq (a8:Nh).toArray k}) (Vals ys a8) (ys.length≤sizeLine) (W i n ys τ H')) ?_ m0
   ⟨0,inner ix σ,H,[],[],0,IY,T.keep _ _ _ h0 λb _ o e=>k1 b o (k2 b o e),λb hb=>(fpx b hb).1,k1 _ _ D2,.nil,Zh _,w0⟩
  rintro n s5 ⟨i,τ,H5,ys,a8,k,I5,t5,n5,d5,v5,z5,w5⟩
  have oD:∀{s':Ng} {its':Nh} {k':Nat},s'.heap.get? D=some {cls:=.type "list",data:=.seq its'.toArray k'}→∀b∈[D],∃o,s'.heap.get? b=some o∧∀v,o.data≠.cell v:=λ{s' its' k'} e b hb=>by
   rw[Qb.mp hb]
   exact⟨_,e,λv z=>by cases z⟩
  have dE:Inv Y ([]++zbb [D] s5.heap) τ H5 s5:=I5.pinned (λb hb=>fY (by rw[Qb.mp hb];exact Qe) (n5 b (by rw[Qb.mp hb];exact Qe)) (by simp)) (oD d5)
  have pD:∀p∈zbb [D] s5.heap,p.1=D∧p.2={cls:=.type "list",data:=.seq a8.toArray k}:=λp hp=>by
   obtain⟨e1,e2⟩:=zcx hp
   have dC:p.1=D:=Qb.mp e1
   rw[dC,d5]at e2
   exact⟨dC,(Qs e2).symm⟩
  have fN:∀{H':Hp},(∀b∈fp,H' b=none)→∀b∈fp,FpOk Y ([]++zbb [D] s5.heap) H' b:=λhn b hb=>fY (Qg _ hb) (hn b hb) λp hp z=>by
   rw[Wq]at hp
   rw[(pD p hp).1]at z
   exact fpD (z▸hb)
  rcases turn i n ys τ H5 w5 with⟨stop,qn⟩ | ⟨go,step⟩
  ·have h6:=T.done Y eP eW eK eC i _ s5 τ H5 (fun _ _=>False) dE (fN fun b hb=>n5 b (Qg _ hb)) t5 stop
   rw[eA]at h6
   refine thn h6 λr s6 ⟨hr,I6⟩=>?_
   subst hr
   have d6:s6.heap.get? D=some {cls:=.type "list",data:=.seq a8.toArray k}:=by
    have hp:=za2 (fp:=[D]) (Qb.mpr rfl) d5
    exact(I6.pin (D,_) (Qj _ hp)).1
   have H5D:H5 D=none:=n5 D Qe
   obtain⟨mL,nL,_⟩:=I6.loc
   rw[eL]at nL
   have CD:g2.objs.size≠D:=by rw[hC];exact Xi _
   refine jE D _ mL ys H5 s6 ?_ (qn D H5D) nL ?_ (by rw[hC,hD];exact Yv _)
   ·have u6:=I6.base
    rw[eFs,eEx,ny,i5]at u6
    refine I3.call' (ch:=D::fp) (I6.os.trans (by rw[i5])) ⟨u6.keep,u6.slot,λb o e n hx=>?_,u6.there,λb xs e=>?_,λb o u e=>?_,λb ps e=>?_⟩ ?_ I6.bare λb hb=>?_
    ·rw[zad (λz=>hx (by rw[z];exact Qe))];exact u6.free b o e n hx
    ·rw[zad (zab e HD)];exact u6.tups b xs e
    ·rw[zad (zab e HD)];exact u6.frzs b o u e
    ·rw[zad (zab e HD)];exact u6.tbls b ps e
    ·have gF:=I6.hok
     rw[eP,eW]at gF
     intro b u e
     by_cases hb:b=D
     ·subst hb
      rw[zac]at e
      cases e
      exact⟨z5,a8,k,v5,d6⟩
     ·rw [zad hb] at e
      exact(gF b u e).stay (λc v _ q=>q) (λc q=>by rw[zad (zab q H5D)];exact q) λc xs q=>by rw[zad (zab q H5D)];exact q
    ·obtain ⟨f0,f1,f2,f3,f4,f5⟩:=fpx b hb
     exact⟨f3,f1,f4,f5⟩
   ·rw [zad CD]
    have:=I6.free
    rw[eL]at this
    exact this
  ·have h6:=T.item Y eP eW eK eC i _ s5 τ H5 (fun _ _=>False) dE (fN fun b hb=>n5 b (Qg _ hb)) t5 go
   rw[eA]at h6
   refine thn h6 λr s6 ⟨u,hr,h7⟩=>?_
   subst hr
   refine thn h7 λ_ s7 ⟨x,H7,I7,r7,y7,t7,n7⟩=>?_
   have jM:=I7.pinned (fN n7) (T.obj _ _ t7)
   have h8:=Yg1 _ s7 τ H7 x u _ jM r7 (step x H7 y7)
   rw[eP,eW,eA,eX,eE]at h8
   refine thn h8 λ_ s8 ⟨τ8,H8,I8,q8⟩=>?_
   have h9:=Yi2 _ s8 τ8 H8 _ I8 q8
   rw[eP,eW,eA,eX,eE]at h9
   refine thn h9 λxv s9 dB=>thn dB λjv cJ nj=>?_
   obtain⟨j,fp2,tn2,J2,dF,rfl,fE,T2,kJ,kE,pf⟩:=nj
   have pp:∀{b:Nc} {o:Obj} {H':Hp} {τ':St} {s':Ng},Inv Y ([]++zbb fp s7.heap) τ' H' s'→b∈fp→s7.heap.get? b=some o→s'.heap.get? b=some o∧H' b=none:=λ{b o H' τ' s'} I' hb e =>
    let z:=I'.pin (b,o) (Qj _ (Qj _ (za2 hb e)))
    ⟨z.1,z.2.1⟩
   have hpD:=za2 (fp:=[D]) (Qb.mpr rfl) d5
   have zD:=fE.pin (D,_) (Qj _ (Qv _ (Qj _ hpD)))
   have tT:Inv Y ([]++zbb fp s7.heap) τ8 dF cJ:=fE.pins_of λp hp=>fE.pin p (Qj _ (Qj _ (by rwa[Wq]at hp)))
   have nfp:∀p∈zbb fp s7.heap,p.1≠D:=λp hp z=>fpD (z▸(zcx hp).1)
   have keepT:∀{H':Hp} {τ':St} {s':Ng},Inv Y ([]++zbb fp s7.heap) τ' H' s'→tn (i+1) s'.heap∧∀b∈fp,H' b=none:=λ{H' τ' s'} I'=>by
    refine⟨T.keep _ _ _ t7 λb hb o e=>(pp I' hb e).1,λb hb=>?_⟩
    obtain⟨o,e,_⟩:=T.obj _ _ t7 b hb
    exact(pp I' hb e).2
   have res:=in_loop (Y:=Y) (D:=D) (P1:=[]++zbb fp s7.heap) (elt:=elt) (tg1:=tg) (it1:=iter) (iter:=bE) (sc:=sc) (pos:=pos) (R:=λr s₅=>(∃f,r=.ok f)∧∃m,m<n∧Ex6 λi τ H' ys a8 k=>Aj7 (Inv Y [] τ H' s₅) (tn i s₅.heap) (∀b∈D::fp,H' b=none) (s₅.heap.get? D=some {cls:=.type "list",data:=.seq (a8:Nh).toArray k}) (Vals ys a8) (ys.length≤sizeLine) (W i m ys τ H'))
    eC eX Yg Yt Ye T2 (λhm=>?_) (λ{H'} hn=>fY Qe hn λp hp=>nfp p (by rwa[Wq]at hp)) (λ{H' b} hb hn=>?_) tT kJ (λb hb=>?_) zD.1 v5 z5 pf λoU its' k' τ' H' s' I' HD' d' v' z' fin=>?_
   ·rw [eP,eW,eA,eE] at res
    exact res
   ·have:=(kE D hm).2.2.2.2.2 (D,_) (Qj _ (Qv _ (Qj _ hpD)))
    exact this rfl
   ·obtain ⟨f0,f1,f3,f4,f5,f6⟩:=kE b hb
    exact⟨hn,f1,f3,f4,f5,λp hp=>f6 p ((Qf.mp hp).elim (λz=>Qv _ z) λz=>Qj _ (Qj _ (by rwa[Wq]at z)))⟩
   ·rcases Qh.mp hb with z | z
    ·rw[z];exact zD.2.1
    ·exact(kE b z).1
   ·obtain ⟨m',hm,w'⟩:=fin
    obtain⟨kt,kn⟩:=keepT I'
    exact⟨⟨_,rfl⟩,m',hm,i+1,τ',H',oU,its',k',I'.pins_of (by simp),kt,λb hb=>(Qh.mp hb).elim (λe=>e▸HD') (kn b),d',v',z',w'⟩
 exact codeAny_compStart_list (loop _ rfl) (T.self _ 0 _ _ _ (T.keep _ _ _ h0 λb _ o e=>k1 b o (k2 b o e)) (loop _ rfl))
def pe_lc2(B:Blk X sc M ix)(hc:X.calm=true)(hi:PI X tg iter wi)(ki:∀C a7 ex s H,PG (zbx X sc M C a7 ex s H) tg g1)(aw:∀C a7 ex s H,PI (zbx X sc M C a7 ex s H) cT bE gD)(hg:∀C a7 ex s H,PG (zbx X sc M C a7 ex s H) cT g)(ht:∀C a7 ex s H,PTs (zbx X sc M C a7 ex s H) ifs tc)(he:∀C a7 ex s H,PE (zbx X sc M C a7 ex s H) elt te)(hs:∀x,foldedSetIterable iter X.env x=pure x:=by intro _;rfl)(cj:∀C x,foldedSetIterable bE (compEnvC sc (clOf sc X.env) C X.env) x=pure x:=by intro _ _;rfl):PE X (.ListComp elt [⟨tg,iter,[],0⟩,⟨cT,bE,ifs,0⟩] sc pos) (tLC2 ix wi g1 gD g tc te):=by
 intro a7 s σ H Q I h
 rw[eval_ListComp]
 refine wpAny_comprehension_free (use:=none) rfl hs (zb2 (B.clos I)) B.kind B.names (thn (hi a7 s σ H _ I h) λv s1 h1=>thn h1 λitv s2 h2=>?_)
 obtain⟨it,fp,tn,J,H2,e,I2,T,aq,f2,q⟩:=h2
 subst e
 refine lc2_block (RR:=λaf C=>compPost (model X.prog X.w) X.A X.xe none (EP X a7 σ Q) af C) B hc (ki · a7) (aw · a7) cj (hg · a7) (ht · a7) (he · a7) I2 T aq f2 q ?_
 intro D C m ys H' s' I' q' hn hC ae
 refine⟨m,hn,λh' c8=>⟨.ref D,_,I'.letgo hn hC I2.lt I2.cl_lt I2.pin_lt I2.sz ae c8,rfl,q'⟩⟩
end
end L2
end
section
namespace RawD
open PySem PyProof.Rows PySem.W
def At(h:Nm)(a:Nc)(es:Array DictEntry)(ep:Nat):Prop:=∃o,h.get? a=some o∧o.ExactDict∧o.data=.dict es ep
def At.typeIs{s:Ng}{a:Nc}{es:Array DictEntry}{ep:Nat}(x:At s.heap a es ep):s.TypeIs (.ref a) "dict" := let⟨o,e,c,_⟩:=x;⟨o,e,c.1⟩
def At.keep{h g:Nm}{a:Nc}{es:Array DictEntry}{ep:Nat}(x:At h a es ep)(k:∀o,h.get? a=some o→g.get? a=some o):At g a es ep:=let⟨o,e,r⟩:=x;⟨o,k _ e,r⟩
section
variable{prog:Ni}{w:Nl}{A:Nn}{E:Nb}{s:Ng}{d:Nc}{es:Array DictEntry}{ep:Nat}
def iter{Q:Nb}(nS:(d==sysModules)=false)(m:At s.heap d es ep)(q:Q (.ref s.heap.objs.size) {s with heap:=s.heap.push {cls:=.type "dict_keyiterator",data:=.fields #[.ref d,.int 0 0,.int es.size 0,.int ep 0]}}):wpAny (model prog w) A (pyIter (.ref d)) Q E s:=by
 obtain⟨o,ho,hc,hd⟩:=id m
 refine wpAny_pyIter_slot m.typeIs F.slot_dict_iter (wpAny_call_entry F.slot_dict_iter m.typeIs F.entry_dict_iter ?_ (F.args_dict_iter_1 _))
 unfold Builtin.«dict.__iter__»
 refine wpAny_bind ?_
 unfold Builtin.Dict.dictSlotNone
 refine wpAny_bind (wpAny_notOrdered_dict m.typeIs (show wpAny _ _ (pure (Value.ref d)) _ _ s from wpAny_pure ?_))
 show wpAny _ _ (Builtin.Dict.showsAll d >>= _) _ _ s
 unfold Builtin.Dict.showsAll
 rw[if_neg (by rw[nS];exact Zb)]
 refine wpAny_bind (wpAny_pure (wpAny_bind (wpAny_dictEntries ho hd (wpAny_bind (wpAny_dictEpoch ho hd ?_)))))
 refine wpAny_bind (wpAny_newObj_type (wpAny_pure ⟨_,rfl, "dict_keyiterator",_,⟨_,Za _ rfl,rfl⟩,Uo.lookup,?_⟩))
 simpa[rawInt] using q
def item{j:Nc}{i:Nat}{Q:Option Value→Shared→Prop}(st:s.heap.IsKeyIter j d i es.size ep)(m:At s.heap d es ep)(hi:i<es.size)(hQ:∀g,g.IsKeyIter j d (i+1) es.size ep→Heap.SameBut j s.heap g→Q (some es[i].key) {s with heap:=g}):wpAny (model prog w) A (pyNext (.ref j)) Q E s:=by
 obtain⟨o,ho,hc,hd⟩:=id st
 obtain⟨od,lI,aO,jt⟩:=id m
 unfold pyNext
 refine wpAny_bind (wpAny_attempt (wpAny_callSpecial?_slot (name:=Str.ofString "__next__") st.typeIs Uo (wpAny_call_entry Uo st.typeIs F.entry_dict_keyiterator_next ?_ (F.args_dict_keyiterator_next_1 _))))
 refine wpAny_bind (wpAny_pure (wpAny_bind (wpAny_bind ?_)))
 first | refine wpAny_bind (wpAny_typeNameOfWhole_keyiter st.typeIs (wpAny_pure ?_)) | refine wpAny_bind (wpAny_typeNameOf_keyiter st.typeIs (wpAny_pure ?_))
 refine wpAny_bind (wpAny_fieldsOf ho hd ?_)
 have iO:Builtin.Dict_items.ownsTuple "dict_keyiterator" = false:=by decide
 simp only[iO,Wj,if_false]
 show wpAny _ _ (if(Value.ref d==.none)=true then _ else _) _ _ s
 rw[if_neg (show ¬((Value.ref d==.none)=true) from Zb)]
 refine wpAny_bind (wpAny_pure (wpAny_bind (wpAny_dictEntries lI jt ?_)))
 rw[if_neg (by simp)]
 refine wpAny_bind (wpAny_pure (wpAny_bind (wpAny_dictEpoch lI jt ?_)))
 rw[if_neg (by simp)]
 refine wpAny_pure ?_
 simp only[show ¬((i:Int)<0) from by lia,if_false,Jm,Kx hi]
 refine wpAny_bind ?_
 first | refine wpAny_bind (wpAny_typeNameOfWhole_keyiter st.typeIs (wpAny_pure ?_)) | refine wpAny_bind (wpAny_typeNameOf_keyiter st.typeIs (wpAny_pure ?_))
 refine wpAny_bind (wpAny_isOneOf_keyiter st.typeIs ?_)
 show wpAny _ _ (setField (.ref j) 1 (rawInt ((i:Int)+1)) >>= _) _ _ s
 refine wpAny_bind (wpAny_setField ho hd (by simp) ?_)
 have a9:(s.heap.update j (Obj.mapFields (·.setIfInBounds 1 (rawInt ((i:Int)+1))))).IsKeyIter j d (i+1) es.size ep :=
  ⟨_,Heap.get?_update_self _ ho (Obj.isFreed_of_fields (Xh hd _)),(Obj.cls_mapFields ..).trans hc,by rw[Xh hd];simp[rawInt]⟩
 refine wpAny_bind (wpAny_holding (wpAny_bind (wpAny_isOneOf_keyiter (s:={s with heap:=s.heap.update j (Obj.mapFields (·.setIfInBounds 1 (rawInt ((i:Int)+1))))}) a9.typeIs ?_)))
 show wpAny _ _ (pure es[i].key) _ _ _
 exact wpAny_pure (wpAny_pure ⟨_,rfl,wpAny_pure (hQ _ a9 (Xc ..))⟩)
def done{j:Nc}{i:Nat}{Q:Option Value→Shared→Prop}(hh:A.handled=none)(st:s.heap.IsKeyIter j d i es.size ep)(m:At s.heap d es ep)(hi:es.size≤i)(hQ:∀g,Heap.ExtBut j s.heap g→Q none {s with heap:=g}):wpAny (model prog w) A (pyNext (.ref j)) Q E s:=by
 obtain⟨o,ho,hc,hd⟩:=id st
 obtain⟨od,lI,aO,jt⟩:=id m
 unfold pyNext
 refine wpAny_bind (wpAny_attempt (wpAny_callSpecial?_slot (name:=Str.ofString "__next__") st.typeIs Uo (wpAny_call_entry Uo st.typeIs F.entry_dict_keyiterator_next ?_ (F.args_dict_keyiterator_next_1 _))))
 refine wpAny_bind (wpAny_pure (wpAny_bind (wpAny_bind ?_)))
 first | refine wpAny_bind (wpAny_typeNameOfWhole_keyiter st.typeIs (wpAny_pure ?_)) | refine wpAny_bind (wpAny_typeNameOf_keyiter st.typeIs (wpAny_pure ?_))
 refine wpAny_bind (wpAny_fieldsOf ho hd ?_)
 have iO:Builtin.Dict_items.ownsTuple "dict_keyiterator" = false:=by decide
 simp only[iO,Wj,if_false]
 show wpAny _ _ (if(Value.ref d==.none)=true then _ else _) _ _ s
 rw[if_neg (show ¬((Value.ref d==.none)=true) from Zb)]
 refine wpAny_bind (wpAny_pure (wpAny_bind (wpAny_dictEntries lI jt ?_)))
 rw[if_neg (by simp)]
 refine wpAny_bind (wpAny_pure (wpAny_bind (wpAny_dictEpoch lI jt ?_)))
 rw[if_neg (by simp)]
 refine wpAny_pure ?_
 simp only[show ¬((i:Int)<0) from by lia,if_false,Jm,Array.getElem?_eq_none hi]
 refine wpAny_bind ?_
 first | refine wpAny_bind (wpAny_typeNameOfWhole_keyiter st.typeIs (wpAny_pure ?_)) | refine wpAny_bind (wpAny_typeNameOf_keyiter st.typeIs (wpAny_pure ?_))
 show wpAny _ _ (setField (.ref j) 0 .none >>= _) _ _ s
 refine wpAny_bind (wpAny_setField ho hd (by simp) ?_)
 show wpAny _ _ (newExc (.type "StopIteration") [] >>= _) _ _ _
 refine wpAny_bind ?_
 simp only[newExc,newTuple]
 refine wpAny_bind (wpAny_newObj_type (wpAny_bind (m:=firstArgMember _ _) (wpAny_of_eq (a:=Value.none) (by first | rfl | (simp only[firstArgMember];rfl)) (wpAny_newObj_type ?_ (by size_fits)))) (by size_fits))
 simp only[raiseNew]
 refine wpAny_bind (wpAny_handled ?_)
 first | rw[show A.in1.handled=none from hh] | rw[hh]
 refine wpAny_bind (wpAny_pure (wpAny_throw ?_))
 refine wpAny_bind (wpAny_isInstance (T := "StopIteration") (b:=true) ⟨_,Za _ rfl,rfl⟩ isSubtype_stop ?_)
 exact wpAny_pure (hQ _ (((Xc ..).extBut.push _).push _))
theorem src(nS:(d==sysModules)=false):KdlSrc prog w "dict" d d es.size (λi v=>∃e,es[i]?=some e∧v=e.key) (λh=>At h d es ep) where
 type:=λ_ m=>m.typeIs
 there:=λ_ m=>let⟨_,e,_⟩:=m;⟨Qw e,Qw e⟩
 keep:=λ_ _ m k=>m.keep λo e=>k d (.inl rfl) o e
 notList:=by decide
 notTuple:=by decide
 hint:=λ_ _ _ _ m q=>kdl_hint_dict m.typeIs q
 iter:=λA s hh m=>by
  have lt:d<s.heap.objs.size:=let⟨_,e,_⟩:=m;Qw e
  refine⟨_,λi h=>h.IsKeyIter s.heap.objs.size d i es.size ep∧At h d es ep,λ_ _ q=>iter nS m q,?_,⟨_,Za _ rfl,rfl,rfl⟩,m.keep λo e=>Qi _ e⟩
  exact
   {sub:=fun b hb=>by simp at hb;simp [hb]
    frame:=λi h g st k=>⟨st.1.at λo e=>k _ (by simp) o e,st.2.keep λo e=>k d (by simp) o e⟩
    item:=λi s' Q E hi st hQ=>item st.1 st.2 hi λg a b=>hQ _ g s'.toks ⟨_,Kx hi,rfl⟩ ⟨a,st.2.keep λo e=>(b.2 d (Zk lt)).trans e⟩ λc o hc e=>(b.2 c (λz=>hc (by simp[z]))).trans e
    done:=λs' Q E st hQ=>done hh st.1 st.2 (Qd _) λg a=>hQ g s'.toks λc o hc e=>a c o (λz=>hc (by simp[z])) e
    self:=λ_ _ _ _ st q=>wpAny_pyIter_keyiter st.1 q}
end
end RawD
namespace L2
open PySem PySem.Spec PyProof.Rows Tm
def kP(q:Str×Str):List Key:=[Sum.inr q.1,Sum.inr q.2]
abbrev zar(H:Hp):List Addr→List (Str×Str)→Prop:=Paired λb r=>H b=some (.tup [.str r.1,.str r.2])
section
variable{X:Cx}
def zc8{α β:Type}{R:α→β→Prop}{as bv:List α}(p:bv.Perm as):∀{bs:List β},Paired R as bs→∃fV,fV.Perm bs∧Paired R bv fV:=by
 induction p with
 |nil=>intro bs r;cases r;exact⟨[],.nil,.nil⟩
 | cons x q ih =>
  intro bs r
  cases r with
  |cons r1 r2 =>
   obtain⟨zs,h1,h2⟩:=ih r2
   exact⟨_::zs,h1.cons _,.cons r1 h2⟩
 | swap x y l =>
  intro bs r
  cases r with
  |cons r1 r2 =>
   cases r2 with
   |cons r3 r4=>exact⟨_,List.Perm.swap ..,.cons r3 (.cons r1 r4)⟩
 |trans _ _ ih1 ih2 =>
  intro bs r
  obtain⟨zs,h1,h2⟩:=ih2 r
  obtain⟨cH,h3,h4⟩:=ih1 h2
  exact⟨cH,h3.trans h1,h4⟩
def pairs_mem{H:Hp}{as:Nk}{qs:Np}(r:zar H as qs){a:Nc}(ha:a∈as):∃r:Str×Str,H a=some (.tup [.str r.1,.str r.2]):=by
 induction r with
 |nil=>cases ha
 |cons h t ih =>
  rcases Qh.mp ha with zz | zz
  ·subst zz;exact⟨_,h⟩
  ·exact ih zz
def zg5(hc:X.calm=true):zb3 X (.builtin "sorted") (fun xs H Q=>Ex3 fun (d:Nc) (kvs:List (List Key×V)) (qs:Np)=>Aj4 (xs=[.ref d]) (H d=some (.dT kvs)) (kvs.map (·.1)=qs.map kP) (∀ (l:Nc) (as:Nk) (ws:Np),H l=none→ws.Perm qs→zar H as ws→Q (.ref l) (upd H l (.lst (as.map V.ref))))):=by
 intro a7 s σ H xs us Q I r h
 obtain⟨d,kvs,qs,rfl,hq,ek,q⟩:=h
 obtain⟨u,rfl,rx⟩:=vals1 r
 cases rx
 obtain⟨z,lo,ts,rk,o,es,ep,e1,e2,e3,e4,e5⟩:=(show zbo X.prog X.w H s.heap d (.dT kvs) from I.hok d _ hq)
 have jK:RawD.At s.heap d es ep:=⟨o,e1,e2,e3⟩
 have ad:kvs.length=ts.length:=Zt rk
 have bQ:es.size=ts.length:=by rw[←Yi,e4,Qa]
 have gP:zar H (ts.map λt=>t.2.1) qs:=by
  clear e4 e5 bQ ad jK z q hq
  induction rk generalizing qs with
  |nil =>
   cases qs with
   |nil=>exact .nil
   |cons a b=>cases ek
  | @cons p t ps ts' h1 t1 ih =>
   cases qs with
   |nil=>cases ek
   |cons a b =>
    rw[Qk,Qk]at ek
    injection ek with k1 k2
    refine .cons ?_ (ih _ k2)
    have:=h1.2.1
    rw[k1]at this
    exact this
 have lh:∀af:Array Value,ItemsOf (λi v=>∃e,es[i]?=some e∧v=e.key) af es.size→af.toList=(ts.map λt=>t.2.1).map Value.ref:=λaf hi=>by
  apply Xa
  intro i
  rw[Qr,Qr]
  by_cases ae:i<es.size
  ·have cO:i < af.size:=by rw [hi.1];exact ae
   have a1:af[i]?=some af[i]:=Kx cO
   obtain⟨e,h1,h2⟩:=hi.2 i _ a1
   rw[Uu,a1,h2]
   have h3:es.toList[i]?=some e:=by rw[Uu];exact h1
   rw[e4,Qr]at h3
   cases ht:ts[i]? with
   |none=>rw[ht]at h3;cases h3
   |some t =>
    rw[ht]at h3
    have h4:entryOfKey (tupleKind (zaq X.prog X.w)) t=e:=Qs h3
    rw[←h4];rfl
  ·have a1:af.toList[i]?=none:=by rw [Uu];exact Array.getElem?_eq_none (by rw [hi.1];lia)
   have a2:ts[i]?=none:=Ut (by lia)
   rw[a1,a2];rfl
 have hvr:∀as:List Addr,Vals (as.map V.ref) (as.map Value.ref):=λas=>by
  induction as with
  |nil=>exact .nil
  |cons a r ih=>exact .cons rfl ih
 refine zez (R:=λa8 ws=>a8.length<64→ws.Pairwise λx y=>(pairO strO strO).kle (kvP s.heap x) (kvP s.heap y)) (G:=λa8=>a8=(ts.map λt=>t.2.1).map Value.ref) (λE' R hR=>zgv (RawD.src lo) (show X.A.in1.handled=none from I.ok.hd hc) jK (by lia) λg tk af k le hi=>hR g tk _ k le (lh af hi))
  (λa8 e=>by rw[e,Qa,Qa];exact zd3 ‹_› ‹_›) (λa8 e A' E' s' _ k=>?_) λa8 ws l g tk e r p1 p2 le k he=>?_
 ·have all:∀ v∈a8,∃ x y t,zdz s.heap v x (.str y t):=fun v hv=>by
   rw[e]at hv
   obtain⟨a,ha,rfl⟩:=Ql.mp hv
   obtain⟨rr,lw⟩:∃r:Str×Str,H a=some (.tup [.str r.1,.str r.2]):=pairs_mem gP ha
   obtain⟨q',⟨t,rfl⟩,T⟩:=zed I lw
   exact⟨_,_,t,T⟩
  refine zee k (λv hv=>let⟨x,y,t,T⟩:=all v hv;⟨x,_,T⟩) λv hv u hu x p q T T'=>.inr ?_
  obtain⟨_,y,t,T1⟩:=all v hv
  obtain⟨_,y',t',T2⟩:=all u hu
  exact⟨y,t,y',t',(zdq T T1).2,(zdq T' T2).2⟩
 ·subst r
  obtain⟨as,rfl,p3⟩:∃as:List Addr,ws=as.map Value.ref∧as.Perm (ts.map λt=>t.2.1):=by
   have key:∀{ws:Nh} {bs:Nk},ws.Perm (bs.map Value.ref)→∃as:List Addr,ws=as.map Value.ref∧as.Perm bs:=λ{ws bs} pm=>by
    have a2:∃as:List Addr,ws=as.map Value.ref:=by
     have a1:∀v∈ws,∃a,v=Value.ref a:=λv hv=>by
      obtain⟨a,_,e⟩:=Ql.mp (pm.mem_iff.mp hv)
      exact⟨a,e.symm⟩
     clear pm
     induction ws with
     |nil=>exact⟨[],rfl⟩
     |cons v r ih =>
      obtain⟨as,e⟩:=ih λv hv=>a1 v (Qg _ hv)
      obtain⟨x,e2⟩:=a1 v Qe
      exact⟨x::as,by rw[e,e2];rfl⟩
    obtain⟨as,rfl⟩:=a2
    refine⟨as,rfl,?_⟩
    have:=pm.map (λv=>match v with | .ref a=>a | _=>0)
    rw[Zp,Zp]at this
    simpa[Function.comp_def] using this
   exact key p1
  obtain⟨qs',q1,q2⟩:=zc8 p3 gP
  refine⟨.ref l,_,I.laid (t':=tk) k le (show zbo X.prog X.w _ g _ (.lst _) from⟨?_,as.map Value.ref,e,hvr as,he⟩),rfl,q l as qs' (I.hok.fresh le) q1 q2⟩
  rw[Qa,p3.length_eq,Qa];exact zd3 ‹_› ‹_›
end
end L2
end
section
set_option Elab.async false
set_option linter.all false
namespace L2
open PySem PySem.Spec PyProof.Rows
def fsk{N P:Nj}{sc:Scope}(a:sc.kind=.function:=by rfl)(b:sc.isCoroutine=false:=by rfl)(c:sc.isGenerator=false:=by rfl)(d:N.Nodup:=by decide +kernel)(e:N.take P.length=P:=by rfl)(f:∀x∈P,sc.names.lookup x=some .local∨sc.names.lookup x=some .cell:=by decide +kernel)(g:∀y∈sc.names,y.2≠.free:=by decide +kernel):zap N P sc:=⟨a,b,c,d,e,f,g⟩
section
variable{X:Cx}
def zau(i:Nat){x:Str}{e:Expr}{te:TE}{pos bi:Pos}(hN:X.N.Nodup)(he:PE X e te)(hi:X.N[i]?=some x:=by rfl)(hx:Loc X.env.scope x:=by exact Or.inl rfl)(hs:swapsWith e (some (.Name x bi)) pos.line X.env=pure false:=by rfl)(hf:X.fn x=true∨X.env.scope.names.lookup x=some .local:=by first | exact .inl rfl | exact .inr rfl | assumption) :
  PS X (.Assign [.Name x bi] e pos) (tAsg te (gName i)):=ps_set hN hi hx he hs hf
def zbf(i:Nat){x:Str}{pos:Pos}(hN:X.N.Nodup)(hi:X.N[i]?=some x:=by rfl)(hx:Loc X.env.scope x:=by exact Or.inl rfl)(hf:X.fn x=true∨X.env.scope.names.lookup x=some .local:=by first | exact .inl rfl | exact .inr rfl | assumption):PG X (.Name x pos) (gName i):=zf5 hN hi hx hf
def zh8{o i:Expr}{td ty:TE}{pos:Pos}(hu:X.A.units+1<cLine)(ho:PE X o td)(hi:PE X i ty)(hs:NoSl i:=by exact λ_ _=>rfl):PE X (.Subscript o i pos) (tDGet td ty):=pe_dget hu ho hi hs
end
end L2
namespace L2
open PySem PySem.Spec PyProof.Rows
def Fun.okL{P:Ni}{w:Nl}{K:Na}{mg:Nf}{base:Nm}{x qual:Str}{st:Stmt}{f:Nc}{fd:Nr}{N ps:Nj}{k:Nat}{sp:Sp}(F:Fun K x qual st f fd)(S:zap N ps (zag st))(bo:∀ (cdv:Value) (A:Nn) (outer:List Env) (s:Ng) (H:Hp) (vs:List V) (Q:VK) (E:XK),Room k (A.deeper (envOfC qual (zag st) s.heap.objs.size f cdv))→sp vs H Q E →
   ∃t,PSs (cxOf CX0 P w K mg base N qual (zag st) f cdv A outer s H E).nox (zb7 st) t∧t {nx:=λ_ H'=>Q .non H',rt:=Q} (start N vs) H)(len:∀vs H Q E,sp vs H Q E→vs.length=ps.length:=by intro _ _ _ _ h;cases h;subst_vars;rfl):FnOk P w K mg base CX0 (k+1) f fd ps sp:=F.ok S len bo
end L2
end
section
namespace K21
open PySem L2
abbrev qR:Str := "_law_rounds_here"
abbrev qP:Str := "_law_pot_here"
abbrev qM:Str := "_law_many"
abbrev qO:Str := "_law_other"
abbrev qS:Str := "_law_script"
abbrev qN:Str := "_law_names_here"
def top(i:Nat):Stmt:=PySem.Challenge.pw_fivehues_k11_rounds_told.main.body.getD i (.Pass ⟨0,0,0,0⟩)
def eOf:Stmt→Expr
 |.Assign _ e _=>e
 |.Return (some e) _=>e
 |.For _ e _ _ _=>e
 |.While e _ _ _=>e
 |_=>.Name "" ⟨0,0,0,0⟩
def bOf:Stmt→List Stmt
 |.For _ _ b _ _=>b
 |.If _ b _ _=>b
 |_=>[]
def aOf(i:Nat):Expr→Expr
 |.Call _ a _ _=>a.getD i (.Name "" ⟨0,0,0,0⟩)
 |.BinOp l _ r _=>[l,r].getD i l
 |.BoolOp _ a _=>a.getD i (.Name "" ⟨0,0,0,0⟩)
 |.Compare _ _ a _=>a.getD i (.Name "" ⟨0,0,0,0⟩)
 |e=>e
def scOf:Expr→Scope
 |.ListComp _ _ sc _=>sc
 |.DictComp _ _ _ sc _=>sc
 |_=>{kind:=.function,names:=[],isGenerator:=false,isCoroutine:=false}
abbrev sAt(s:Stmt)(i:Nat):Stmt:=(zb7 s).getD i (.Pass ⟨0,0,0,0⟩)
abbrev bAt(s:Stmt)(i:Nat):Stmt:=(bOf s).getD i (.Pass ⟨0,0,0,0⟩)
def Pot(H:Hp)(p:Nc)(b m:Int):Prop:=H p=some (.lst [.int b,.int m])∧0≤b∧0≤m∧m<2147483648
inductive IspTake(vs:List V)(H:Hp)(Q:VK):Prop
 |mk (p:Nc) (b m n:Int) (h0:vs=[.ref p,.int n]) (h1:Pot H p b m) (h2:0<n) (h3:n<1073741824) (h4:∀(d b' m':Int) (H':Hp),0≤d→d<n→Pot H' p b' m'→(∀c o,H c=some o→c≠p→H' c=some o)→Q (.int d) H'):IspTake vs H Q
def zfx:Sp:=λvs H Q _=>IspTake vs H Q
section
variable{P:Ni}{w:Nl}{K:Na}{mg:Nf}{base:Nm}
end
end K21
end
section
namespace Wb
section
variable{α:Type}[DecidableEq α]
def nxt(zs:List α)(x:α):α:=zs.getD ((zs.idxOf x+1)%zs.length) x
def ins(zs:List α):Option α→α→List α
 |none,n=>n::zs
 |some c,n=>zs.take (zs.idxOf c+1)++n::zs.drop (zs.idxOf c+1)
abbrev Rs(α:Type):=List (α×List α)
def row(rs:Rs α)(x:α):List α:=((rs.find? λp=>decide (p.1=x)).map (·.2)).getD []
def zbh(rs:Rs α)(x:α)(r:List α):Rs α:=rs.map λp=>if p.1=x then(p.1,r) else p
def stp(rs:Rs α)(s:α×α):α×α:=(s.2,nxt (row rs s.2) s.1)
end
end Wb
namespace K21
open PySem L2 Wb
def Keep(xs:Nk)(H H':Hp):Prop:=∀c o,H c=some o→c∉xs→H' c=some o
def Keep.refl:Keep xs H H:=λ_ _ e _=>e
def Keep.trans(a:Keep xs H H1)(b:Keep xs H1 H2):Keep xs H H2:=λc o e n=>b c o (a c o e n) n
def Keep.sub(a:Keep xs H H1)(h:∀x∈xs,x∈ys):Keep ys H H1:=λc o e n=>a c o e λz=>n (h c z)
def Keep.new(h:H l=none):Keep xs H (upd H l o):=λc u e _=>by rw[zad (zab e h)];exact e
def Keep.wr(h:l∈xs):Keep xs H (upd H l o):=λc u e n=>by rw[zad (λz=>n (by rw[z];exact h))];exact e
abbrev Ent:=Str×List Str×Addr
abbrev eV(es:List Ent):List (Key×V):=es.map λe=>((Sum.inr e.1:Key),V.ref e.2.2)
def rsOf(es:List Ent):Rs Str:=es.map λe=>(e.1,e.2.1)
def zeb{es:List Ent}(nd:(es.map (·.1)).Nodup){e:Ent}(h:e∈es):valV (es.map fun e=>((Sum.inr e.1:Key),V.ref e.2.2)) (Sum.inr e.1)=some (.ref e.2.2):=by
 induction es with
 |nil=>cases h
 | cons a t ih =>
  rw[Qk,Qz]at nd
  rw[Qk]
  rcases Qh.mp h with z | z
  ·subst z;exact zc4 rfl
  ·rw [zby]
   ·exact ih nd.2 z
   ·intro q
    exact nd.1 (by rw[Ka q];exact Ql.mpr ⟨e,z,rfl⟩)
def zhs{es:List Ent}{x:Str}(h:x∉es.map (·.1)):valV (eV es) (Sum.inr x)=none:=by
 unfold eV
 induction es with
 |nil=>rfl
 |cons a t ih =>
  rw[Qk,Qh,not_or]at h
  rw[Qk,zby]
  ·exact ih h.2
  ·intro q;exact h.1 (Ka q).symm
def zbp(nd:(es.map (·.1)).Nodup)(h:e∈es):row (rsOf es) e.1=e.2.1:=by
 unfold row rsOf
 induction es with
 |nil=>cases h
 | cons a t ih =>
  rw[Qk,Qz]at nd
  rw[Qk]
  rcases Qh.mp h with z | z
  ·subst z;rw[Ui (by simp)];rfl
  ·rw [Uj]
   ·exact ih nd.2 z
   ·intro q
    exact nd.1 (by rw[of_decide_eq_true q];exact Ql.mpr ⟨e,z,rfl⟩)
def put_new{es:List Ent}{x:Str}{r:Nj}{a:Nc}(h:x∉es.map (·.1)):putK (eV es) (Sum.inr x) (.ref a)=(es++[(x,r,a)]).map λe=>((Sum.inr e.1:Key),V.ref e.2.2):=by
 rw[zfq _ (zhs h),Qt]
 rfl
def zhl{xs:List V}{k:Nat}(h:k≤xs.length):cutV xs none (some (k:Int))=xs.take k:=by
 unfold cutV
 have e1:HT.sIx xs.length 0 none=0:=rfl
 have e2:HT.sIx xs.length xs.length (some (k:Int))=k:=by rw[HT.sIx_nat];omega
 rw[e1,e2];simp
def zdy{xs:List V}{k:Nat}(h:k≤xs.length):cutV xs (some (k:Int)) none=xs.drop k:=by
 unfold cutV
 have e1:HT.sIx xs.length 0 (some (k:Int))=k:=by rw[HT.sIx_nat];omega
 have e2:HT.sIx xs.length xs.length none=xs.length:=rfl
 rw[e1,e2,Qu (by rw[Yj];exact Qd _)]
def zgs{zs:Nj}{x:Str}(h:x∈zs):zs.idxOf x<zs.length:=Ja.mpr h
def index_of{zs:Nj}{x:Str}(h:x∈zs):(∃ z,(zs.map V.str)[zs.idxOf x]?=some z∧eqV z (.str x)=true)∧∀ m z,m < zs.idxOf x→(zs.map V.str)[m]?=some z→eqV z (.str x)=false:=by
 refine⟨⟨.str x,?_,beq_self_eq_true x⟩,λm z hm e=>?_⟩
 ·rw[Qr,Qc (zgs h),Jf];rfl
 ·rw [Qr] at e
  have bh:m<zs.length:=Ws hm (zgs h)
  rw[Qc bh]at e
  cases e
  show(zs[m]==x)=false
  refine beq_eq_false_iff_ne.mpr λq=>?_
  have aW:∀(l:Nj) (j:Nat) (hj:j<l.length),l[j]=x→l.idxOf x≤j:=by
   intro l
   induction l with
   |nil=>intro j hj;simp at hj
   | cons a t ih =>
    intro j hj e
    rw[Xu]
    cases j with
    |zero =>
     have e':a=x:=e
     rw[e'];simp
    | succ i =>
     have:=ih i (by simpa using hj) (by simpa using e)
     by_cases h:a=x
     ·rw[h];simp
     ·have hb:(a == x)=false:=beq_eq_false_iff_ne.mpr h
      rw[hb];simp;assumption
  have:=aW zs m bh q
  omega
def zcm(zs:Nj):(zs.map V.str).all zdo=true:=by
 rw[Jq];intro v hv;obtain⟨x,_,rfl⟩:=Ql.mp hv;rfl
end K21
end
section
namespace K21
open PySem L2 Wb
section
variable{P:Ni}{w:Nl}{K:Na}{mg:Nf}{base:Nm}
end
end K21
end
section
namespace Wb
section
variable{α:Type}[DecidableEq α]
def itr(rs:Rs α)(s:α×α):Nat→α×α
 |0=>s
 |n+1=>stp rs (itr rs s n)
def IsSt(rs:Rs α)(s:α×α):Prop:=∃p∈rs,p.1=s.2∧s.1∈p.2
def allSt(rs:Rs α):List (α×α):=rs.flatMap λp=>p.2.map λx=>(x,p.1)
def mem_allSt{rs:Rs α}{s:α×α}:s∈allSt rs↔IsSt rs s:=by
 unfold allSt IsSt
 rw[List.mem_flatMap]
 constructor
 ·rintro ⟨p,hp,h⟩
  obtain⟨x,hx,rfl⟩:=Ql.mp h
  exact⟨p,hp,rfl,hx⟩
 ·rintro ⟨p,hp,e,hx⟩
  exact⟨p,hp,Ql.mpr ⟨s.1,hx,by rw[e]⟩⟩
def Clo(rs:Rs α):Prop:=∀s,IsSt rs s→IsSt rs (stp rs s)
theorem itr_st{rs:Rs α}(c:Clo rs){s:α×α}(h:IsSt rs s):∀n,IsSt rs (itr rs s n)
 |0=>h
 |n+1=>c _ (itr_st c h n)
def run(rs:Rs α)(s:α×α)(n:Nat):List (α×α):=(List.range n).map (itr rs s)
def run_succ(rs:Rs α)(s:α×α)(n:Nat):run rs s (n+1)=run rs s n++[itr rs s n]:=by
 unfold run;rw[List.range_succ,List.map_append];rfl
def nodup_len{l m:List (α×α)}(nd:l.Nodup)(h:∀x∈l,x∈m):l.length≤m.length:=by
 induction l generalizing m with
 |nil=>exact Zh _
 |cons a t ih =>
  rw[Qz]at nd
  have ha:=h a Qe
  have:=ih (m:=m.erase a) nd.2 λx hx=>(List.mem_erase_of_ne (λe=>nd.1 (by rw[←e];exact hx))).mpr (h x (Qg _ hx))
  rw[List.length_erase_of_mem ha]at this
  have hp:0<m.length:=Xq ha
  rw[Zg];lia
end
end Wb
namespace K21
open PySem L2 Wb
section
variable{P:Ni}{w:Nl}{K:Na}{mg:Nf}{base:Nm}
def zar.keep{H H':Hp}{as:Nk}{qs:Np}(r:zar H as qs)(k:∀b x y,H b=some (.tup [x,y])→H' b=some (.tup [x,y])):zar H' as qs:=by
 induction r with
 |nil=>exact .nil
 |cons h t ih=>exact .cons (k _ _ _ h) ih
def zar.snoc{H:Hp}{as:Nk}{qs:Np}{a:Nc}{q:Str×Str}(r:zar H as qs)(h:H a=some (.tup [.str q.1,.str q.2])):zar H (as++[a]) (qs++[q]):=by
 induction r with
 |nil=>exact .cons h .nil
 |cons h' t ih=>exact .cons h' ih
end
end K21
end
section
namespace Wb
section
variable{α:Type}[DecidableEq α]
structure Gen(G:Rs α→Prop):Prop where
 clo:∀rs,G rs→Clo rs
 nd:∀rs,G rs→(rs.map (·.1)).Nodup
 sub:∀rs,G rs→∀p∈rs,p.2.Nodup∧∀x∈p.2,x∈rs.map (·.1)
 sy:∀rs,G rs→∀p∈rs,∀x∈p.2,p.1∈row rs x
 nil:G []
 new:∀rs x,G rs→x∉rs.map (·.1)→G (rs++[(x,[])])
 leaf:∀rs x p c,G rs→x∉rs.map (·.1)→p∈rs→(∀y,c=some y→y∈p.2)→(c=none→p.2=[])→G (zbh (zbh (rs++[(x,[])]) p.1 (ins p.2 c x)) x [p.1])
 tie:∀rs c p n,G rs→p∈rs→c∈p.2→(itr rs (c,p.1) n).2≠p.1→(itr rs (c,p.1) n).2∉p.2 →
  G (zbh (zbh rs p.1 (ins p.2 (some c) (itr rs (c,p.1) n).2)) (itr rs (c,p.1) n).2 (ins (row rs (itr rs (c,p.1) n).2) (some (itr rs (c,p.1) n).1) p.1))
def zd1{l m:List α}(nd:l.Nodup)(h:∀x∈l,x∈m):l.length≤m.length:=by
 induction l generalizing m with
 |nil=>exact Zh _
 |cons a t ih =>
  rw[Qz]at nd
  have ha:=h a Qe
  have:=ih (m:=m.erase a) nd.2 λx hx=>(List.mem_erase_of_ne (λe=>nd.1 (by rw[←e];exact hx))).mpr (h x (Qg _ hx))
  rw[List.length_erase_of_mem ha]at this
  have hp:0<m.length:=Xq ha
  rw[Zg];lia
def Gen.rows{G:Rs α→Prop}(g:Gen G){rs:Rs α}(h:G rs):∀p∈rs,p.2.length≤rs.length:=λp hp=>by
 obtain⟨a,b⟩:=g.sub rs h p hp
 have:=zd1 a b
 rwa[Qa]at this
def Gen.steps{G:Rs α→Prop}(g:Gen G){rs:Rs α}(h:G rs)(hl:rs.length≤40):(allSt rs).length≤1600:=by
 have key:∀(l:Rs α) (n:Nat),(∀p∈l,p.2.length≤n)→(allSt l).length≤l.length*n:=by
  intro l n
  induction l with
  |nil=>intro _;simp[allSt]
  |cons a t ih =>
   intro hh
   have h1:=ih λp hp=>hh p (Qg _ hp)
   have h2:=hh a Qe
   unfold allSt at h1 ⊢
   rw[Uz,Qm,Qa,Zg,Nat.succ_mul]
   lia
 have:=key rs rs.length (g.rows h)
 have:rs.length*rs.length≤40*40:=Nat.mul_le_mul hl hl
 exact Zi ‹_› ‹_›
end
end Wb
namespace K21
open PySem L2 Wb
def zf3{H:Hp}{p a:Nc}{b m:Int}{zs:Nj}(h:Pot H p b m)(ha:H a=some (.lst (zs.map V.str))):a≠p:=za3 ha h.1 (by
 intro z
 have z':zs.map V.str=[.int b,.int m]:=by injection z
 cases zs with
 |nil=>cases z'
 |cons x t=>rw[Qk]at z';injection z' with z1 _;cases z1)
def Pot.keep{H H':Hp}{p:Nc}{b m:Int}{xs:Nk}(h:Pot H p b m)(k:Keep xs H H')(hp:p∉xs):Pot H' p b m:=⟨k _ _ h.1 hp,h.2⟩
def za8{H H':Hp}{p:Nc}(h:∀c o,H c=some o→c≠p→H' c=some o):Keep [p] H H':=λc o e n=>h c o e λz=>n (by rw[z];exact Qb.mpr rfl)
section
variable{P:Ni}{w:Nl}{K:Na}{mg:Nf}{base:Nm}
def ze3{x:Str}{zs:Nj}:inV (.str x) (zs.map V.str)=decide (x∈zs):=by
 unfold inV
 rw[Wm,Wf,decide_eq_true_iff]
 constructor
 ·rintro ⟨v,hv,e⟩
  obtain⟨y,hy,rfl⟩:=Ql.mp hv
  have e':y=x:=eq_of_beq e
  rw[←e'];exact hy
 ·intro h
  exact⟨.str x,Ql.mpr ⟨x,h,rfl⟩,beq_self_eq_true x⟩
def zbw{c:Bool}{A B:Prop}(h:c=false)(b:B):if c=true then A else B:=by rw[h];exact iteF b
def zb6{c:Bool}{A B:Prop}(h:c=true)(a:A):if c=true then A else B:=by rw[h];exact iteT a
end
end K21
end
section
namespace K21
open PySem L2 Wb
def keys_strs(es:List Ent):((eV es).map λp=>kV p.1)=(es.map (·.1)).map V.str:=by
 rw[Zp,Zp];rfl
section
variable{P:Ni}{w:Nl}{K:Na}{mg:Nf}{base:Nm}
def zc3(z:Str):Prop:=1≤z.length∧z.length≤8∧∀c∈z.cps.toList,97≤c∧c≤122
def nodup_of_map{α β:Type}{f:α→β}{l:List α}(h:(l.map f).Nodup):l.Nodup:=by
 induction l with
 |nil=>exact Yc
 |cons a t ih =>
  rw[Qk,Qz]at h
  exact Qz.mpr ⟨λz=>h.1 (Ql.mpr ⟨a,z,rfl⟩),ih h.2⟩
def zh9{α β:Type}{f:α→β}{l:List α}(nd:l.Nodup)(h:∀a∈l,∀b∈l,f a=f b→a=b):(l.map f).Nodup:=by
 induction l with
 |nil=>exact Yc
 |cons a t ih =>
  rw[Qz]at nd
  rw[Qk,Qz]
  refine⟨λz=>?_,ih nd.2 λx hx y hy=>h x (Qg _ hx) y (Qg _ hy)⟩
  obtain⟨b,hb,e⟩:=Ql.mp z
  exact nd.1 (h b (Qg _ hb) a Qe e▸hb)
def zgh{β:Type}{f:Nat→β}{n:Nat}(h:∀a,a<n→∀b,b<n→f a=f b→a=b):((List.range n).map f).Nodup :=
 zh9 Xk λa ha b hb=>h a (Yq.mp ha) b (Yq.mp hb)
def zdm:Str := "abcdefghijklmnopqrstuvwxyz"
def letters_at:∀i:Fin 26,zdm.cps.toList[i.1]?=some (97+i.1):=by decide +kernel
def zd8:zdm.length≤sizeLine:=by decide +kernel
def letter_at{j:Int}(h0:0≤j)(h1:j<26):atI zdm.cps.toList j=some (97+j.toNat):=by
 obtain⟨n,rfl⟩:=Zm h0
 exact zax (letters_at ⟨n,by exact zar8 ‹_›⟩)
def zas(k:Keep xs H H')(h:H' l=none)(hx:l∉xs):H l=none:=by
 cases z:H l with
 |none=>rfl
 |some o=>rw[k _ _ z hx]at h;cases h
end
end K21
end
section
namespace K21
open PySem L2 Wb Tm
def zdv(a b:Str)(h:leS a b)(g:leS b a):a=b:=by
 have e:a.cps.toList=b.cps.toList:=List.le_antisymm (List.not_lt.mp h) (List.not_lt.mp g)
 cases a;cases b
 congr 1
 exact Xn.mp e
def ltS(a b:Str):Bool:=decide (a.cps.toList<b.cps.toList)
def ltS_total(h:ltS a b=false)(n:a≠b):ltS b a=true:=by
 refine decide_eq_true (Jr λz=>n ?_)
 exact zdv a b z (of_decide_eq_false h)
def leP(p q:Str×Str):Prop:=(pairO strO strO).kle (p.1.cps.toList,p.2.cps.toList) (q.1.cps.toList,q.2.cps.toList)
def zie:leP p q↔leS p.1 q.1∧(ltS p.1 q.1=true∨leS p.2 q.2):=by
 unfold leP
 show(strO.blt q.1.cps.toList p.1.cps.toList||(!strO.blt p.1.cps.toList q.1.cps.toList&&strO.blt q.2.cps.toList p.2.cps.toList))=false↔_
 rw[Bool.or_eq_false_iff,Bool.and_eq_false_iff,Jz]
 exact⟨λ⟨a,b⟩=>⟨of_decide_eq_false a,b.imp id of_decide_eq_false⟩,λ⟨a,b⟩=>⟨decide_eq_false a,b.imp id decide_eq_false⟩⟩
def leP_anti(p q:Str×Str)(h:leP p q)(g:leP q p):p=q:=by
 obtain⟨h1,h2⟩:=zie.mp h
 obtain⟨g1,g2⟩:=zie.mp g
 have e:=zdv _ _ h1 g1
 have irr:∀a:Str,ltS a a=false:=λa=>decide_eq_false (Wi _)
 rw[e]at h2 g2
 rw[irr]at h2 g2
 have e2:=zdv _ _ (h2.resolve_left (by decide)) (g2.resolve_left (by decide))
 exact Km e e2
def pairsOf(rs:Rs Str):List (Str×Str):=rs.flatMap λp=>(p.2.filter λx=>ltS p.1 x).map λx=>(p.1,x)
def zib(h:leS a b)(n:a≠b):ltS a b=true:=by
 cases z:ltS a b with
 |true=>rfl
 |false=>exact absurd (ltS_total z n) (by intro y;exact h (of_decide_eq_true y))
def flat_sorted:∀{l:List (Str×List Str)},(l.map (·.1)).Pairwise leS→(l.map (·.1)).Nodup→(∀p∈l,p.2.Pairwise leS)→(l.flatMap λp=>(p.2.filter λx=>ltS p.1 x).map λx=>(p.1,x)).Pairwise leP:=by
 intro l
 induction l with
 |nil=>intro _ _ _;exact List.Pairwise.nil
 | cons a t ih =>
  intro h nd hr
  rw[Qk,Ua]at h
  rw[Qk,Qz]at nd
  rw[Uz,Zv]
  refine⟨?_,ih h.2 nd.2 (λp hp=>hr p (Qg _ hp)),λx hx y hy=>?_⟩
  ·rw [Wt]
   refine List.Pairwise.imp ?_ (List.Pairwise.filter _ (hr a Qe))
   intro x y pQ
   exact zie.mpr ⟨Wi _,.inr pQ⟩
  ·obtain ⟨x',_,rfl⟩:=Ql.mp hx
   obtain⟨p,hp,bq⟩:=List.mem_flatMap.mp hy
   obtain⟨y',_,rfl⟩:=Ql.mp bq
   have hm:p.1∈t.map (·.1):=Ql.mpr ⟨p,hp,rfl⟩
   have h1:=h.1 p.1 hm
   exact zie.mpr ⟨h1,.inl (zib h1 λz=>nd.1 (z▸hm))⟩
end K21
end
section
namespace K21
open PySem L2 Wb
abbrev sWeb:Stmt:=top 20
abbrev sPlaces:Stmt:=inClass sWeb 1
structure TAt(H:Hp)(d:Nc)(es:List Ent):Prop where
 dc:H d=some (.dK (eV es))
 ro:∀e∈es,H e.2.2=some (.tup (e.2.1.map V.str))
 nd:(es.map (·.1)).Nodup
def TAt.keep(r:TAt H d es)(k:Keep xs H H')(hd:d∉xs)(h:∀e∈es,e.2.2∉xs):TAt H' d es:=⟨k _ _ r.dc hd,λe he=>k _ _ (r.ro e he) (h e he),r.nd⟩
structure WAt(H:Hp)(C x dx d:Nc)(es:List Ent):Prop where
 ob:H x=some (.ins C dx [("rounds",.ref d)])
 ta:TAt H d es
def WAt.keep(r:WAt H C x dx d es)(k:Keep xs H H')(hx:x∉xs)(hd:d∉xs)(h:∀e∈es,e.2.2∉xs):WAt H' C x dx d es :=
 ⟨k _ _ r.ob hx,r.ta.keep k hd h⟩
def WAt.pot(r:WAt H C x dx d es)(h:Pot H p b m)(k:Keep [p] H H'):WAt H' C x dx d es :=
 r.keep k (by simpa using za3 r.ob h.1 (by intro z;cases z)) (by simpa using za3 r.ta.dc h.1 (by intro z;cases z)) λe he=>by simpa using za3 (r.ta.ro e he) h.1 (by intro z;cases z)
inductive IspPlaces(C:Nc)(vs:List V)(H:Hp)(Q:VK):Prop
 |mk (x dx d:Nc) (es:List Ent) (h0:vs=[.ref x]) (h1:WAt H C x dx d es) (h2:∀l,H l=none→Q (.ref l) (upd H l (.lst ((es.map (·.1)).map V.str)))):IspPlaces C vs H Q
def spPlaces(C:Nc):Sp:=λvs H Q _=>IspPlaces C vs H Q
def ndT:(["one", "other", "self"]:List Str).Nodup:=by decide +kernel
def pe_fldK(hK:X.K=K)(he:PE X e ta)(hb:attributeBase e f X.env (eval e X.env)=eval e X.env):PE X (.Attribute e f pos) (tFld K ta f):=hK▸zf6 he hb
def pi_tupK(hK:X.K=K)(hl:PE X l tl):PI X tg l (iTup K tl):=hK▸pi_tup hl
def zf1(h:ws.Perm (as.map V.ref)):∃bv:List Addr,ws=bv.map V.ref∧bv.Perm as:=by
 have key:∀ws:List V,(∀v∈ws,∃a,v=V.ref a)→∃bv:List Addr,ws=bv.map V.ref:=by
  intro ws
  induction ws with
  |nil=>intro _;exact⟨[],rfl⟩
  |cons v t ih =>
   intro hh
   obtain⟨a,rfl⟩:=hh v Qe
   obtain⟨bv,rfl⟩:=ih λv hv=>hh v (Qg _ hv)
   exact⟨a::bv,rfl⟩
 obtain⟨bv,rfl⟩:=key ws λv hv=>by
  obtain⟨a,_,rfl⟩:=Ql.mp (h.mem_iff.mp hv)
  exact⟨a,rfl⟩
 refine⟨bv,rfl,?_⟩
 have:=h.map (λv:V=>match v with | .ref a=>a | _=>0)
 rw[Zp,Zp]at this
 have e:∀l:List Addr,l.map ((λv:V=>match v with | .ref a=>a | _=>0)∘V.ref)=l:=λl=>List.map_id l
 rw[e,e]at this
 exact this
def pairs_sorted(r:zar H as qs)(h:(as.map V.ref).Pairwise (fun a b=>(Tm.pairO Tm.strO Tm.strO).kle (pairV H a) (pairV H b))):qs.Pairwise leP:=by
 induction r with
 |nil=>exact List.Pairwise.nil
 | cons h1 t ih =>
  rw[Qk,Ua]at h
  refine Ua.mpr ⟨λq hq=>?_,ih h.2⟩
  have key:∀{as:Nk} {qs:Np},zar H as qs→q∈qs→∃a∈as,H a=some (.tup [.str q.1,.str q.2]):=by
   intro as qs r
   induction r with
   |nil=>intro z;cases z
   | cons h t ih =>
    intro z
    rcases Qh.mp z with y | y
    ·subst y;exact⟨_,Qe,h⟩
    ·obtain ⟨a,ha,e⟩:=ih y
     exact⟨a,Qg _ ha,e⟩
  obtain⟨a,ha,ea⟩:=key t hq
  have:=h.1 (.ref a) (Ql.mpr ⟨a,ha,rfl⟩)
  rw[zf9 h1,zf9 ea]at this
  exact this
section
variable{P:Ni}{w:Nl}{K:Na}{mg:Nf}{base:Nm}
def scPlaces:zap ["self"] ["self"] (zag sPlaces):=fsk
def ok_places(F:Fun K "places" "Web.places" sPlaces f fd)(cW:Cls K C)(nW:zdf K C "rounds")(aV:mg "list" = none):FnOk P w K mg base CX0 1 f fd ["self"] (spPlaces C):=by
 refine F.okL scPlaces (λcdv A outer s H vs Q E hr h=>?_)
 obtain⟨x,dx,d,es,rfl,wt,k⟩:=h
 have hx:=wt.ob
 have T:=wt.ta
 refine⟨_,zah (zbe (zca (zg6 rfl) (by rfl) aV Je (zaa (zf6 (pv 0) rfl) zaf))),?_⟩
 refine⟨_,rfl,x,C,dx,_,_,rfl,hx,cW,nW,rfl,d,_,rfl,.inl T.dc,λl hl=>?_⟩
 rw[keys_strs]
 exact k l hl
def zaz:∀{as:List α} {bs:List β},Paired R as bs→∀{i:Nat} (hi:i<as.length),∃aw:i<bs.length,R as[i] bs[i]:=by
 intro as bs r
 induction r with
 |nil=>intro i hi;simp at hi
 | cons h t ih =>
  intro i hi
  cases i with
  |zero=>exact⟨by simp,h⟩
  |succ j =>
   obtain⟨a,b⟩:=ih (i:=j) (by simpa using hi)
   exact⟨by simpa using a,b⟩
end
end K21
end
section
namespace L2
open PySem
def zfi:PS X st (λ_ _ _=>False):=λ_ _ _ _ _ _ h=>h.elim
def pe_tyN(hg:Gl X x)(hm:X.mg x=none)(hv:bootBuiltins x=some (.type T))(hn:x ≠ "__name__" := by decide)(dz:(x==("__debug__" : Str))=false:=by decide):PE X (.Name x pos) (tC (.ty T)):=by
 intro a7 s σ H Q I h
 exact ld_blt I hg hm hv ⟨.ty T,H,I,rfl,h⟩ hn dz
end L2
namespace K21
open PySem L2 Wb
abbrev zd6:Stmt:=top 14
inductive IspIsName(vs:List V)(H:Hp)(Q:VK):Prop
 |mk (z:Str) (h0:vs=[.str z]) (h1:zc3 z) (h2:∀H',Keep [] H H'→Q (.bl true) H'):IspIsName vs H Q
def spIsName:Sp:=λvs H Q _=>IspIsName vs H Q
abbrev zet:Scope:=scOf (aOf 0 (aOf 1 (eOf (sAt zd6 1))))
def csIsName_k:zet.kind=.function:=by rfl
def csIsName_c:∀y∈zet.names,y.2≠.cell:=by decide +kernel
def csIsName_n:∀y∈zet.names,y.2=.local→zet.names.lookup y.1=some .local:=by decide +kernel
def csIsName_f:∀y∈zet.names,y.2=.free→(zag zd6).names.lookup y.1=some .cell∨(zag zd6).names.lookup y.1=some .free:=by decide +kernel
def nd1:(["sign"]:List Str).Nodup:=by decide +kernel
section
variable{P:Ni}{w:Nl}{K:Na}{mg:Nf}{base:Nm}
def scIsName:zap ["thing"] ["thing"] (zag zd6):=fsk
def ok_isname(F:Fun K "is_name" "is_name" zd6 f fd)(hML:mg "MOST_LETTERS" = some (.int 8 tk))(cB:mg "isinstance" = none)(qo:mg "str" = none)(ad:mg "len" = none)(cC:mg "all" = none):FnOk P w K mg base CX0 1 f fd ["thing"] spIsName:=by
 refine F.okL scIsName (λcdv A outer s H vs Q E hr h=>?_)
 obtain⟨z,rfl,hz,k⟩:=h
 have hu:=zck hr
 have aT  := sizeLine_eq
 refine⟨_,zae (zcc (zfe (zf2 (zaj call_isi_str (by rfl) cB Ue (zaa (pv 0) (zaa (pe_tyN (T := "str") rfl qo PyProof.Rows.boot_str) zaf))))) (zah zfi) zba)
  (zah (zbe (pe_and (pe_chain op_le op_le zai (zaj zcb (by rfl) ad Zz (zaa (pv 0) zaf)) (pe_glob (v:=.int 8) rfl hML ⟨tk,rfl⟩))
   (pe_one (zaj (call_all rfl) (by rfl) cC PyProof.Rows.boot_all (zaa (pe_lc (M:=["sign"]) (ix:=[none]) ⟨csIsName_k,csIsName_c,csIsName_n,csIsName_f,rfl,by decide +kernel,λj i x h1 h2=>by
      match j,h1,h2 with
      |0,_,h2=>cases h2
      |n+1,h1,_=>cases h1⟩ rfl (pi_str (pv 0)) (λC a7 ex s H=>zbf 0 nd1)
      (λC a7 ex s H=>zdi) (λC a7 ex s H=>pe_chain op_le_str op_le_str zdd (pv 0) zdd)) zaf)))))),?_⟩
 obtain⟨hz1,dj,jX⟩:=hz
 have hz1':1≤z.cps.size:=hz1
 have hz2':z.cps.size≤8:=dj
 refine⟨_,rfl,z,rfl,_,rfl,zbw rfl ?_⟩
 refine⟨_,rfl,z,rfl,(by show z.cps.size≤sizeLine;lia),_,_,rfl,rfl,_,rfl,zb6 (decide_eq_true (by show(1:Int)≤(z.cps.size:Int);exact zar9 ‹_›)) ?_⟩
 refine⟨_,_,rfl,rfl,_,rfl,zb6 (decide_eq_true (by show(z.cps.size:Int)≤8;lia)) ?_⟩
 have asc:z.cps.all (· < 128)=true:=by
  rw[Array.all_eq_true]
  intro i hi
  have:=jX z.cps[i] (by rw[Array.mem_toList_iff];exact Array.getElem_mem hi)
  exact decide_eq_true (by lia)
 refine⟨_,rfl,z,rfl,asc,λi m ys τ H1=>Aj5 (H1=H) (m=z.cps.size-i) (i≤z.cps.size) (ys=List.replicate i (V.bl true)) (Ex1 λx0=>τ=[x0]),⟨_,rfl,rfl,Zh _,rfl,none,rfl⟩,?_⟩
 rintro i m ys τ H1 ⟨rfl,rfl,hi,rfl,x0,rfl⟩
 by_cases ae:i<z.cps.size
 ·refine .inr ⟨ae,by rw [Ba];lia,?_⟩
  rintro y H' ⟨rfl,c,hc,rfl⟩
  obtain⟨h1,h2⟩:=jX c (by rw[Array.mem_toList_iff];exact Array.mem_of_getElem? hc)
  have l1:(!decide ((⟨#[c]⟩:Str).cps.toList<("a" : Str).cps.toList))=true:=by
   rw[Wu,decide_eq_false_iff_not,show("a" : Str).cps.toList=[97] from by decide +kernel]
   show ¬[c]<[97]
   intro h
   have:=List.cons_lt_cons_iff.mp h
   rcases this with q | ⟨_,q⟩
   ·exact zar10 ‹_› ‹_›
   ·exact Wi _ q
  have l2:(!decide (("z" : Str).cps.toList<(⟨#[c]⟩:Str).cps.toList))=true:=by
   rw[Wu,decide_eq_false_iff_not,show("z" : Str).cps.toList=[122] from by decide +kernel]
   show ¬[122]<[c]
   intro h
   have:=List.cons_lt_cons_iff.mp h
   rcases this with q | ⟨_,q⟩
   ·exact zar10 ‹_› ‹_›
   ·exact Wi _ q
  refine⟨_,rfl,_,_,rfl,rfl,_,rfl,zb6 l1 ?_⟩
  refine⟨_,_,rfl,rfl,_,?_,rfl,rfl,ae,?_,_,rfl⟩
  ·exact zar1 ‹_›
  ·rw[l2,List.replicate_succ']
 ·have e:i=z.cps.size:=by exact zar3 ‹_› ‹_›
  subst e
  refine .inl ⟨Qd _,λD hD=>?_⟩
  refine⟨D,List.replicate z.cps.size true,rfl,SqL.of (by rw[zac,List.map_replicate]),?_⟩
  have:(List.replicate z.cps.size true).all id=true:=by
   rw[Jq];intro b hb;exact(List.mem_replicate.mp hb).2
  rw[this]
  exact k _ (Keep.new hD)
end
end K21
end
section
namespace L2
open PySem
def lc_at(T:St→Prop)(ys:List V)(hl:ys.length=xs.length)(ha:SqL K H a xs)(hn:xs.length≤sizeLine)(h0:T τ)(hs:∀(i:Nat) (hi:i<xs.length) (dy:i<ys.length),∀τ,T τ→∀k:V→St→Hp→Prop,(∀τ2,T τ2→k ys[i] τ2 H)→g xs[i] τ H λ τ2 H2=>te τ2 H2 λy H4=>k y τ2 H4)(q:∀D,H D=none→Q (.ref D) (upd H D (.lst ys))):rLC g tAll te Q (Itl K a) τ H:=by
 refine⟨λi m zs τ H1=>Aj5 (H1=H) (T τ) (m=xs.length-i) (i≤xs.length) (zs=ys.take i),⟨_,rfl,h0,rfl,Zh _,rfl⟩,?_⟩
 rintro i m zs τ H1 ⟨rfl,ht,rfl,hi,rfl⟩
 by_cases ae:i<xs.length
 ·refine .inr ⟨⟨xs,xs[i],ha,Qc ae⟩,by rw [Zc];lia,?_⟩
  rintro x H' ⟨rfl,hx⟩
  have c7:=hx xs ha
  rw[Qc ae]at c7
  have iq:xs[i]=x:=Qs c7
  rw[←iq]
  refine hs i ae (by exact zar6 ‹_› ‹_›) τ ht (λy τ2 H4=>∃m',m'<xs.length-i∧Aj5 (H4=H') (T τ2) (m'=xs.length-(i+1)) (i+1≤xs.length) (ys.take i++[y]=ys.take (i+1))) λ τ2 h2=>?_
  exact⟨_,by exact zar1 ‹_›,rfl,h2,rfl,ae,by rw[Qo (by exact zar6 ‹_› ‹_›:i<ys.length)]⟩
 ·have e:i=xs.length:=by exact zar3 ‹_› ‹_›
  refine .inl ⟨⟨xs,ha,by lia⟩,λD hD=>?_⟩
  rw[Qu (by lia)]
  exact q D hD
end L2
namespace K21
open PySem L2 Wb
structure RwAt(H:Hp)(l:Nc)(as:Nk)(es:List Ent):Prop where
 ls:H l=some (.lst (as.map V.ref))
 ts:Paired (λa (e:Ent)=>H a=some (.tup [.str e.1,.ref e.2.2])) as es
 ro:∀e∈es,H e.2.2=some (.lst (e.2.1.map V.str))
def RwAt.keep(r:RwAt H l as es)(k:Keep [] H H'):RwAt H' l as es :=
 ⟨k _ _ r.ls (by simp),Paired.imp' (λ_ _ h=>k _ _ h (by simp)) r.ts,λe he=>k _ _ (r.ro e he) (by simp)⟩
abbrev zfo:Stmt:=top 15
abbrev zd0:Stmt:=top 16
abbrev zh1:Stmt:=top 17
inductive zhq(vs:List V)(H:Hp)(Q:VK):Prop
 |mk (l:Nc) (as:Nk) (es:List Ent) (h0:vs=[.ref l]) (h1:RwAt H l as es) (h2:(∀e∈es,e.2.1.length≤100∧zc3 e.1∧∀x∈e.2.1,zc3 x)) (h3:∀H',Keep [] H H'→Q .non H'):zhq vs H Q
def spNoNames:Sp:=λvs H Q _=>zhq vs H Q
inductive IspTwice(vs:List V)(H:Hp)(Q:VK):Prop
 |mk (l:Nc) (as:Nk) (es:List Ent) (h0:vs=[.ref l]) (h1:RwAt H l as es) (h2:es.length≤60) (h3:(es.map (·.1)).Nodup) (h4:(∀e∈es,e.2.1.length≤100∧e.2.1.Nodup)) (h5:∀H',Keep [] H H'→Q .non H'):IspTwice vs H Q
def spTwice:Sp:=λvs H Q _=>IspTwice vs H Q
inductive IspOneWay(vs:List V)(H:Hp)(Q:VK):Prop
 |mk (l:Nc) (as:Nk) (es:List Ent) (h0:vs=[.ref l]) (h1:RwAt H l as es) (h2:(es.map (·.1)).Nodup) (h3:(∀e∈es,e.1∉e.2.1∧∀x∈e.2.1,∃e'∈es,e'.1=x∧e.1∈e'.2.1)) (h4:∀H',Keep [] H H'→Q .non H'):IspOneWay vs H Q
def spOneWay:Sp:=λvs H Q _=>IspOneWay vs H Q
section
variable{P:Ni}{w:Nl}{K:Na}{mg:Nf}{base:Nm}
def zei:zap ["rows", "place", "around", "thing"] ["rows"] (zag zfo):=fsk
def ok_nonames(F:Fun K "refuse_no_names" "refuse_no_names" zfo f fd)(FN:Fun K "is_name" "is_name" zd6 fn fdn)(bN:Binds K fdn ["thing"] [])(mN:mg "is_name" = some (.ref fn))(GN:FnOk P w K mg base CX0 1 fn fdn ["thing"] spIsName):FnOk P w K mg base CX0 2 f fd ["rows"] spNoNames:=by
 refine F.okL zei (λcdv A outer s H vs Q E hr h=>?_)
 obtain⟨l,as,es,rfl,R,hok,k⟩:=h
 have hu:=zck hr
 have aT  := sizeLine_eq
 refine⟨_,zah (zbq Zq rfl (za7 (pv 0)) (zhd rfl (za1 (zbf 1 zei.nd) (za1 (zbf 2 zei.nd) zcv)))
  (zah (zbq Zq rfl (za7 (zav zek (zbj (zaa (pv 1) zaf)) (pv 2))) (zbf 3 zei.nd)
   (zah (zcc (zfe (zf2 (zam GN hr rfl mN FN.kp bN .nil za0 (zaa (pv 3) zaf)))) (zah zfi) zba))))),?_⟩
 refine⟨_,rfl,l,rfl,⟨_,SqL.of R.ls⟩,zbv (xs:=as.map V.ref) (λi σ H'=>Aj2 (Keep [] H H') (Ex3 λx1 x2 x3=>σ=[some (.ref l),x1,x2,x3])) ⟨Keep.refl,none,none,none,rfl⟩ (λi σ H' _ hh=>SqL.of (hh.1 _ _ R.ls (by simp))) ?_ ?_⟩
 ·rintro i y σ H1 hx ⟨k1,x1,x2,x3,rfl⟩
  have hi:i<as.length:=by
   have:=(Zd.mp hx).1
   rwa[Qa]at this
  have im:y=.ref as[i]:=by
   rw[Qr,Qc hi]at hx
   exact(Qs hx).symm
  subst im
  obtain⟨aw,bp⟩:=zaz R.ts hi
  obtain⟨gO,eF,bg⟩:=hok _ (Qq aw)
  have bG:=k1 _ _ (R.ro _ (Qq aw)) (by simp)
  refine⟨as[i],_,rfl,SqT.of (k1 _ _ bp (by simp)),rfl,_,_,rfl,_,_,rfl,rfl,?_⟩
  refine⟨_,rfl,(by show 1≤sizeLine;decide),λq hq=>?_⟩
  have nq:es[i].2.2≠q:=zab bG hq
  refine⟨_,rfl,q,es[i].2.2,_,_,rfl,rfl,zac,(by rw[zad nq];exact bG),(by rw[Qa];show 1+_≤sizeLine;lia),λq2 cr=>?_⟩
  have k2:Keep [] H (upd (upd H1 q (.lst [.str es[i].1])) q2 (.lst ([V.str es[i].1]++es[i].2.1.map V.str))):=(k1.trans (Keep.new hq)).trans (Keep.new cr)
  have iJ:(upd (upd H1 q (.lst [.str es[i].1])) q2 (.lst ([V.str es[i].1]++es[i].2.1.map V.str))) q2=some (.lst ((es[i].1::es[i].2.1).map V.str)):=zac
  generalize upd (upd H1 q (.lst [.str es[i].1])) q2 (.lst ([V.str es[i].1]++es[i].2.1.map V.str))=H2 at k2 iJ
  refine⟨q2,rfl,⟨_,SqL.of iJ⟩,zbv (xs:=(es[i].1::es[i].2.1).map V.str) (λj σ H'=>Aj2 (Keep [] H2 H') (Ex3 λx1 x2 x3=>σ=[some (.ref l),x1,x2,x3])) ⟨Keep.refl,_,_,_,rfl⟩ (λj σ H' _ hh=>SqL.of (hh.1 _ _ iJ (by simp))) ?_ ?_⟩
  ·rintro j y σ H3 hy ⟨k3,y1,y2,y3,rfl⟩
   obtain⟨z,hz,rfl⟩:=Ql.mp (Yz hy)
   have cU:zc3 z:=by
    rcases Qh.mp hz with e | e
    ·rw[e];exact eF
    ·exact bg z e
   refine⟨_,rfl,z,rfl,cU,λH4 k4=>⟨_,rfl,zbw rfl ?_⟩⟩
   exact⟨k3.trans k4,_,_,_,rfl⟩
  ·rintro σ H3 ⟨k3,y1,y2,y3,rfl⟩
   exact⟨k2.trans k3,_,_,_,rfl⟩
 ·rintro σ H1 ⟨k1,x1,x2,x3,rfl⟩
  exact k H1 k1
abbrev csTwA:Scope:=scOf (eOf (sAt zd0 0))
abbrev csTwB:Scope:=scOf (aOf 1 (eOf (sAt zd0 1)))
def csTwA_k:csTwA.kind=.function:=by rfl
def csTwA_c:∀y∈csTwA.names,y.2≠.cell:=by decide +kernel
def csTwA_n:∀y∈csTwA.names,y.2=.local→csTwA.names.lookup y.1=some .local:=by decide +kernel
def csTwA_f:∀y∈csTwA.names,y.2=.free→(zag zd0).names.lookup y.1=some .cell∨(zag zd0).names.lookup y.1=some .free:=by decide +kernel
def csTwB_k:csTwB.kind=.function:=by rfl
def csTwB_c:∀y∈csTwB.names,y.2≠.cell:=by decide +kernel
def csTwB_n:∀y∈csTwB.names,y.2=.local→csTwB.names.lookup y.1=some .local:=by decide +kernel
def csTwB_f:∀y∈csTwB.names,y.2=.free→(zag zd0).names.lookup y.1=some .cell∨(zag zd0).names.lookup y.1=some .free:=by decide +kernel
def ndPA:(["place", "around"]:List Str).Nodup:=by decide +kernel
def scTwice:zap ["rows", "places", "names"] ["rows"] (zag zd0):=fsk
def noB(h1:sc.kind=.function)(h2:∀y∈sc.names,y.2≠.cell)(h3:∀y∈sc.names,y.2=.local→sc.names.lookup y.1=some .local)(h4:∀y∈sc.names,y.2=.free→X.env.scope.names.lookup y.1=some .cell∨X.env.scope.names.lookup y.1=some .free)(h5:n=M.length)(h6:M.Nodup):Blk X sc M (List.replicate n none):=⟨h1,h2,h3,h4,by rw [Ba,h5],h6,fun j i x _ h=>by
   have:=Yz h
   have:=(List.mem_replicate.mp this).2
   cases this⟩
def zf4(hK:X.K=K)(hc:X.calm=true)(h:PGs X es t)(hn:(assignEach es X.env).length=n:=by rfl)(az:(assignEach es X.env).findIdx? (·.1)=none:=by rfl):PG X (.Tuple es k pos) (gTup K n t):=hK▸zhd hc h hn az
def ok_twice(F:Fun K "refuse_twice" "refuse_twice" zd0 f fd)(ad:mg "len" = none)(qr:mg "set" = none):FnOk P w K mg base CX0 1 f fd ["rows"] spTwice:=by
 refine F.okL scTwice (λcdv A outer s H vs Q E hr h=>?_)
 obtain⟨l,as,es,rfl,R,ko,aK,hok,k⟩:=h
 have hu:=zck hr
 have aT  := sizeLine_eq
 refine⟨_,zae (ps_lc (i:=1) (M:=["place", "around"]) (ix:=[none,none]) scTwice.nd rfl rfl (noB (n:=2) csTwA_k csTwA_c csTwA_n csTwA_f rfl ndPA) rfl (za7 (pv 0))
   (λC a7 ex s H=>zf4 (K:=K) (n:=2) rfl rfl (za1 (zbf 0 ndPA) (za1 (zbf 1 ndPA) zcv)))
   (λC a7 ex s H=>zdi) (λC a7 ex s H=>pv 0) rfl)
  (zah (zbq Zq rfl (za7 (zav zek (zbj (zaa (pv 1) zaf)) (pe_lc (M:=["place", "around"]) (ix:=[none,none]) (noB (n:=2) csTwB_k csTwB_c csTwB_n csTwB_f rfl ndPA) rfl (za7 (pv 0))
   (λC a7 ex s H=>zf4 (K:=K) (n:=2) rfl rfl (za1 (zbf 0 ndPA) (za1 (zbf 1 ndPA) zcv)))
   (λC a7 ex s H=>zdi) (λC a7 ex s H=>pv 1)))) (zbf 2 scTwice.nd)
   (zah (zcc (za5 op_lt (zaj zir (by rfl) ad Zz (zaa (zca (zio rfl) (by rfl) qr PyProof.Rows.boot_set (zaa (pv 2) zaf)) zaf))
    (zaj zan (by rfl) ad Zz (zaa (pv 2) zaf)) (zbt _)) (zah zfi) zba)))),?_⟩
 have cS:as.length=es.length:=Zt R.ts
 refine⟨_,rfl,l,rfl,⟨_,SqL.of R.ls⟩,lc_at (xs:=as.map V.ref) (λ τ=>∃x0 x1,τ=[x0,x1]) ((es.map (·.1)).map V.str) (by rw[Qa,Qa,Qa,cS]) (SqL.of R.ls) (by rw[Qa];lia) ⟨none,none,rfl⟩ ?_ (λD hD=>?_)⟩
 ·rintro i hi dy τ ⟨x0,x1,rfl⟩ kk hk
  rw[Qa]at hi
  obtain⟨aw,bp⟩:=zaz R.ts hi
  rw[Yd]
  refine⟨as[i],_,rfl,SqT.of bp,rfl,_,_,rfl,_,_,rfl,rfl,_,rfl,?_⟩
  have e:((es.map (·.1)).map V.str)[i]=V.str es[i].1:=by rw[Yd,Yd]
  rw[e]at hk
  exact hk _ ⟨_,_,rfl⟩
 ·have k1:Keep [] H (upd H D (.lst ((es.map (·.1)).map V.str))):=Keep.new hD
  have hD1:(upd H D (.lst ((es.map (·.1)).map V.str))) D=some (.lst ((es.map (·.1)).map V.str)):=zac
  generalize upd H D (.lst ((es.map (·.1)).map V.str))=H1 at k1 hD1
  have R1:=R.keep k1
  refine⟨_,rfl,(by show 1≤sizeLine;decide),λq hq=>?_⟩
  have k2:Keep [] H1 (upd H1 q (.lst [.ref D])):=Keep.new hq
  have cr:(upd H1 q (.lst [.ref D])) q=some (.lst [.ref D]):=zac
  generalize upd H1 q (.lst [.ref D])=H2 at k2 cr
  have R2:=R1.keep k2
  refine⟨_,rfl,l,rfl,⟨_,SqL.of R2.ls⟩,lc_at (xs:=as.map V.ref) (λ τ=>∃x0 x1,τ=[x0,x1]) (es.map λe=>V.ref e.2.2) (by rw[Qa,Qa,cS]) (SqL.of R2.ls) (by rw[Qa];lia) ⟨none,none,rfl⟩ ?_ (λD2 kD=>?_)⟩
  ·rintro i hi dy τ ⟨x0,x1,rfl⟩ kk hk
   rw[Qa]at hi
   obtain⟨aw,bp⟩:=zaz R2.ts hi
   rw[Yd]
   refine⟨as[i],_,rfl,SqT.of bp,rfl,_,_,rfl,_,_,rfl,rfl,_,rfl,?_⟩
   rw[Yd]at hk
   exact hk _ ⟨_,_,rfl⟩
  ·have k3:Keep [] H2 (upd H2 D2 (.lst (es.map fun e=>V.ref e.2.2))):=Keep.new kD
   have kC:(upd H2 D2 (.lst (es.map λe=>V.ref e.2.2))) D2=some (.lst (es.map λe=>V.ref e.2.2)):=zac
   generalize upd H2 D2 (.lst (es.map λe=>V.ref e.2.2))=H3 at k3 kC
   refine⟨q,D2,_,_,rfl,rfl,k3 _ _ cr (by simp),kC,(by rw[Qa];show 1+_≤sizeLine;lia),λq4 o8=>?_⟩
   have k4:Keep [] H3 (upd H3 q4 (.lst ([V.ref D]++es.map λe=>V.ref e.2.2))):=Keep.new o8
   have iI:(upd H3 q4 (.lst ([V.ref D]++es.map λe=>V.ref e.2.2))) q4=some (.lst ([V.ref D]++es.map λe=>V.ref e.2.2)):=zac
   generalize upd H3 q4 (.lst ([V.ref D]++es.map λe=>V.ref e.2.2))=H4 at k4 iI
   have di:Keep [] H H4:=((k1.trans k2).trans k3).trans k4
   refine⟨q4,rfl,⟨_,SqL.of iI⟩,zbv (xs:=[V.ref D]++es.map λe=>V.ref e.2.2) (λi σ H'=>Aj2 (Keep [] H4 H') (Ex2 λx1 x2=>σ=[some (.ref l),x1,x2])) ⟨Keep.refl,_,_,rfl⟩ (λi σ H' _ hh=>SqL.of (hh.1 _ _ iI (by simp))) ?_ ?_⟩
   ·rintro i y σ H5 hy ⟨k5,x1,x2,rfl⟩
    obtain⟨a,zs,rfl,ha,cU,cV⟩:∃(a:Nc) (zs:Nj),y=V.ref a∧H5 a=some (.lst (zs.map V.str))∧zs.Nodup∧zs.length≤100:=by
     rcases Qf.mp (Yz hy) with z | z
     ·refine ⟨D,es.map (·.1),Qb.mp z,?_,aK,by rw [Qa];exact Zi ko (by decide)⟩
      exact k5 _ _ (k4 _ _ (k3 _ _ (k2 _ _ hD1 (by simp)) (by simp)) (by simp)) (by simp)
     ·obtain ⟨e,he,rfl⟩:=Ql.mp z
      exact⟨e.2.2,e.2.1,rfl,k5 _ _ (di _ _ (R.ro e he) (by simp)) (by simp),(hok e he).2,(hok e he).1⟩
    refine⟨_,rfl,a,zs,rfl,SqL.of ha,cU,by lia,λt ht=>?_⟩
    have pB:a≠t:=zab ha ht
    refine⟨t,zs,rfl,zac,by lia,_,rfl,a,_,rfl,.inl (SqL.of (by rw[zad pB];exact ha)),_,_,rfl,rfl,_,rfl,zbw (decide_eq_false (by rw[Qa];lia)) ?_⟩
    exact⟨k5.trans (Keep.new ht),_,_,rfl⟩
   ·rintro σ H5 ⟨k5,x1,x2,rfl⟩
    exact k H5 (di.trans k5)
end
end K21
end
section
namespace K21
open PySem L2 Wb
abbrev sLeast:Stmt:=top 19
def Frst(zs:Nj):Prop:=∀y t,zs=y::t→∀z∈zs,leS y z
inductive IspLeast(vs:List V)(H:Hp)(Q:VK):Prop
 |mk (a:Nc) (zs:Nj) (h0:vs=[.ref a]) (h1:H a=some (.lst (zs.map V.str))) (h2:zs.length≤100) (h3:∀(t:Nc) (j:Nat) (H':Hp),j≤zs.length→Frst (zs.drop j++zs.take j)→H' t=some (.tup ((zs.drop j++zs.take j).map V.str))→H t=none→Keep [] H H'→Q (.ref t) H'):IspLeast vs H Q
def spLeast:Sp:=λvs H Q _=>IspLeast vs H Q
def zhf{α β γ:Type}{R:α→γ→Prop}{f:β→γ}:∀{as:List α} {bs:List β},Paired (λa b=>R a (f b)) as bs→Paired R as (bs.map f):=by
 intro as bs r
 induction r with
 |nil=>exact .nil
 |cons h t ih=>exact .cons h ih
section
variable{P:Ni}{w:Nl}{K:Na}{mg:Nf}{base:Nm}
def zeh:zap ["rows", "rounds", "one", "around", "other"] ["rows"] (zag zh1):=fsk
def ok_oneway{f:Nc}{fd:Nr}(F:Fun K "refuse_one_way" "refuse_one_way" zh1 f fd)(fj:mg "dict" = none):FnOk P w K mg base CX0 1 f fd ["rows"] spOneWay:=by
 refine F.okL zeh (λcdv A outer s H vs Q E hr h=>?_)
 obtain⟨l,as,es,rfl,R,aK,hok,k⟩:=h
 have hu:=zck hr
 have aT  := sizeLine_eq
 refine⟨_,zae (zau 1 zeh.nd (zca (zd2 rfl) (by rfl) fj PyProof.Rows.boot_dict (zaa (pv 0) zaf)))
  (zah (zbq Zq rfl (za7 (pv 0)) (zhd rfl (za1 (zbf 2 zeh.nd) (za1 (zbf 3 zeh.nd) zcv)))
   (zah (zbq Zq rfl (za7 (pv 3)) (zbf 4 zeh.nd)
    (zah (zcc (PW.pt (pw_or (za5 op_eq (pv 4) (pv 2) (zbt _)) (pw_or1 (za5 zff (pv 2) (pe_dget2 hu (pv 1) (pv 4) (zbj zaf) ⟨rfl,rfl,rfl,rfl⟩) rfl)))) (zah zfi) zba)))))),?_⟩
 have og:(es.map λe:Ent=>(e.1,V.ref e.2.2)).map (·.1)=es.map (·.1):=by rw[Zp];rfl
 refine⟨_,rfl,l,as,es.map λe=>(e.1,V.ref e.2.2),rfl,R.ls,zhf R.ts,by rw[og];exact aK,λd hd=>?_⟩
 have qE:((es.map λe:Ent=>(e.1,V.ref e.2.2)).map λp=>((Sum.inr p.1:Key),p.2))=eV es:=by rw[Zp];rfl
 rw[qE]
 have k1:Keep [] H (upd H d (.dK (eV es))):=Keep.new hd
 have oE:(upd H d (.dK (eV es))) d=some (.dK (eV es)):=zac
 generalize upd H d (.dK (eV es))=H1 at k1 oE
 have R1:=R.keep k1
 refine⟨_,rfl,l,rfl,⟨_,SqL.of R1.ls⟩,zbv (xs:=as.map V.ref) (λi σ H'=>Aj2 (Keep [] H1 H') (Ex3 λx2 x3 x4=>σ=[some (.ref l),some (.ref d),x2,x3,x4])) ⟨Keep.refl,none,none,none,rfl⟩ (λi σ H' _ hh=>SqL.of (hh.1 _ _ R1.ls (by simp))) ?_ ?_⟩
 ·rintro i y σ H2 hx ⟨k2,x2,x3,x4,rfl⟩
  have hi:i<as.length:=by
   have:=(Zd.mp hx).1
   rwa[Qa]at this
  have im:y=.ref as[i]:=by
   rw[Qr,Qc hi]at hx
   exact(Qs hx).symm
  subst im
  obtain⟨aw,bp⟩:=zaz R1.ts hi
  obtain⟨eF,bg⟩:=hok _ (Qq aw)
  have bG:=k2 _ _ (R1.ro _ (Qq aw)) (by simp)
  refine⟨as[i],_,rfl,SqT.of (k2 _ _ bp (by simp)),rfl,_,_,rfl,_,_,rfl,rfl,?_⟩
  refine⟨_,rfl,es[i].2.2,rfl,⟨_,SqL.of bG⟩,zbv (xs:=es[i].2.1.map V.str) (λj σ H'=>Aj2 (Keep [] H2 H') (Ex1 λx4=>σ=[some (.ref l),some (.ref d),some (.str es[i].1),some (.ref es[i].2.2),x4])) ⟨Keep.refl,_,rfl⟩ (λj σ H' _ hh=>SqL.of (hh.1 _ _ bG (by simp))) ?_ ?_⟩
  ·rintro j y σ H3 hy ⟨k3,y4,rfl⟩
   obtain⟨z,hz,rfl⟩:=Ql.mp (Yz hy)
   obtain⟨e',ax,hez,aA⟩:=bg z hz
   have aW:z≠es[i].1:=λq=>eF (q▸hz)
   have mz:=k3 _ _ (k2 _ _ oE (by simp)) (by simp)
   refine⟨_,rfl,_,rfl,rfl,_,rfl,zbw (decide_eq_false (λq=>aW (by injection q))) ?_⟩
   refine⟨_,rfl,_,rfl,d,rfl,.inl ⟨_,.inl mz⟩,_,rfl,(by show 0≤sizeLine;decide),λq hq=>?_⟩
   have ndq:d≠q:=zab mz hq
   have sx:(upd H3 q (.lst [])) d=some (.dK (eV es)):=by rw[zad ndq];exact mz
   have hr4:(upd H3 q (.lst [])) e'.2.2=some (.lst (e'.2.1.map V.str)):=by
    have h3:=k3 _ _ (k2 _ _ (R1.ro e' ax) (by simp)) (by simp)
    rw[zad (zab h3 hq)];exact h3
   have dg:=DGet.k (k:=Sum.inr z) sx
   rw[←hez,zeb aK ax,hez]at dg
   refine⟨_,dg,e'.2.2,_,rfl,.inl (SqL.of hr4),rfl,zcm _,_,rfl,?_⟩
   refine zbw (by rw[if_pos rfl,ze3,decide_eq_true aA];rfl) ?_
   exact⟨k3.trans (Keep.new hq),_,rfl⟩
  ·rintro σ H3 ⟨k3,y4,rfl⟩
   exact⟨k2.trans k3,_,_,_,rfl⟩
 ·rintro σ H2 ⟨k2,x2,x3,x4,rfl⟩
  exact k H2 (k1.trans k2)
def scLeast:zap ["around", "at"] ["around"] (zag sLeast):=fsk
def ok_least(F:Fun K "from_least" "from_least" sLeast f fd)(cN:mg "min" = none)(qa:mg "tuple" = none):FnOk P w K mg base CX0 1 f fd ["around"] spLeast:=by
 refine F.okL scLeast (λcdv A outer s H vs Q E hr h=>?_)
 obtain⟨a,zs,rfl,ha,hz,k⟩:=h
 have aT  := sizeLine_eq
 refine⟨_,zae (zau 1 scLeast.nd (pe_ifExp (zfr (pv 0) (by intro _;rfl)) (zcj Qy Jc Jb zel (pv 0) (zaa (zaj (zev rfl) (by rfl) cN Kg (zaa (pv 0) zaf)) zaf)) zai))
  (zah (zbe (zca zim (by rfl) qa PyProof.Rows.boot_tuple (zaa (zav zek (zbu zcs (pv 0) (zb5 (pv 1)) zbz) (zbu zcs (pv 0) zbz (zb5 (pv 1)))) zaf)))),?_⟩
 have cQ:(zs.map V.str).length=zs.length:=Qa ..
 refine⟨_,rfl,_,.inl ⟨_,SqL.of ha,rfl⟩,?_⟩
 by_cases gG:zs=[]
 ·refine zbw (by rw [gG];rfl) ?_
  have h0:0≤zs.length:=Zh _
  refine⟨_,rfl,_,rfl,_,rfl,a,_,rfl,SqL.of ha,λp1 h1=>?_⟩
  have n1:a≠p1:=zab ha h1
  refine⟨_,rfl,_,rfl,_,rfl,a,_,rfl,SqL.of (by rw[zad n1];exact ha),λp2 h2=>?_⟩
  have dh:p1≠p2:=zab (o:=_) zac h2
  refine⟨p1,p2,_,_,rfl,rfl,(by rw[zad dh];exact zac),zac,?_,λp3 h3=>?_⟩
  ·have q1:=zco (zs.map V.str) (some (0:Int)) none
   have q2:=zco (zs.map V.str) none (some (0:Int))
   rw[cQ]at q1 q2
   show _+_≤sizeLine
   lia
  have ecut:cutV (zs.map V.str) (some (0:Int)) none++cutV (zs.map V.str) none (some (0:Int))=(zs.drop (0:Nat)++zs.take (0:Nat)).map V.str:=by
   show cutV (zs.map V.str) (some (((0:Nat)):Int)) none++cutV (zs.map V.str) none (some (((0:Nat)):Int))=_
   rw[zdy (by rw[cQ];exact h0),zhl (by rw[cQ];exact h0),Qt,Jk,Ul]
  rw[ecut]
  refine⟨p3,_,rfl,.inl ⟨SqL.of zac,λt ht=>?_⟩⟩
  have kk:Keep [] H _:=(((Keep.new h1).trans (Keep.new h2)).trans (Keep.new h3)).trans (Keep.new (o:=.tup ((zs.drop (0:Nat)++zs.take (0:Nat)).map V.str)) ht)
  exact k t (0:Nat) _ h0 (λy t' e=>by rw[gG]at e;cases e) zac (zas (xs:=[]) (((Keep.new h1).trans (Keep.new h2)).trans (Keep.new h3)) ht (by simp)) kk
 ·refine zb6 (by cases hh:zs with
   |nil=>exact absurd hh gG
   |cons _ _=>rfl) ?_
  refine⟨_,rfl,.inl ⟨rfl,_,SqL.of ha⟩,_,rfl,a,zs,rfl,SqL.of ha,gG,λz bw cV=>?_⟩
  obtain⟨i1,i2⟩:=index_of bw
  have hj:zs.idxOf z≤zs.length:=Zo (zgs bw)
  refine⟨a,_,_,_,rfl,rfl,ha,rfl,zcm _,i1,i2,?_⟩
  refine⟨_,rfl,_,rfl,_,rfl,a,_,rfl,SqL.of ha,λp1 h1=>?_⟩
  have n1:a≠p1:=zab ha h1
  refine⟨_,rfl,_,rfl,_,rfl,a,_,rfl,SqL.of (by rw[zad n1];exact ha),λp2 h2=>?_⟩
  have dh:p1≠p2:=zab (o:=_) zac h2
  refine⟨p1,p2,_,_,rfl,rfl,(by rw[zad dh];exact zac),zac,?_,λp3 h3=>?_⟩
  ·have q1:=zco (zs.map V.str) (some ((zs.idxOf z):Int)) none
   have q2:=zco (zs.map V.str) none (some ((zs.idxOf z):Int))
   rw[cQ]at q1 q2
   show _+_≤sizeLine
   lia
  have ecut:cutV (zs.map V.str) (some ((zs.idxOf z):Int)) none++cutV (zs.map V.str) none (some ((zs.idxOf z):Int))=(zs.drop (zs.idxOf z)++zs.take (zs.idxOf z)).map V.str:=by
   rw[zdy (by rw[cQ];exact hj),zhl (by rw[cQ];exact hj),Qt,Jk,Ul]
  rw[ecut]
  refine⟨p3,_,rfl,.inl ⟨SqL.of zac,λt ht=>?_⟩⟩
  have kk:Keep [] H _:=(((Keep.new h1).trans (Keep.new h2)).trans (Keep.new h3)).trans (Keep.new (o:=.tup ((zs.drop (zs.idxOf z)++zs.take (zs.idxOf z)).map V.str)) ht)
  exact k t (zs.idxOf z) _ hj (λy t' e w hw=>by
   have hy:y=z:=by
    rw[We (zgs bw),Jf]at e
    injection e with e _
    exact e.symm
   rw[hy]
   exact cV w ((Qf.mp hw).elim Yy Yp)) zac (zas (xs:=[]) (((Keep.new h1).trans (Keep.new h2)).trans (Keep.new h3)) ht (by simp)) kk
end
end K21
end
section
namespace Wb
section lk
variable{β:Type}
def Lk(f:β→β):β→List β→β→Prop
 |s,[],e=>f s=e
 |s,x::t,e=>f s=x∧Lk f x t e
def lk_app:∀{A:List β} {s:β},Lk f s (A++x::B) e↔Lk f s A x∧Lk f x B e:=by
 intro A
 induction A with
 |nil=>intro s;exact Iff.rfl
 |cons a t ih =>
  intro s
  show f s=a∧Lk f a (t++x::B) e↔(f s=a∧Lk f a t x)∧Lk f x B e
  rw[ih,and_assoc]
def lk_congr:∀{t:List β} {s:β},(∀y,y=s∨y∈t→g y=f y)→Lk f s t e→Lk g s t e:=by
 intro t
 induction t with
 |nil=>intro s h k;exact(h s (.inl rfl)).trans k
 |cons a t ih =>
  intro s h k
  refine⟨(h s (.inl rfl)).trans k.1,ih (λy hy=>h y (.inr ?_)) k.2⟩
  rcases hy with z | z
  ·rw[z];exact Qe
  ·exact Qg _ z
def Cyc(f:β→β)(c:List β):Prop:=∃s t,c=s::t∧Lk f s t s
def ze5(h:Cyc f (A++x::B)):Lk f x (B++A) x:=by
 obtain⟨s,t,e,k⟩:=h
 cases A with
 |nil =>
  cases e
  rw[Zs];exact k
 |cons a A' =>
  cases e
  obtain⟨k1,k2⟩:=lk_app.mp k
  exact lk_app.mpr ⟨k2,k1⟩
def cyc_congr(h:∀y∈c,g y=f y)(k:Cyc f c):Cyc g c:=by
 obtain⟨s,t,e,k⟩:=k
 subst e
 exact⟨s,t,rfl,lk_congr (λy hy=>h y (Qh.mpr hy)) k⟩
end lk
section nx
variable{α:Type}[DecidableEq α]
def zbs{A B:List α}{w:α}(h:w∉A):(B++A++[w]).head?=some (nxt (A++w::B) w):=by
 have hi:(A++w::B).idxOf w=A.length:=by
  rw[List.idxOf_append,if_neg h,List.idxOf_cons_self];lia
 unfold nxt
 rw[hi,Qm,Zg]
 cases B with
 |nil =>
  have e:(A.length+1)%(A.length+(([]:List α).length+1))=0:=by simp
  rw[e]
  cases A with
  |nil=>rfl
  |cons a t=>rfl
 | cons b t =>
  have e:(A.length+1)%(A.length+((b::t).length+1))=A.length+1:=Nat.mod_eq_of_lt (by rw[Zg];lia)
  rw[e]
  have:(A++w::b::t).getD (A.length+1) w=b:=by
   rw[Qx,Ur (by exact Zy _ _)]
   have:A.length+1-A.length=1:=by lia
   rw[this];rfl
  rw[this];rfl
def zcd{zs:List α}{c:α}(h:c∈zs)(nd:zs.Nodup):∃A B,zs=A++c::B∧c∉A∧c∉B:=by
 obtain⟨A,B,e⟩:=Ub h
 refine⟨A,B,e,?_,?_⟩
 ·rw [e,Zj] at nd
  exact λz=>nd.2.2 _ z _ Qe rfl
 ·rw [e,Zj,Qz] at nd
  exact nd.2.1.1
def zcz{A B:List α}{c n:α}(h:c∉A):ins (A++c::B) (some c) n=A++c::n::B:=by
 have hi:(A++c::B).idxOf c=A.length:=by
  rw[List.idxOf_append,if_neg h,List.idxOf_cons_self];lia
 show(A++c::B).take ((A++c::B).idxOf c+1)++n::(A++c::B).drop ((A++c::B).idxOf c+1)=_
 rw[hi]
 have e1:(A++c::B).take (A.length+1)=A++[c]:=by
  rw[List.take_append,Qu (by exact Zy _ _)]
  have:A.length+1-A.length=1:=by lia
  rw[this];rfl
 have e2:(A++c::B).drop (A.length+1)=B:=by
  rw[List.drop_append,List.drop_of_length_le (by exact Zy _ _)]
  have:A.length+1-A.length=1:=by lia
  rw[this];rfl
 rw[e1,e2,Qp];rfl
variable{zs:List α}{c n:α}
def mem_ins(hc:c∈zs)(nd:zs.Nodup){w:α}:w∈ins zs (some c) n↔w=n∨w∈zs:=by
 obtain⟨A,B,rfl,h1,h2⟩:=zcd hc nd
 rw[zcz h1]
 simp only[Qf,Qh]
 constructor
 ·rintro (h | h | h | h)
  ·exact .inr (.inl h)
  ·exact .inr (.inr (.inl h))
  ·exact .inl h
  ·exact .inr (.inr (.inr h))
 ·rintro (h | h | h | h)
  ·exact .inr (.inr (.inl h))
  ·exact .inl h
  ·exact .inr (.inl h)
  ·exact .inr (.inr (.inr h))
def zid(hc:c∈zs)(nd:zs.Nodup):(ins zs (some c) n).length=zs.length+1:=by
 obtain⟨A,B,rfl,h1,h2⟩:=zcd hc nd
 rw[zcz h1]
 simp only[Qm,Zg];lia
def nd_ins(hc:c∈zs)(nd:zs.Nodup)(hn:n∉zs):(ins zs (some c) n).Nodup:=by
 obtain⟨A,B,rfl,h1,h2⟩:=zcd hc nd
 rw[zcz h1]
 rw[Zj,Qz]at nd
 rw[Qf,Qh,not_or,not_or]at hn
 obtain⟨nA,⟨ncB,nB⟩,nAB⟩:=nd
 rw[Zj,Qz,Qz]
 refine⟨nA,⟨?_,hn.2.2,nB⟩,λa ha b hb=>?_⟩
 ·rw[Qh,not_or];exact⟨λe=>hn.2.1 e.symm,ncB⟩
 ·rcases Qh.mp hb with z | z
  ·rw[z];exact nAB a ha c Qe
  ·rcases Qh.mp z with y | y
   ·rw[y];exact λe=>hn.1 (e▸ha)
   ·exact nAB a ha b (Qg _ y)
def zgg(hc:c∈zs)(nd:zs.Nodup):nxt (ins zs (some c) n) c=n:=by
 obtain⟨A,B,rfl,h1,h2⟩:=zcd hc nd
 rw[zcz h1]
 have k:=zbs (B:=n::B) h1
 exact(Qs k).symm
def zgf(hc:c∈zs)(nd:zs.Nodup)(hn:n∉zs):nxt (ins zs (some c) n) n=nxt zs c:=by
 obtain⟨A,B,rfl,h1,h2⟩:=zcd hc nd
 rw[zcz h1]
 rw[Qf,Qh,not_or,not_or]at hn
 have e:A++c::n::B=(A++[c])++n::B:=by rw[Qp];rfl
 have hnA:n∉A++[c]:=by
  rw[Qf,not_or,Qb];exact⟨hn.1,hn.2.1⟩
 have k1:=zbs (B:=B) hnA
 have k2:=zbs (B:=B) h1
 rw[←e]at k1
 refine Qs (k1.symm.trans (Eq.trans ?_ k2))
 cases B with
 |cons b t=>rfl
 |nil=>cases A with
  |nil=>rfl
  |cons a t=>rfl
def zge(hc:c∈zs)(nd:zs.Nodup)(hn:n∉zs){w:α}(hw:w∈zs)(pU:w≠c):nxt (ins zs (some c) n) w=nxt zs w:=by
 obtain⟨A,B,rfl,h1,h2⟩:=zcd hc nd
 rw[zcz h1]
 rw[Zj,Qz]at nd
 obtain⟨nA,⟨ncB,nB⟩,nAB⟩:=nd
 rw[Qf,Qh,not_or,not_or]at hn
 rcases Qf.mp hw with h | h
 ·obtain ⟨A1,A2,rfl,g1,g2⟩:=zcd h nA
  have k1:=zbs (A:=A1) (B:=A2++c::n::B) g1
  have k2:=zbs (A:=A1) (B:=A2++c::B) g1
  rw[Qp,Yw,Qp,Yw]
  refine Qs (k1.symm.trans (Eq.trans ?_ k2))
  cases A2<;>rfl
 ·rcases Qh.mp h with z | z
  ·exact absurd z pU
  ·obtain ⟨B1,B2,rfl,g1,g2⟩:=zcd z nB
   have hwA:w∉A:=λq=>nAB _ q _ (Qg _ z) rfl
   have l8:w≠n:=λq=>hn.2.2 (q▸z)
   have m1:w∉A++c::n::B1:=by
    simp only[Qf,Qh,not_or];exact⟨hwA,pU,l8,g1⟩
   have m2:w∉A++c::B1:=by
    simp only[Qf,Qh,not_or];exact⟨hwA,pU,g1⟩
   have k1:=zbs (B:=B2) m1
   have k2:=zbs (B:=B2) m2
   have e1:A++c::n::(B1++w::B2)=(A++c::n::B1)++w::B2:=by rw[Qp];rfl
   have e2:A++c::(B1++w::B2)=(A++c::B1)++w::B2:=by rw[Qp];rfl
   rw[e1,e2]
   refine Qs (k1.symm.trans (Eq.trans ?_ k2))
   cases B2 with
   |cons b t=>rfl
   |nil=>cases A<;>rfl
def nxt_rot(nd:zs.Nodup)(k:Nat){w:α}(hw:w∈zs):nxt (zs.drop k++zs.take k) w=nxt zs w:=by
 obtain⟨A,B,rfl,h1,h2⟩:=zcd hw nd
 have k2:=zbs (B:=B) h1
 by_cases hk:k≤A.length
 ·have e:(A++w::B).drop k++(A++w::B).take k=A.drop k++w::(B++A.take k):=by
   rw[List.drop_append,List.take_append]
   have:k-A.length=0:=by lia
   rw[this,List.drop_zero,List.take_zero,Zs,Qp];rfl
  have k1:=zbs (A:=A.drop k) (B:=B++A.take k) (λz=>h1 (Yy z))
  rw[e]
  refine Qs (k1.symm.trans (Eq.trans ?_ k2))
  rw[Qp B,Zl]
 ·have e:(A++w::B).drop k++(A++w::B).take k=(B.drop (k - A.length - 1)++A)++w::B.take (k - A.length - 1):=by
   rw[List.drop_append,List.take_append,List.drop_of_length_le (by lia),Qu (by lia)]
   have:k-A.length=(k-A.length-1)+1:=by lia
   conv=>lhs;rw[this]
   rw[List.drop_succ_cons,List.take_succ_cons,Wq,Qp]
  have k1:=zbs (A:=B.drop (k-A.length-1)++A) (B:=B.take (k-A.length-1)) (λz=>by
   rcases Qf.mp z with y | y
   ·exact h2 (Yy y)
   ·exact h1 y)
  rw[e]
  refine Qs (k1.symm.trans (Eq.trans ?_ k2))
  rw[←Qp,Zl]
end nx
section
variable{α:Type}[DecidableEq α]
def st(r:α→List α)(s:α×α):α×α:=(s.2,nxt (r s.2) s.1)
inductive Conn(r:α→List α)(x:α):α→Prop
 |refl:Conn r x x
 |step {y z:α}:Conn r x y→z∈r y→Conn r x z
def Conn.trans{r:α→List α}{x y z:α}(a:Conn r x y)(b:Conn r y z):Conn r x z:=by
 induction b with
 |refl=>exact a
 |step _ h ih=>exact .step ih h
def Conn.mono(h:∀x y,y∈r x→y∈r' x)(a:Conn r x y):Conn r' x y:=by
 induction a with
 |refl=>exact .refl
 |step _ hz ih=>exact .step ih (h _ _ hz)
def wt(ns:List α)(r:α→List α)(aa:α→α)(t:α):Int:=(ns.map λx=>if aa x=t then 2+(if r x=[] then 2 else 0)-((r x).length:Int) else 0).sum
def ct(cs:List (List (α×α)))(aa:α→α)(t:α):Int:=(cs.map λc=>if(c.any λs=>decide (aa s.1=t))=true then(2:Int) else 0).sum
structure Cert(ns:List α)(r:α→List α)(cs:List (List (α×α)))(aa:α→α):Prop where
 nd:ns.Nodup
 ro:∀x,x∉ns→r x=[]
 rn:∀x,(r x).Nodup
 ir:∀x,x∉r x
 sy:∀x y,y∈r x→x∈r y
 cf:cs.flatten.Nodup
 cm:∀s,s∈cs.flatten↔s.1∈r s.2
 cy:∀c∈cs,Cyc (st r) c
 ln:∀x∈ns,aa x∈ns
 la:∀x y,y∈r x→aa y=aa x
 co:∀x∈ns,∀y∈ns,aa x=aa y→Conn r x y
 eu:∀x∈ns,wt ns r aa (aa x)+ct cs aa (aa x)=4
variable{ns:List α}{r r':α→List α}{cs:List (List (α×α))}{aa:α→α}
def Cert.inn(C:Cert ns r cs aa){x y:α}(h:y∈r x):x∈ns:=Jr λz=>by rw[C.ro x z]at h;cases h
def Cert.inn'(C:Cert ns r cs aa){x y:α}(h:y∈r x):y∈ns:=C.inn (C.sy x y h)
def sum_upd{g g':α→Int}:∀ {l:List α},l.Nodup→a∈l→(∀ x∈l,x≠a→g' x=g x)→(l.map g').sum=(l.map g).sum+(g' a - g a):=by
 intro l
 induction l with
 |nil=>intro _ h;cases h
 | cons b t ih =>
  intro nd h e
  rw[Qz]at nd
  rw[Qk,Qk,Yo,Yo]
  by_cases hb:b=a
  ·have:(t.map g').sum=(t.map g).sum:=by
    congr 1
    exact Wx λx hx=>e x (Qg _ hx) λz=>nd.1 (by rw[hb,←z];exact hx)
   rw[this,hb];lia
  ·have h':a∈t:=by
    rcases Qh.mp h with z | z
    ·exact absurd z.symm hb
    ·exact z
   rw[ih nd.2 h' λx hx=>e x (Qg _ hx),e b Qe hb];lia
def zdr{β:Type}{g g':β→Int}{l:List β}(h:∀x∈l,g' x=g x):(l.map g').sum=(l.map g).sum:=by
 congr 1;exact Wx h
def zik(C:Cert ns r cs aa){N R:List (List (α×α))}{c0 news:List (α×α)}(hR:∀c∈R,c∈cs)(bJ:cs.flatten.Perm (c0++R.flatten))(hN:N.flatten.Perm (news++c0))(aK:news.Nodup)(cF:∀s∈news,s.1∉r s.2)(gn:∀s:α×α,s.1∈r' s.2↔s∈news∨s.1∈r s.2)(hcy:∀c∈N,Cyc (st r') c)(az:∀s:α×α,s.1∈r s.2→s∉c0→st r' s=st r s) :
  (N++R).flatten.Nodup∧(∀s,s∈(N++R).flatten↔s.1∈r' s.2)∧∀c∈N++R,Cyc (st r') c:=by
 have hp:(N++R).flatten.Perm (news++cs.flatten):=by
  rw[Ug]
  refine(Jg _ hN).trans ?_
  rw[Qp]
  exact Zx _ bJ.symm
 refine⟨?_,λs=>?_,λc hc=>?_⟩
 ·rw [hp.nodup_iff,Zj]
  exact⟨aK,C.cf,λa ha b hb e=>cF a ha (by rw[e];exact(C.cm b).mp hb)⟩
 ·rw[hp.mem_iff,Qf,gn,C.cm]
 ·rcases Qf.mp hc with z | z
  ·exact hcy c z
  ·refine cyc_congr (fun y hy=>?_) (C.cy c (hR c z))
   have hyR:y∈R.flatten:=Wd.mpr ⟨c,z,hy⟩
   refine az y ((C.cm y).mp (bJ.mem_iff.mpr (Qj _ hyR))) λkW=>?_
   have:=bJ.nodup_iff.mp C.cf
   rw[Zj]at this
   exact this.2.2 y kW y hyR rfl
def sum_zero{β:Type}{g:β→Int}:∀{l:List β},(∀x∈l,g x=0)→(l.map g).sum=0:=by
 intro l
 induction l with
 |nil=>intro _;rfl
 |cons a t ih =>
  intro h
  rw[Qk,Yo,h a Qe,ih λx hx=>h x (Qg _ hx)];rfl
def Cert.inc(C:Cert ns r cs aa){c:List (α×α)}(hc:c∈cs){s:α×α}(hs:s∈c):s.1∈r s.2:=(C.cm s).mp (Wd.mpr ⟨c,hc,hs⟩)
def ct_lab{ag:α→α}{t:α}(h:∀c∈cs,∀s∈c,ag s.1=aa s.1):ct cs ag t=ct cs aa t:=by
 refine zdr λc hc=>?_
 have:(c.any λs=>decide (ag s.1=t))=c.any λs=>decide (aa s.1=t):=by
  rw[Wm,Wf,Wf]
  constructor
  ·rintro⟨s,hs,e⟩;exact⟨s,hs,by rwa[h c hc s hs]at e⟩
  ·rintro⟨s,hs,e⟩;exact⟨s,hs,by rw[h c hc s hs];exact e⟩
 rw[this]
def cert_new(C:Cert ns r cs aa){x:α}(hx:x∉ns){ag:α→α}(hl:∀y∈ns,ag y=aa y)(bu:ag x=x):Cert (ns++[x]) r cs ag:=by
 have hrx:r x=[]:=C.ro x hx
 have ne:∀{y},y∈ns→y≠x:=λ{y} hy e=>hx (e▸hy)
 have aA:∀c∈cs,∀s∈c,s.1∈ns:=λc hc s hs=>C.inn' (C.inc hc hs)
 have ku:∀t,ct cs ag t=ct cs aa t:=λt=>ct_lab λc hc s hs=>hl _ (aA c hc s hs)
 have lx:∀y∈ns,aa y≠x:=λy hy e=>hx (e▸C.ln y hy)
 have sC:ct cs aa x=0:=sum_zero λc hc=>if_neg λz=>by
  obtain⟨s,hs,e⟩:=Wf.mp z
  exact lx _ (aA c hc s hs) (of_decide_eq_true e)
 have hw:∀t,wt (ns++[x]) r ag t=wt ns r aa t+if x=t then 4 else 0:=λt=>by
  unfold wt
  rw[Qt,List.sum_append,Qk,Xp,Yo,List.sum_nil]
  congr 1
  ·exact zdr λz hz=>by rw[hl z hz]
  ·rw[bu,hrx];simp
 refine⟨?_,λy hy=>C.ro y λz=>hy (Qv _ z),C.rn,C.ir,C.sy,C.cf,C.cm,C.cy,λy hy=>?_,λy z hz=>?_,λy hy z hz e=>?_,λy hy=>?_⟩
 ·rw [Zj]
  exact⟨C.nd,Qz.mpr ⟨by simp,Yc⟩,λa ha b hb=>by rw[Qb.mp hb];exact ne ha⟩
 ·rcases Qf.mp hy with h | h
  ·rw[hl y h];exact Qv _ (C.ln y h)
  ·rw[Qb.mp h,bu];exact Qj _ Qe
 ·rw[hl _ (C.inn' hz),hl _ (C.inn hz)];exact C.la y z hz
 ·rcases Qf.mp hy with h | h <;> rcases Qf.mp hz with g | g
  ·rw[hl _ h,hl _ g]at e;exact C.co y h z g e
  ·rw [hl _ h,Qb.mp g,bu] at e
   exact absurd e (lx y h)
  ·rw [hl _ g,Qb.mp h,bu] at e
   exact absurd e.symm (lx z g)
  ·rw[Qb.mp h,Qb.mp g];exact .refl
 ·rw [ku,hw]
  rcases Qf.mp hy with h | h
  ·rw [hl _ h,if_neg (fun z=>lx y h z.symm)]
   have:=C.eu y h;lia
  ·rw [Qb.mp h,bu,if_pos rfl,sC]
   have:wt ns r aa x=0:=sum_zero λz hz=>if_neg (lx z hz)
   rw[this];rfl
end
section
variable{β:Type}
def zic:∀{t:List β},g s'=f s→(∀y∈t,g y=f y)→Lk f s t e→Lk g s' t e:=by
 intro t
 cases t with
 |nil=>intro h _ k;exact h.trans k
 |cons a t =>
  intro h hh k
  exact⟨h.trans k.1,lk_congr (λy hy=>hh y (Qh.mpr hy)) k.2⟩
def lk_lab{γ:Type}{f:β→β}{lb:β→γ}{e:β}:∀{t:List β} {s:β},(∀y,y=s∨y∈t→lb (f y)=lb y)→Lk f s t e→∀y∈t,lb y=lb s:=by
 intro t
 induction t with
 |nil=>intro s _ _ y hy;cases hy
 | cons a t ih =>
  intro s h k y hy
  have ha:lb a=lb s:=by rw[←k.1];exact h s (.inl rfl)
  rcases Qh.mp hy with z | z
  ·rw[z];exact ha
  ·rw [← ha]
   exact ih (λy hy=>h y (.inr (Qh.mpr hy))) k.2 y z
def zh7{l m:List Int}(h:l.Perm m):l.sum=m.sum:=by
 induction h with
 |nil=>rfl
 |cons x _ ih=>rw[Yo,Yo,ih]
 |swap x y l=>rw[Yo,Yo,Yo,Yo];omega
 |trans _ _ a b=>exact a.trans b
end
section
variable{α:Type}[DecidableEq α]{ns:List α}{r r':α→List α}{cs:List (List (α×α))}{aa ag:α→α}
def ct_perm{bd:List (List (α×α))}(h:cs.Perm bd)(t:α):ct cs aa t=ct bd aa t:=zh7 (h.map _)
def ze6(c:List (α×α))(t:α):ct (c::cs) aa t=(if(c.any λs=>decide (aa s.1=t))=true then(2:Int) else 0)+ct cs aa t:=by
 unfold ct;rw[List.map_cons,List.sum_cons]
def Cert.one_lab(C:Cert ns r cs aa){c:List (α×α)}(hc:c∈cs){s u:α×α}(hs:s∈c)(hu:u∈c):aa u.1=aa s.1:=by
 obtain⟨A,B,rfl⟩:=Ub hs
 have k:=ze5 (C.cy _ hc)
 have hl:∀y,y=s∨y∈B++A→aa (st r y).1=aa y.1:=λy hy=>by
  have bq:y∈A++s::B:=by
   rcases hy with z | z
   ·rw[z];exact hs
   ·rcases Qf.mp z with q | q
    ·exact Qj _ (Qg _ q)
    ·exact Qv _ q
  exact(C.la _ _ (C.inc hc bq)).symm
 rcases Qf.mp hu with z | z
 ·exact lk_lab (lb:=λy:α×α=>aa y.1) hl k u (Qj _ z)
 ·rcases Qh.mp z with q | q
  ·rw[q]
  ·exact lk_lab (lb:=λy:α×α=>aa y.1) hl k u (Qv _ q)
def ze9{c:List (α×α)}(h:∀s∈c,aa s.1=u)(aW:c≠[]):(c.any λs=>decide (aa s.1=t))=decide (u=t):=by
 rw[Wm,Wf,decide_eq_true_iff]
 constructor
 ·rintro⟨s,hs,e⟩;rw[←h s hs];exact of_decide_eq_true e
 ·intro e
  cases c with
  |nil=>exact absurd rfl aW
  |cons s _=>exact⟨s,Qe,decide_eq_true ((h s Qe).trans e)⟩
def zc1(hc:c∈cs):cs.flatten.Perm (c++(cs.erase c).flatten):=by
 have:=List.Perm.flatten (Kn hc)
 rwa[Wo]at this
def zfg(C:Cert ns r cs aa)(hp:p∈ns)(hx:x∉ns)(h1:r' x=[p])(h3:∀ y,y≠x→y≠p→r' y=r y)(hm:∀ w,w∈r' p↔w=x∨w∈r p)(hn:(r' p).Nodup)(ad:(r' p).length=(r p).length+1)(hl:∀y∈ns,ag y=aa y)(bu:ag x=aa p)(hc:bd.flatten.Nodup∧(∀s,s∈bd.flatten↔s.1∈r' s.2)∧∀c∈bd,Cyc (st r') c)(ku:∀t,ct bd ag t=ct cs aa t+if aa p=t then(if r p=[] then 2 else 0) else 0):Cert (ns++[x]) r' bd ag:=by
 have dM:p≠x:=λe=>hx (e▸hp)
 have hrx:r x=[]:=C.ro x hx
 have ne:∀{y},y∈ns→y≠x:=λ{y} hy e=>hx (e▸hy)
 have sub:∀z y,y∈r z→y∈r' z:=λz y hy=>by
  by_cases hz:z=p
  ·rw[hz]at hy ⊢;exact(hm y).mpr (.inr hy)
  ·rw[h3 z (ne (C.inn hy)) hz];exact hy
 have hw:∀t,wt (ns++[x]) r' ag t=wt ns r aa t-if aa p=t then(if r p=[] then 2 else 0) else 0:=λt=>by
  unfold wt
  rw[Qt,List.sum_append,Qk,Xp,Yo,List.sum_nil,bu,h1]
  have e1:(ns.map λy=>if ag y=t then(2:Int)+(if r' y=[] then 2 else 0)-((r' y).length:Int) else 0).sum=(ns.map λy=>if aa y=t then(2:Int)+(if r' y=[] then 2 else 0)-((r' y).length:Int) else 0).sum :=
   zdr λy hy=>by rw[hl y hy]
  rw[e1,sum_upd (g:=λy=>if aa y=t then(2:Int)+(if r y=[] then 2 else 0)-((r y).length:Int) else 0) C.nd hp (λy hy aZ=>by rw[h3 y (ne hy) aZ])]
  have aW:r' p≠[]:=λe=>by rw[e]at ad;simp at ad
  by_cases ht:aa p=t
  ·simp only [ht,if_true,aW,if_false,ad]
   by_cases gf:r p=[]
   ·simp[gf];omega
   ·simp[gf];omega
  ·simp only[ht,if_false];omega
 refine⟨?_,λy hy=>?_,λy=>?_,λy=>?_,λy z hz=>?_,hc.1,hc.2.1,hc.2.2,λy hy=>?_,λy z hz=>?_,λy hy z hz e=>?_,λy hy=>?_⟩
 ·rw [Zj]
  exact⟨C.nd,Qz.mpr ⟨by simp,Yc⟩,λa ha b hb=>by rw[Qb.mp hb];exact ne ha⟩
 ·rw [Qf,not_or,Qb] at hy
  rw[h3 y hy.2 (λe=>hy.1 (e▸hp))];exact C.ro y hy.1
 ·by_cases dk:y=x
  ·rw[dk,h1];exact Qz.mpr ⟨by simp,Yc⟩
  ·by_cases aZ:y=p
   ·rw[aZ];exact hn
   ·rw[h3 y dk aZ];exact C.rn y
 ·by_cases dk:y=x
  ·rw[dk,h1,Qb];exact Zn dM
  ·by_cases aZ:y=p
   ·rw[aZ,hm,not_or];exact⟨dM,C.ir p⟩
   ·rw[h3 y dk aZ];exact C.ir y
 ·by_cases dk:y=x
  ·rw [dk,h1,Qb] at hz
   rw[hz,dk];exact(hm x).mpr (.inl rfl)
  ·by_cases aZ:y=p
   ·rw [aZ] at hz ⊢
    rcases(hm z).mp hz with q | q
    ·rw[q,h1];exact Qe
    ·exact sub z p (C.sy p z q)
   ·rw [h3 y dk aZ] at hz
    exact sub z y (C.sy y z hz)
 ·rcases Qf.mp hy with h | h
  ·rw[hl y h];exact Qv _ (C.ln y h)
  ·rw[Qb.mp h,bu];exact Qv _ (C.ln p hp)
 ·by_cases dk:y=x
  ·rw [dk,h1,Qb] at hz
   rw[hz,dk,bu,hl p hp]
  ·by_cases aZ:y=p
   ·rw [aZ] at hz ⊢
    rcases(hm z).mp hz with q | q
    ·rw[q,bu,hl p hp]
    ·rw[hl _ (C.inn' q),hl p hp];exact C.la p z q
   ·rw [h3 y dk aZ] at hz
    rw[hl _ (C.inn' hz),hl _ (C.inn hz)];exact C.la y z hz
 ·have xp:Conn r' x p:=.step .refl (by rw [h1];exact Qe)
  rcases Qf.mp hy with h | h<;>rcases Qf.mp hz with g | g
  ·rw[hl _ h,hl _ g]at e;exact(C.co y h z g e).mono sub
  ·rw [hl _ h,Qb.mp g,bu] at e
   rw[Qb.mp g]
   exact .step ((C.co y h p hp e).mono sub) ((hm x).mpr (.inl rfl))
  ·rw [hl _ g,Qb.mp h,bu] at e
   rw[Qb.mp h]
   exact xp.trans ((C.co p hp z g e).mono sub)
  ·rw[Qb.mp h,Qb.mp g];exact .refl
 ·have key:∀ u∈ns,wt (ns++[x]) r' ag (aa u)+ct bd ag (aa u)=4:=fun u hu=>by
   rw[hw,ku]
   have:=C.eu u hu;omega
  rcases Qf.mp hy with h | h
  ·rw[hl _ h];exact key y h
  ·rw[Qb.mp h,bu];exact key p hp
def nxt_one(p:α):nxt [p] p=p:=by
 unfold nxt
 simp
def leaf_mem(C:Cert ns r cs aa)(hp:p∈ns)(hx:x∉ns)(h1:r' x=[p])(h3:∀ y,y≠x→y≠p→r' y=r y)(hm:∀ w,w∈r' p↔w=x∨w∈r p) :
  ∀s:α×α,s.1∈r' s.2↔s∈[(x,p),(p,x)]∨s.1∈r s.2:=λs=>by
 obtain⟨a,b⟩:=s
 have dM:p≠x:=λe=>hx (e▸hp)
 show a∈r' b↔(a,b)∈[(x,p),(p,x)]∨a∈r b
 rw[Qh,Qb,Prod.mk.injEq,Prod.mk.injEq]
 by_cases oF:b=x
 ·subst oF
  rw[h1,C.ro b hx,Qb]
  constructor
  ·intro e;exact .inl (.inr ⟨e,rfl⟩)
  ·rintro ((⟨_,e⟩ | ⟨e,_⟩) | e)
   ·exact absurd e.symm dM
   ·exact e
   ·cases e
 ·by_cases hV:b=p
  ·subst hV
   rw[hm]
   constructor
   ·rintro (e | e)
    ·exact .inl (.inl ⟨e,rfl⟩)
    ·exact .inr e
   ·rintro ((⟨e,_⟩ | ⟨_,e⟩) | e)
    ·exact .inl e
    ·exact absurd e oF
    ·exact .inr e
  ·rw [h3 b oF hV]
   constructor
   ·exact .inr
   ·rintro ((⟨_,e⟩ | ⟨_,e⟩) | e)
    ·exact absurd e hV
    ·exact absurd e oF
    ·exact e
def leaf_nd(dM:p≠x):([(x,p),(p,x)]:List (α×α)).Nodup:=by
 rw[Qz,Qb]
 exact⟨λe=>dM (Jd e).1.symm,Qz.mpr ⟨by simp,Yc⟩⟩
def leaf_no(C:Cert ns r cs aa)(hx:x∉ns):∀s∈([(x,p),(p,x)]:List (α×α)),s.1∉r s.2:=λs hs h=>by
 rcases Qh.mp hs with e | e
 ·rw[e]at h;exact hx (C.inn' h)
 ·rw[Qb.mp e]at h;exact hx (C.inn h)
def cert_leaf0(C:Cert ns r cs aa)(hp:p∈ns)(hx:x∉ns)(o7:r p=[])(h1:r' x=[p])(h2:r' p=[x])(h3:∀ y,y≠x→y≠p→r' y=r y)(hl:∀ y∈ns,ag y=aa y)(bu:ag x=aa p) :
  Cert (ns++[x]) r' ([(x,p),(p,x)]::cs) ag:=by
 have dM:p≠x:=λe=>hx (e▸hp)
 have hm:∀w,w∈r' p↔w=x∨w∈r p:=λw=>by rw[h2,o7,Qb];simp
 refine zfg C hp hx h1 h3 hm (by rw[h2];exact Qz.mpr ⟨by simp,Yc⟩) (by rw[h2,o7];rfl) hl bu ?_ λt=>?_
 ·refine zik (N:=[[(x,p),(p,x)]]) (R:=cs) (c0:=[]) (news:=[(x,p),(p,x)]) C (fun c h=>h) (by rw [Wq]) (by simp) (leaf_nd dM) (leaf_no C hx) (leaf_mem C hp hx h1 h3 hm) (fun c hc=>?_) fun s hs _=>?_
  ·rw [Qb.mp hc]
   refine⟨(x,p),[(p,x)],rfl,?_,?_⟩
   ·show (p,nxt (r' p) x)=(p,x)
    rw[h2,nxt_one]
   ·show (x,nxt (r' x) p)=(x,p)
    rw[h1,nxt_one]
  ·have qk:s.2≠x:=fun e=>hx (e ▸ C.inn hs)
   have br:s.2≠p:=λe=>by rw[e,o7]at hs;cases hs
   unfold st;rw[h3 s.2 qk br]
 ·rw [ze6,ze9 (u:=aa p) (fun s hs=>?_) (by simp)]
  ·have:ct cs ag t=ct cs aa t:=ct_lab fun c hc s hs=>hl _ (C.inn' (C.inc hc hs))
   rw[this]
   simp only[decide_eq_true_eq,o7,if_true]
   lia
  ·rcases Qh.mp hs with e | e
   ·rw[e];exact bu
   ·rw[Qb.mp e];exact hl p hp
def cert_leaf(C:Cert ns r cs aa)(hp:p∈ns)(hx:x∉ns)(hc:c∈r p)(h1:r' x=[p])(h2:r' p=ins (r p) (some c) x)(h3:∀ y,y≠x→y≠p→r' y=r y)(hl:∀ y∈ns,ag y=aa y)(bu:ag x=aa p) :
  ∃bd,Cert (ns++[x]) r' bd ag:=by
 have dM:p≠x:=λe=>hx (e▸hp)
 have gH:x∉r p:=λh=>hx (C.inn' h)
 have hm:∀w,w∈r' p↔w=x∨w∈r p:=λw=>by rw[h2];exact mem_ins hc (C.rn p)
 obtain⟨c1,bV,ck⟩:=Wd.mp ((C.cm (c,p)).mpr hc)
 obtain⟨A,B,fU⟩:=Ub ck
 have k:=ze5 (fU▸C.cy c1 bV)
 have old:∀y∈c1,y.1∈r y.2:=λy hy=>C.inc bV hy
 have nd1:c1.Nodup:=by
  have:=(zc1 bV).nodup_iff.mp C.cf
  rw[Zj]at this
  exact this.1
 have az:∀s:α×α,s.1∈r s.2→s≠(c,p)→st r' s=st r s:=λs hs aW=>by
  have qk:s.2≠x:=λe=>hx (e▸C.inn hs)
  by_cases br:s.2=p
  ·unfold st
   rw[br,h2]
   rw[br]at hs
   rw[zge hc (C.rn p) gH hs (λe=>aW (Km e br))]
  ·unfold st;rw[h3 s.2 qk br]
 have inBA:∀y∈B++A,y∈c1∧y≠(c,p):=λy hy=>by
  rw[fU]at nd1 ⊢
  rw[Zj,Qz]at nd1
  rcases Qf.mp hy with z | z
  ·exact⟨Qj _ (Qg _ z),λe=>nd1.2.1.1 (e▸z)⟩
  ·exact⟨Qv _ z,λe=>nd1.2.2 y z (c,p) Qe e⟩
 refine⟨[(c,p)::(p,x)::(x,p)::(B++A)]++cs.erase c1,zfg C hp hx h1 h3 hm (by rw[h2];exact nd_ins hc (C.rn p) gH) (by rw[h2];exact zid hc (C.rn p)) hl bu ?_ λt=>?_⟩
 ·refine zik (c0:=c1) (news:=[(x,p),(p,x)]) C (fun c h=>Xz h) (zc1 bV) ?_ (leaf_nd dM) (leaf_no C hx) (leaf_mem C hp hx h1 h3 hm) (fun c' bZ=>?_) fun s hs hn=>az s hs fun e=>hn (e ▸ ck)
  ·rw [fU]
   refine Kq.mpr λa=>?_
   simp only[Wo,Kj,Zs,Xb,Xv,List.count_nil]
   lia
  ·rw [Qb.mp bZ]
   refine⟨(c,p),_,rfl,?_,?_,zic (f:=st r) (s:=(c,p)) ?_ (λy hy=>az y (old y (inBA y hy).1) (inBA y hy).2) k⟩
   ·show (p,nxt (r' p) c)=(p,x)
    rw[h2,zgg hc (C.rn p)]
   ·show (x,nxt (r' x) p)=(x,p)
    rw[h1,nxt_one]
   ·show (p,nxt (r' p) x)=(p,nxt (r p) c)
    rw[h2,zgf hc (C.rn p) gH]
 ·have aW:r p≠[]:=Jw hc
  have e2:ct cs aa t=ct (c1::cs.erase c1) aa t:=ct_perm (Kn bV) t
  have e3:ct (cs.erase c1) ag t=ct (cs.erase c1) aa t:=ct_lab λc h s hs=>hl _ (C.inn' (C.inc (Xz h) hs))
  have lc:∀s∈c1,aa s.1=aa p:=λs hs=>(C.one_lab bV ck hs).trans (C.la p c hc)
  rw[e2,ze6,Xx,ze6,e3,ze9 (u:=aa p) lc (Jw ck),ze9 (u:=aa p) (λs hs=>?_) (by simp),if_neg aW]
  ·simp
  ·rcases Qh.mp hs with e | hs
   ·rw[e];exact(hl _ (C.inn' hc)).trans (C.la p c hc)
   ·rcases Qh.mp hs with e | hs
    ·rw[e];exact hl p hp
    ·rcases Qh.mp hs with e | hs
     ·rw[e];exact bu
     ·rw[hl _ (C.inn' (old s (inBA s hs).1))];exact lc s (inBA s hs).1
def cert_tie(C:Cert ns r cs aa)(bV:c1∈cs)(ck:(c,p)∈c1)(cj:(a,o)∈c1)(jZ:o≠p)(cF:o∉r p)(h1:r' p=ins (r p) (some c) o)(h2:r' o=ins (r o) (some a) p)(h3:∀ y,y≠p→y≠o→r' y=r y) :
  ∃bd,Cert ns r' bd aa:=by
 have hc:c∈r p:=C.inc bV ck
 have ha:a∈r o:=C.inc bV cj
 have hp:p∈ns:=C.inn hc
 have ho:o∈ns:=C.inn ha
 have oj:p∉r o:=λh=>cF (C.sy o p h)
 have gK:∀w,w∈r' p↔w=o∨w∈r p:=λw=>by rw[h1];exact mem_ins hc (C.rn p)
 have bh:∀w,w∈r' o↔w=p∨w∈r o:=λw=>by rw[h2];exact mem_ins ha (C.rn o)
 have eI:aa o=aa p:=by
  rw[←C.la o a ha,←C.la p c hc];exact C.one_lab bV ck cj
 obtain⟨A,B,fU⟩:=Ub ck
 have k:=ze5 (fU▸C.cy c1 bV)
 have old:∀y∈c1,y.1∈r y.2:=λy hy=>C.inc bV hy
 have nd1:c1.Nodup:=by
  have:=(zc1 bV).nodup_iff.mp C.cf
  rw[Zj]at this
  exact this.1
 have qu:(a,o)∈B++A:=by
  rw[fU]at cj
  rcases Qf.mp cj with z | z
  ·exact Qj _ z
  ·rcases Qh.mp z with q | q
   ·exact absurd (Jd q).2 jZ
   ·exact Qv _ q
 obtain⟨A2,B2,ni⟩:=Ub qu
 rw[ni]at k
 obtain⟨k1,k2⟩:=lk_app.mp k
 have pm:c1.Perm ((c,p)::(A2++(a,o)::B2)):=by
  rw[fU,←ni]
  refine Kq.mpr λa=>?_
  simp only[Xb,Xv]
  lia
 have nM:=pm.nodup_iff.mp nd1
 rw[Qz,Zj,Qz]at nM
 obtain⟨n1,n2,⟨n3,n4⟩,n5⟩:=nM
 have inA:∀y∈A2,y∈c1∧y≠(c,p)∧y≠(a,o):=λy hy=>⟨pm.mem_iff.mpr (Qg _ (Qv _ hy)),λe=>n1 (e▸Qv _ hy),λe=>n5 y hy (a,o) Qe e⟩
 have inB:∀y∈B2,y∈c1∧y≠(c,p)∧y≠(a,o):=λy hy=>⟨pm.mem_iff.mpr (Qg _ (Qj _ (Qg _ hy))),λe=>n1 (e▸Qj _ (Qg _ hy)),λe=>n3 (e▸hy)⟩
 have az:∀s:α×α,s.1∈r s.2→s≠(c,p)→s≠(a,o)→st r' s=st r s:=λs hs eF bg=>by
  by_cases br:s.2=p
  ·unfold st
   rw[br,h1]
   rw[br]at hs
   rw[zge hc (C.rn p) cF hs (λe=>eF (Km e br))]
  ·by_cases dW:s.2=o
   ·unfold st
    rw[dW,h2]
    rw[dW]at hs
    rw[zge ha (C.rn o) oj hs (λe=>bg (Km e dW))]
   ·unfold st;rw[h3 s.2 br dW]
 have sub:∀z y,y∈r z→y∈r' z:=λz y hy=>by
  by_cases hz:z=p
  ·rw[hz]at hy ⊢;exact(gK y).mpr (.inr hy)
  ·by_cases dj:z=o
   ·rw[dj]at hy ⊢;exact(bh y).mpr (.inr hy)
   ·rw[h3 z hz dj];exact hy
 have gn:∀s:α×α,s.1∈r' s.2↔s∈[(o,p),(p,o)]∨s.1∈r s.2:=λs=>by
  obtain⟨u,b⟩:=s
  show u∈r' b↔(u,b)∈[(o,p),(p,o)]∨u∈r b
  rw[Qh,Qb,Prod.mk.injEq,Prod.mk.injEq]
  by_cases hV:b=p
  ·subst hV
   rw[gK]
   constructor
   ·rintro (e | e)
    ·exact .inl (.inl ⟨e,rfl⟩)
    ·exact .inr e
   ·rintro ((⟨e,_⟩ | ⟨_,e⟩) | e)
    ·exact .inl e
    ·exact absurd e.symm jZ
    ·exact .inr e
  ·by_cases sE:b=o
   ·subst sE
    rw[bh]
    constructor
    ·rintro (e | e)
     ·exact .inl (.inr ⟨e,rfl⟩)
     ·exact .inr e
    ·rintro ((⟨_,e⟩ | ⟨e,_⟩) | e)
     ·exact absurd e hV
     ·exact .inl e
     ·exact .inr e
   ·rw [h3 b hV sE]
    constructor
    ·exact .inr
    ·rintro ((⟨_,e⟩ | ⟨_,e⟩) | e)
     ·exact absurd e hV
     ·exact absurd e sE
     ·exact e
 have nnd:([(o,p),(p,o)]:List (α×α)).Nodup:=by
  rw[Qz,Qb]
  exact⟨λe=>jZ (Jd e).1,Qz.mpr ⟨by simp,Yc⟩⟩
 have fu:=zik (N:=[(c,p)::(p,o)::B2,(a,o)::(o,p)::A2]) (R:=cs.erase c1) (c0:=c1) (news:=[(o,p),(p,o)]) (r':=r') C (λc h=>Xz h) (zc1 bV) (by
   refine List.Perm.trans ?_ (Zx _ pm.symm)
   refine Kq.mpr λa=>?_
   simp only[Wo,Kj,Zs,Xb,Xv,List.count_nil]
   lia) nnd (λs hs h=>by
    rcases Qh.mp hs with e | e
    ·rw[e]at h;exact cF h
    ·rw[Qb.mp e]at h;exact oj h) gn (λc' bZ=>by
   rcases Qh.mp bZ with e | e
   ·rw [e]
    refine⟨(c,p),_,rfl,?_,zic (f:=st r) (s:=(a,o)) ?_ (λy hy=>az y (old y (inB y hy).1) (inB y hy).2.1 (inB y hy).2.2) k2⟩
    ·show (p,nxt (r' p) c)=(p,o)
     rw[h1,zgg hc (C.rn p)]
    ·show (o,nxt (r' o) p)=(o,nxt (r o) a)
     rw[h2,zgf ha (C.rn o) oj]
   ·rw [Qb.mp e]
    refine⟨(a,o),_,rfl,?_,zic (f:=st r) (s:=(c,p)) ?_ (λy hy=>az y (old y (inA y hy).1) (inA y hy).2.1 (inA y hy).2.2) k1⟩
    ·show (o,nxt (r' o) a)=(o,p)
     rw[h2,zgg ha (C.rn o)]
    ·show (p,nxt (r' p) o)=(p,nxt (r p) c)
     rw[h1,zgf hc (C.rn p) cF]) λs hs hn=>az s hs (λe=>hn (e▸ck)) λe=>hn (e▸cj)
 refine⟨_,C.nd,λy hy=>?_,λy=>?_,λy=>?_,λy z hz=>?_,fu.1,fu.2.1,fu.2.2,C.ln,λy z hz=>?_,λy hy z hz e=>(C.co y hy z hz e).mono sub,λy hy=>?_⟩
 ·rw[h3 y (λe=>hy (e▸hp)) (λe=>hy (e▸ho))];exact C.ro y hy
 ·by_cases aZ:y=p
  ·rw[aZ,h1];exact nd_ins hc (C.rn p) cF
  ·by_cases cD:y=o
   ·rw[cD,h2];exact nd_ins ha (C.rn o) oj
   ·rw[h3 y aZ cD];exact C.rn y
 ·by_cases aZ:y=p
  ·rw[aZ,gK,not_or];exact⟨Zn jZ,C.ir p⟩
  ·by_cases cD:y=o
   ·rw[cD,bh,not_or];exact⟨jZ,C.ir o⟩
   ·rw[h3 y aZ cD];exact C.ir y
 ·by_cases aZ:y=p
  ·rw [aZ] at hz ⊢
   rcases(gK z).mp hz with q | q
   ·rw[q];exact(bh p).mpr (.inl rfl)
   ·exact sub z p (C.sy p z q)
  ·by_cases cD:y=o
   ·rw [cD] at hz ⊢
    rcases(bh z).mp hz with q | q
    ·rw[q];exact(gK o).mpr (.inl rfl)
    ·exact sub z o (C.sy o z q)
   ·rw [h3 y aZ cD] at hz
    exact sub z y (C.sy y z hz)
 ·by_cases aZ:y=p
  ·rw [aZ] at hz ⊢
   rcases(gK z).mp hz with q | q
   ·rw[q];exact eI
   ·exact C.la p z q
  ·by_cases cD:y=o
   ·rw [cD] at hz ⊢
    rcases(bh z).mp hz with q | q
    ·rw[q];exact eI.symm
    ·exact C.la o z q
   ·rw [h3 y aZ cD] at hz
    exact C.la y z hz
 ·have e2:ct cs aa (aa y)=ct (c1::cs.erase c1) aa (aa y):=ct_perm (Kn bV) _
  have lc:∀s∈c1,aa s.1=aa p:=λs hs=>(C.one_lab bV ck hs).trans (C.la p c hc)
  have l1:∀s∈(c,p)::(p,o)::B2,aa s.1=aa p:=λs hs=>by
   rcases Qh.mp hs with e | hs
   ·rw[e];exact C.la p c hc
   ·rcases Qh.mp hs with e | hs
    ·rw[e]
    ·exact lc s (inB s hs).1
  have l2:∀s∈(a,o)::(o,p)::A2,aa s.1=aa p:=λs hs=>by
   rcases Qh.mp hs with e | hs
   ·rw[e];exact(C.la o a ha).trans eI
   ·rcases Qh.mp hs with e | hs
    ·rw[e];exact eI
    ·exact lc s (inA s hs).1
  have ku:ct ([(c,p)::(p,o)::B2,(a,o)::(o,p)::A2]++cs.erase c1) aa (aa y)=ct cs aa (aa y)+if aa p=aa y then 2 else 0:=by
   rw[e2,ze6,Yw,ze6,Yw,ze6,Wq,ze9 lc (Jw ck),ze9 l1 (by simp),ze9 l2 (by simp)]
   simp only[decide_eq_true_eq]
   split<;>lia
  have hw:wt ns r' aa (aa y)=wt ns r aa (aa y)-if aa p=aa y then 2 else 0:=by
   have aI:∀{zs:List α} {w n:α},w∈zs→zs.Nodup→ins zs (some w) n≠[]:=λ{zs w n} hw nd e=>by
    have:=zid (n:=n) hw nd
    rw[e]at this;simp at this
   unfold wt
   have s1:=sum_upd (g:=λx=>if aa x=aa y then(2:Int)+(if r x=[] then 2 else 0)-((r x).length:Int) else 0)
    (g':=λx=>if x=p then(if aa p=aa y then(2:Int)+(if r' p=[] then 2 else 0)-((r' p).length:Int) else 0) else if aa x=aa y then(2:Int)+(if r x=[] then 2 else 0)-((r x).length:Int) else 0) C.nd hp (λx _ hx=>if_neg hx)
   have s2:=sum_upd (g:=λx=>if x=p then(if aa p=aa y then(2:Int)+(if r' p=[] then 2 else 0)-((r' p).length:Int) else 0) else if aa x=aa y then(2:Int)+(if r x=[] then 2 else 0)-((r x).length:Int) else 0)
    (g':=fun x=>if aa x=aa y then (2:Int)+(if r' x=[] then 2 else 0) - ((r' x).length:Int) else 0) C.nd ho (fun x _ hx=>by
     by_cases gH:x=p
     ·rw[if_pos gH,gH]
     ·rw[if_neg gH,h3 x gH hx])
   rw[s2,s1]
   simp only[if_true,jZ,if_false,eI,h1,h2,aI hc (C.rn p),aI ha (C.rn o),zid hc (C.rn p),zid ha (C.rn o),Jw hc,Jw ha]
   by_cases ht:aa p=aa y
   ·simp only[ht,if_true];lia
   ·simp only[ht,if_false];lia
  rw[ku,hw]
  have:=C.eu y hy
  lia
end
section
variable{α:Type}[DecidableEq α]
def Good(rs:Rs α):Prop:=∃cs aa,Cert (rs.map (·.1)) (row rs) cs aa
def cyc_next{β:Type}{f:β→β}{c:List β}(h:Cyc f c){s:β}(hs:s∈c):f s∈c:=by
 obtain⟨A,B,rfl⟩:=Ub hs
 have k:=ze5 h
 cases e:B++A with
 |nil =>
  rw[e]at k
  rw[show f s=s from k];exact hs
 |cons a t =>
  rw[e]at k
  rw[k.1]
  have:a∈B++A:=by rw[e];exact Qe
  rcases Qf.mp this with z | z
  ·exact Qj _ (Qg _ z)
  ·exact Qv _ z
variable{rs:Rs α}
def zfd(nd:(rs.map (·.1)).Nodup){p:α×List α}(h:p∈rs):row rs p.1=p.2:=by
 unfold row
 induction rs with
 |nil=>cases h
 | cons a t ih =>
  rw[Qk,Qz]at nd
  rcases Qh.mp h with z | z
  ·subst z;rw[Ui (by simp)];rfl
  ·rw [Uj]
   ·exact ih nd.2 z
   ·intro q
    exact nd.1 (by rw[of_decide_eq_true q];exact Ql.mpr ⟨p,z,rfl⟩)
def zcu(h:x∉rs.map (·.1)):row rs x=[]:=by
 unfold row
 rw[List.find?_eq_none.mpr]
 ·rfl
 ·intro p hp q
  exact h (of_decide_eq_true q▸Ql.mpr ⟨p,hp,rfl⟩)
def zda(nd:(rs.map (·.1)).Nodup){s:α×α}:IsSt rs s↔s.1∈row rs s.2:=by
 constructor
 ·rintro ⟨p,hp,e,h⟩
  rw[←e,zfd nd hp];exact h
 ·intro h
  by_cases hx:s.2∈rs.map (·.1)
  ·obtain ⟨p,hp,e⟩:=Ql.mp hx
   have e':p.1=s.2:=e
   rw[←e',zfd nd hp]at h
   exact⟨p,hp,e',h⟩
  ·rw[zcu hx]at h;cases h
def zcy(x:α)(rr:List α):(zbh rs x rr).map (·.1)=rs.map (·.1):=by
 unfold zbh
 rw[Zp]
 refine Wx λp _=>?_
 show(if p.1=x then(p.1,rr) else p).1=p.1
 split<;>rfl
def zcp{x:α}{rr:List α}(h:x∈rs.map (·.1)):row (zbh rs x rr) x=rr:=by
 unfold row zbh
 induction rs with
 |nil=>cases h
 | cons a t ih =>
  rw[Qk]
  by_cases hx:a.1=x
  ·rw[if_pos hx,Ui (by simpa using hx)];rfl
  ·rw [if_neg hx,Uj (by simpa using hx)]
   refine ih ?_
   rw[Qk]at h
   rcases Qh.mp h with z | z
   ·exact absurd z.symm hx
   ·exact z
def zce{x y:α}{rr:List α}(h:y≠x):row (zbh rs x rr) y=row rs y:=by
 unfold row zbh
 induction rs with
 |nil=>rfl
 | cons a t ih =>
  rw[Qk]
  by_cases hy:a.1=y
  ·have hx:a.1≠x:=fun e=>h (hy ▸ e)
   rw[if_neg hx,Ui (by simpa using hy),Ui (by simpa using hy)]
  ·have h1:(if a.1=x then (a.1,rr) else a).1=a.1:=by split <;> rfl
   rw[Uj (by rw[h1];simpa using hy),Uj (by simpa using hy)]
   exact ih
def row_snoc{x:α}(h:x∉rs.map (·.1)):row (rs++[(x,[])])=row rs:=by
 funext y
 unfold row
 rw[List.find?_append]
 cases e:rs.find? λp=>decide (p.1=y) with
 |some p=>rfl
 |none =>
  rw[Option.none_or]
  by_cases hy:x=y
  ·rw[Ui (by simpa using hy)];rfl
  ·rw[Uj (by simpa using hy)];rfl
theorem zbm:Gen (Good (α:=α)) where
 clo:=λrs ⟨cs,aa,C⟩ s hs=>by
  obtain⟨c,hc,h⟩:=Wd.mp ((C.cm s).mpr ((zda C.nd).mp hs))
  exact(zda C.nd).mpr ((C.cm _).mp (Wd.mpr ⟨c,hc,cyc_next (C.cy c hc) h⟩))
 nd:=λrs ⟨cs,aa,C⟩=>C.nd
 sub:=λrs ⟨cs,aa,C⟩ p hp=>by
  have e:=zfd C.nd hp
  exact⟨e▸C.rn p.1,λx hx=>C.inn' (x:=p.1) (by rw[e];exact hx)⟩
 sy:=λrs ⟨cs,aa,C⟩ p hp x hx=>C.sy p.1 x (by rw[zfd C.nd hp];exact hx)
 nil:=by
  refine⟨[],id,⟨Yc,λ_ _=>rfl,λ_=>Yc,λ_ h=>?_,λ_ _ h=>?_,Yc,λs=>⟨λh=>?_,λh=>?_⟩,λc h=>?_,λ_ h=>?_,λ_ _ h=>?_,λ_ h=>?_,λ_ h=>?_⟩⟩
  ·exact absurd h (by simp[row])
  ·exact absurd h (by simp[row])
  ·cases h
  ·exact absurd h (by simp[row])
  ·cases h
  ·cases h
  ·exact absurd h (by simp[row])
  ·cases h
  ·cases h
 new:=λrs x ⟨cs,aa,C⟩ hx=>by
  refine⟨cs,λy=>if y=x then x else aa y,?_⟩
  rw[row_snoc hx,Qt]
  exact cert_new C hx (λy hy=>if_neg (λe:y=x=>hx (e▸hy))) (if_pos rfl)
 leaf:=λrs x p c ⟨cs,aa,C⟩ hx hp hc hU=>by
  have cb:p.1∈rs.map (·.1):=Ql.mpr ⟨p,hp,rfl⟩
  have dM:p.1≠x:=λe=>hx (e▸cb)
  have e0:(zbh (zbh (rs++[(x,[])]) p.1 (ins p.2 c x)) x [p.1]).map (·.1)=rs.map (·.1)++[x]:=by rw[zcy,zcy,Qt];rfl
  have pS:x∈(zbh (rs++[(x,[])]) p.1 (ins p.2 c x)).map (·.1):=by rw[zcy,Qt];exact Qj _ Qe
  have qC:p.1∈(rs++[(x,([]:List α))]).map (·.1):=by rw[Qt];exact Qv _ cb
  have r1:row (zbh (zbh (rs++[(x,[])]) p.1 (ins p.2 c x)) x [p.1]) x=[p.1]:=zcp pS
  have r2:row (zbh (zbh (rs++[(x,[])]) p.1 (ins p.2 c x)) x [p.1]) p.1=ins p.2 c x:=by rw[zce dM,zcp qC]
  have r3:∀y,y≠x→y≠p.1→row (zbh (zbh (rs++[(x,[])]) p.1 (ins p.2 c x)) x [p.1]) y=row rs y:=λy h1 h2=>by rw[zce h1,zce h2,row_snoc hx]
  have er:=zfd C.nd hp
  have hl:∀y∈rs.map (·.1),(λy=>if y=x then aa p.1 else aa y) y=aa y:=λy hy=>if_neg (λe:y=x=>hx (e▸hy))
  have bu:(λy=>if y=x then aa p.1 else aa y) x=aa p.1:=if_pos rfl
  unfold Good
  rw[e0]
  cases c with
  |none =>
   have h0:=hU rfl
   refine⟨_,_,cert_leaf0 C cb hx (er.trans h0) r1 ?_ r3 hl bu⟩
   rw[r2,h0];rfl
  |some y =>
   have hy:=hc y rfl
   obtain⟨bd,C'⟩:=cert_leaf C cb hx (c:=y) (by rw[er];exact hy) r1 (by rw[r2,er]) r3 hl bu
   exact⟨bd,_,C'⟩
 tie:=λrs c p n ⟨cs,aa,C⟩ hp hc h1 h2=>by
  have er:=zfd C.nd hp
  obtain⟨c1,bV,ck⟩:=Wd.mp ((C.cm (c,p.1)).mpr (by rw[er];exact hc))
  have cj:∀n,itr rs (c,p.1) n∈c1:=λn=>by
   induction n with
   |zero=>exact ck
   |succ n ih=>exact cyc_next (C.cy c1 bV) ih
  have qq:=cj n
  generalize itr rs (c,p.1) n=q at h1 h2 qq
  have cb:p.1∈rs.map (·.1):=Ql.mpr ⟨p,hp,rfl⟩
  have lE:q.2∈rs.map (·.1):=C.inn (C.inc bV qq)
  unfold Good
  rw[zcy,zcy]
  obtain⟨bd,C'⟩:=cert_tie (r':=row (zbh (zbh rs p.1 (ins p.2 (some c) q.2)) q.2 (ins (row rs q.2) (some q.1) p.1))) C bV ck (a:=q.1) (o:=q.2) qq h1 (by rw[er];exact h2)
   (by rw[zce (Zn h1),zcp cb,er]) (by rw[zcp (by rw[zcy];exact lE)]) (λy h3 h4=>by rw[zce h4,zce h3])
  exact⟨bd,aa,C'⟩
end
section
variable{α:Type}[DecidableEq α]{ns px:List α}{r r':α→List α}{cs:List (List (α×α))}{aa:α→α}
def rot_perm(zs:List α)(k:Nat):(zs.drop k++zs.take k).Perm zs:=by
 refine Wc.trans ?_
 rw[Zl]
def zgw(C:Cert ns r cs aa)(hn:px.Perm ns)(hr:∀x,∃k,r' x=(r x).drop k++(r x).take k):Cert px r' cs aa:=by
 have hp:∀x,(r' x).Perm (r x):=λx=>by obtain⟨k,e⟩:=hr x;rw[e];exact rot_perm _ k
 have hm:∀{x y},y∈r' x↔y∈r x:=λ{x y}=>(hp x).mem_iff
 have az:∀s:α×α,s.1∈r s.2→st r' s=st r s:=λs hs=>by
  obtain⟨k,e⟩:=hr s.2
  unfold st;rw[e,nxt_rot (C.rn _) k hs]
 have hw:∀t,wt px r' aa t=wt ns r aa t:=λt=>by
  unfold wt
  rw[zh7 (hn.map _)]
  refine zdr λx _=>?_
  have h1:=(hp x).length_eq
  have h2:(r' x=[])=(r x=[]):=propext ⟨λe=>by rw[e]at h1;exact List.eq_nil_of_length_eq_zero h1.symm,λe=>by rw[e]at h1;exact List.eq_nil_of_length_eq_zero h1⟩
  simp only[h1,h2]
 refine⟨hn.nodup_iff.mpr C.nd,λx hx=>?_,λx=>(hp x).nodup_iff.mpr (C.rn x),λx h=>C.ir x (hm.mp h),λx y h=>hm.mpr (C.sy x y (hm.mp h)),C.cf,λs=>(C.cm s).trans hm.symm,λc hc=>?_,λx hx=>hn.mem_iff.mpr (C.ln x (hn.mem_iff.mp hx)),λx y h=>C.la x y (hm.mp h),λx hx y hy e=>?_,λx hx=>?_⟩
 ·have:=hp x
  rw[C.ro x (λz=>hx (hn.mem_iff.mpr z))]at this
  exact List.Perm.eq_nil this
 ·exact cyc_congr (λy hy=>az y (C.inc hc hy)) (C.cy c hc)
 ·exact(C.co x (hn.mem_iff.mp hx) y (hn.mem_iff.mp hy) e).mono λ_ _ h=>hm.mpr h
 ·rw[hw];exact C.eu x (hn.mem_iff.mp hx)
end
end Wb
end
section
namespace K21
open PySem L2 Wb
abbrev sSteps:Stmt:=top 8
structure BAt(H:Hp)(b:Nc)(bs:List ((Str×Str)×Addr))(r:Str→List Str):Prop where
 dc:H b=some (.dT (bs.map λe=>(kP e.1,V.ref e.2)))
 tp:∀e∈bs,H e.2=some (.tup [.str (st r e.1).1,.str (st r e.1).2])
 nd:(bs.map (·.1)).Nodup
def BAt.keep{H H':Hp}{b:Nc}{bs:List ((Str×Str)×Addr)}{r:Str→List Str}{xs:Nk}(h:BAt H b bs r)(k:Keep xs H H')(hb:b∉xs)(ht:∀e∈bs,e.2∉xs):BAt H' b bs r :=
 ⟨k _ _ h.dc hb,λe he=>k _ _ (h.tp e he) (ht e he),h.nd⟩
def kP_inj{s u:Str×Str}(h:kP s=kP u):s=u:=by
 unfold kP at h
 injection h with h1 h2
 injection h2 with h2 _
 exact Km (Ka h1) (Ka h2)
def valT_out{bs:List ((Str×Str)×Addr)}{s:Str×Str}(h:s∉bs.map (·.1)):valV (bs.map λe=>(kP e.1,V.ref e.2)) (kP s)=none:=by
 induction bs with
 |nil=>rfl
 |cons a t ih =>
  rw[Qk,Qh,not_or]at h
  rw[Qk,zby]
  ·exact ih h.2
  ·intro q;exact h.1 (kP_inj q).symm
def valT_in{bs:List ((Str×Str)×Addr)}(nd:(bs.map (·.1)).Nodup){e:(Str×Str)×Addr}(h:e∈bs):valV (bs.map fun e=>(kP e.1,V.ref e.2)) (kP e.1)=some (.ref e.2):=by
 induction bs with
 |nil=>cases h
 | cons a t ih =>
  rw[Qk,Qz]at nd
  rw[Qk]
  rcases Qh.mp h with z | z
  ·subst z;exact zc4 rfl
  ·rw [zby]
   ·exact ih nd.2 z
   ·intro q
    exact nd.1 (by rw[kP_inj q];exact Ql.mpr ⟨e,z,rfl⟩)
inductive IspSteps(vs:List V)(H:Hp)(Q:VK):Prop
 |mk (d:Nc) (es:List Ent) (h0:vs=[.ref d]) (h1:TAt H d es) (h2:es.length≤60) (h3:(∀e∈es,e.2.1.Nodup∧e.2.1.length≤100)) (h4:∀(b:Nc) (bs:List ((Str×Str)×Addr)) (H':Hp),BAt H' b bs (row (rsOf es))→(∀s,s∈bs.map (·.1)↔s.1∈row (rsOf es) s.2)→bs.length≤10000→H b=none→Keep [] H H'→Q (.ref b) H'):IspSteps vs H Q
def spSteps:Sp:=λvs H Q _=>IspSteps vs H Q
def pidx(n j:Nat):Nat:=if j=0 then n-1 else j-1
def atI_prev{zs:List V}{j:Nat}(hj:j<zs.length):atI zs ((j:Int)-1)=zs[pidx zs.length j]?:=by
 unfold pidx
 by_cases h:j=0
 ·subst h
  rw[if_pos rfl]
  unfold atI ixN
  have e1:¬(0:Int)≤((0:Nat):Int)-1:=by lia
  have e2:-(zs.length:Int)≤((0:Nat):Int)-1:=by lia
  rw[if_neg e1,if_pos e2]
  show zs[(((0:Nat):Int)-1+(zs.length:Int)).toNat]?=_
  congr 1;lia
 ·rw [if_neg h]
  have e:(j:Int)-1=((j-1:Nat):Int):=by lia
  rw[e,zax (Qc (by lia)),Qc (by lia)]
def idx_at{zs:Nj}(nd:zs.Nodup){i:Nat}(hi:i<zs.length):zs.idxOf zs[i]=i:=by
 have h1:zs.idxOf zs[i]<zs.length:=zgs (Qq hi)
 have h2:zs[zs.idxOf zs[i]]=zs[i]:=Jf h1
 exact(Wn nd).mp h2
def nxt_idx{zs:Nj}(nd:zs.Nodup){j:Nat}(hj:j<zs.length)(hp:pidx zs.length j<zs.length):nxt zs zs[pidx zs.length j]=zs[j]:=by
 unfold nxt
 rw[idx_at nd hp]
 have e:(pidx zs.length j+1)%zs.length=j:=by
  unfold pidx
  by_cases h:j=0
  ·rw [if_pos h,h]
   have:zs.length-1+1=zs.length:=by lia
   rw[this,Nat.mod_self]
  ·rw [if_neg h]
   have:j-1+1=j:=by lia
   rw[this,Nat.mod_eq_of_lt hj]
 rw[e,Qx,Qc hj];rfl
section
variable{P:Ni}{w:Nl}{K:Na}{mg:Nf}{base:Nm}
def ze0:zap ["rounds", "behind", "place", "around", "at", "to"] ["rounds"] (zag sSteps):=fsk
def ok_steps{f:Nc}{fd:Nr}(F:Fun K "steps_behind" "steps_behind" sSteps f fd)(mv:mg "enumerate" = none):FnOk P w K mg base CX0 1 f fd ["rounds"] spSteps:=by
 refine F.okL ze0 (λcdv A outer s H vs Q E hr h=>?_)
 obtain⟨d,es,rfl,T,bQ,hok,k⟩:=h
 have hu:=zck hr
 have aT  := sizeLine_eq
 refine⟨_,zae (zau 1 ze0.nd pe_dnewT)
  (zae (ps_thaw (zbq Zq rfl (pi_dict (pv 0)) (zbf 2 ze0.nd)
   (zae (zau 3 ze0.nd (zh8 hu (pv 0) (pv 2)))
   (zah (zbq Zq rfl (pi_enum rfl mv (zaa (pv 3) zaf)) (zhd rfl (za1 (zbf 4 ze0.nd) (za1 (zbf 5 ze0.nd) zcv)))
    (zah (zh6 hu (pv 1) (zdj (zaa (zbg ix_tup (pv 3) (zav op_sub (pv 4) zai) (λ_ _=>rfl)) (zaa (pv 2) zaf))) (zdj (zaa (pv 2) (zaa (pv 5) zaf))) rfl)))))))
  (zah (zbe (pv 1)))),?_⟩
 refine λb hb=>?_
 have nfz:∀o' u',H d≠some (.frz o' u'):=λo' u' z=>by rw[T.dc]at z;cases z
 have nbd:d≠b:=zab T.dc hb
 have k1:Keep [] H (upd H b (.dT [])):=Keep.new hb
 have fR:BAt (upd H b (.dT [])) b [] (row (rsOf es)):=⟨zac,λe he=>(by cases he),Yc⟩
 have T1:TAt (upd H b (.dT [])) d es:=T.keep k1 (by simp) (λ_ _=>by simp)
 generalize upd H b (.dT [])=H1 at k1 fR T1
 have hbm:∀{H':Hp} {bs:List ((Str×Str)×Addr)},BAt H' b bs (row (rsOf es))→b≠d:=λ_=>Zn nbd
 refine⟨_,rfl,d,_,rfl,T1.dc,λo=>for_dict (λi σ H'=>Aj4 (Ex4 λx2 x3 x4 x5=>σ=[some (.ref d),some (.ref b),x2,x3,x4,x5]) (H' d=some (.frz o (.dK (eV es)))) (Keep [d,b] H1 H') (Ex1 λbs=>Aj3 (BAt H' b bs (row (rsOf es))) (bs.length≤100*i) (∀s,s∈bs.map (·.1)↔s.2∈(es.take i).map (·.1)∧s.1∈row (rsOf es) s.2)))
  ⟨⟨_,_,_,_,rfl⟩,zac,Keep.wr (by simp),[],fR.keep (xs:=[d]) (Keep.wr (by simp)) (by simpa using Zn nbd) (λe he=>by cases he),Zh _,λs=>⟨λh=>(by cases h),λh=>(by cases h.1)⟩⟩
  (λi σ H' _ hh=>hh.2) ?_ ?_⟩
 ·rintro i pr σ H2 qA ⟨⟨x2,x3,x4,x5,rfl⟩,hz,k2,bs,dA,da,eO⟩
  have hi:i<es.length:=by
   have:=(Zd.mp qA).1
   rwa[Qa]at this
  have g1:pr=((Sum.inr es[i].1:Key),V.ref es[i].2.2):=by
   rw[Qr,Qc hi]at qA
   exact(Qs qA).symm
  subst g1
  have aY:es[i]∈es:=Qq hi
  obtain⟨aK,hln⟩:=hok _ aY
  have gJ:row (rsOf es) es[i].1=es[i].2.1:=zbp T.nd aY
  have dX:=T1.ro _ aY
  have nrd:es[i].2.2≠d:=za3 dX T1.dc (by intro z;cases z)
  have nrb:es[i].2.2≠b:=za3 dX fR.dc (by intro z;cases z)
  have iH:=k2 _ _ dX (by simp[nrd,nrb])
  refine⟨_,rfl,_,rfl,d,.ref es[i].2.2,rfl,.inl ⟨_,Sum.inr es[i].1,.inr ⟨o,hz⟩,rfl,(zeb T.nd aY).symm⟩,?_⟩
  have cw:es[i].1∉(es.take i).map (·.1):=by
   have h1:(es.map (·.1)).take (i+1)=(es.map (·.1)).take i++[es[i].1]:=by
    rw[Qo (by rw[Qa];exact hi),Yd]
   have h2:((es.map (·.1)).take (i+1)).Nodup:=Us (Jl _ _) T.nd
   rw[h1,Zj,←Ul]at h2
   exact λz=>h2.2.2 _ z _ (Qb.mpr rfl) rfl
  refine⟨_,rfl,es[i].2.2,rfl,⟨_,SqT.of iH⟩,for_enum (xs:=es[i].2.1.map V.str) (λj σ H'=>Aj4 (Ex2 λx4 x5=>σ=[some (.ref d),some (.ref b),some (.str es[i].1),some (.ref es[i].2.2),x4,x5]) (H' d=some (.frz o (.dK (eV es)))) (Keep [d,b] H1 H') (Ex1 λbs=>Aj3 (BAt H' b bs (row (rsOf es))) (bs.length≤100*i+j) (∀s,s∈bs.map (·.1)↔(s.2∈(es.take i).map (·.1)∧s.1∈row (rsOf es) s.2)∨∃(m:Nat) (hm:m<j) (hp:pidx es[i].2.1.length m<es[i].2.1.length),s=(es[i].2.1[pidx es[i].2.1.length m],es[i].1))))
   ⟨⟨_,_,rfl⟩,hz,k2,bs,dA,da,fun s=>(eO s).trans ⟨.inl,fun h=>by
    rcases h with z | ⟨m,hm,_⟩
    ·exact z
    ·exact absurd hm (Nat.not_lt_zero m)⟩⟩ (λj σ H' _ hh=>hh.3 _ _ dX (by simp[nrd,nrb])) ?_ ?_⟩
  ·rintro j y t σ H3 hy ⟨⟨y4,y5,rfl⟩,jX,k3,kF,jA,mK,eM⟩ ht
   have hj:j<es[i].2.1.length:=by
    have:=(Zd.mp hy).1
    rwa[Qa]at this
   have kU:y=.str es[i].2.1[j]:=by
    rw[Qr,Qc hj]at hy
    exact(Qs hy).symm
   subst kU
   have qB:pidx es[i].2.1.length j<es[i].2.1.length:=by unfold pidx;split<;>lia
   have qx:=k3 _ _ dX (by simp[nrd,nrb])
   have k4:Keep [] H3 (upd H3 t (.tup [.int j,.str es[i].2.1[j]])):=Keep.new ht
   refine⟨t,_,rfl,SqT.of zac,rfl,_,_,rfl,_,_,rfl,rfl,?_⟩
   generalize upd H3 t (.tup [.int j,.str es[i].2.1[j]])=H4 at k4
   refine⟨_,rfl,_,rfl,(by show 2≤sizeLine;decide),λv hv=>?_⟩
   have k5:Keep [] H4 (upd H4 v (.tup [.str es[i].1,.str es[i].2.1[j]])):=Keep.new hv
   have hv5:(upd H4 v (.tup [.str es[i].1,.str es[i].2.1[j]])) v=some (.tup [.str es[i].1,.str es[i].2.1[j]]):=zac
   generalize upd H4 v (.tup [.str es[i].1,.str es[i].2.1[j]])=H5 at k5 hv5
   have jV:Keep [] H3 H5:=k4.trans k5
   have qw:=jV _ _ qx (by simp)
   have fS:atI (es[i].2.1.map V.str) ((j:Int)-1)=some (.str es[i].2.1[pidx es[i].2.1.length j]):=by
    rw[atI_prev (by rw[Qa];exact hj),Qa,Qr,Qc qB];rfl
   refine⟨_,rfl,_,rfl,_,rfl,_,_,rfl,rfl,es[i].2.2,_,_,_,rfl,rfl,SqT.of qw,fS,_,rfl,(by show 2≤sizeLine;decide),λq hq=>?_⟩
   have k6:Keep [] H5 (upd H5 q (.tup [.str es[i].2.1[pidx es[i].2.1.length j],.str es[i].1])):=Keep.new hq
   have lF:(upd H5 q (.tup [.str es[i].2.1[pidx es[i].2.1.length j],.str es[i].1])) q=some (.tup ((kP (es[i].2.1[pidx es[i].2.1.length j],es[i].1)).map kV)):=zac
   generalize upd H5 q (.tup [.str es[i].2.1[pidx es[i].2.1.length j],.str es[i].1])=H6 at k6 lF
   have jU:Keep [] H3 H6:=jV.trans k6
   have oH:BAt H6 b kF (row (rsOf es)):=jA.keep jU (by simp) (λ_ _=>by simp)
   have hv6:=k6 _ _ hv5 (by simp)
   have hz6:=jU _ _ jX (by simp)
   refine⟨b,_,rfl,DPut.t oH.dc lF (by rw[Qa];lia),?_⟩
   have eU:(es[i].2.1[pidx es[i].2.1.length j],es[i].1)∉kF.map (·.1):=λz=>by
    rcases(eM _).mp z with⟨z1,_⟩ | ⟨m,hm,hpm,e⟩
    ·exact cw z1
    ·have e1:=(Jd e).1
     have e2:=(Wn aK).mp e1
     unfold pidx at e2
     by_cases rG:j=0
     ·lia
     ·rw [if_neg rG] at e2
      by_cases gL:m=0
      ·rw[if_pos gL]at e2;lia
      ·rw[if_neg gL]at e2;lia
   have iK:putK (kF.map λe=>(kP e.1,V.ref e.2)) (kP (es[i].2.1[pidx es[i].2.1.length j],es[i].1)) (.ref v)=(kF++[((es[i].2.1[pidx es[i].2.1.length j],es[i].1),v)]).map λe=>(kP e.1,V.ref e.2):=by
    rw[zfq _ (valT_out eU),Qt];rfl
   have az:st (row (rsOf es)) (es[i].2.1[pidx es[i].2.1.length j],es[i].1)=(es[i].1,es[i].2.1[j]):=by
    show(es[i].1,nxt (row (rsOf es) es[i].1) es[i].2.1[pidx es[i].2.1.length j])=_
    rw[gJ,nxt_idx aK hj qB]
   refine⟨⟨_,_,rfl⟩,by rw[zad nbd];exact hz6,(k3.trans (jU.sub (by simp))).trans (Keep.wr (by simp)),_,⟨by rw[zac,iK],λe he=>?_,?_⟩,?_,λs=>?_⟩
   ·rcases Qf.mp he with z | z
    ·have:=oH.tp e z
     rw[zad (za3 this oH.dc (by intro z;cases z))];exact this
    ·rw[Qb.mp z,az,zad (za3 hv6 oH.dc (by intro z;cases z))];exact hv6
   ·rw [Qt,Zj]
    refine⟨jA.nd,Qz.mpr ⟨by simp,Yc⟩,λx hx y hy e=>?_⟩
    have bq:y=(es[i].2.1[pidx es[i].2.1.length j],es[i].1):=by simpa using hy
    exact eU (by rw[←bq,←e];exact hx)
   ·rw[Qm];show _+1≤_;exact zar4 ‹_›
   ·rw [Qt,Qf,eM]
    constructor
    ·rintro ((z | ⟨m,hm,hp,e⟩) | z)
     ·exact .inl z
     ·exact .inr ⟨m,by exact zg0 ‹_›,hp,e⟩
     ·exact .inr ⟨j,by exact Qd _,qB,by simpa using z⟩
    ·rintro (z | ⟨m,hm,hp,e⟩)
     ·exact .inl (.inl z)
     ·by_cases hmj:m < j
      ·exact .inl (.inr ⟨m,hmj,hp,e⟩)
      ·have:m=j:=by lia
       subst this
       exact .inr (by rw[e];exact Qe)
  ·rintro σ H3 ⟨⟨y4,y5,rfl⟩,jX,k3,kF,jA,mK,eM⟩
   rw[Qa]at eM mK
   refine⟨⟨_,_,_,_,rfl⟩,jX,k3,kF,jA,by lia,λs=>(eM s).trans ?_⟩
   have aQ:(es.take (i+1)).map (·.1)=(es.take i).map (·.1)++[es[i].1]:=by rw[Qo hi,Qt];rfl
   rw[aQ,Qf,Qb]
   constructor
   ·rintro (⟨z1,z2⟩ | ⟨m,hm,hp,e⟩)
    ·exact⟨.inl z1,z2⟩
    ·rw[e];exact⟨.inr rfl,by rw[gJ];exact Qq hp⟩
   ·rintro ⟨z1 | z1,z2⟩
    ·exact .inl ⟨z1,z2⟩
    ·refine .inr ?_
     rw[z1,gJ]at z2
     obtain⟨q,hq,e⟩:=Zf z2
     by_cases cz:q+1<es[i].2.1.length
     ·have qF:pidx es[i].2.1.length (q+1) < es[i].2.1.length:=by unfold pidx;rw [if_neg (by lia)];assumption
      refine⟨q+1,cz,qF,Km ?_ z1⟩
      show s.1=es[i].2.1[pidx es[i].2.1.length (q+1)]
      rw[←e];congr 1
     ·have qF:pidx es[i].2.1.length 0 < es[i].2.1.length:=by unfold pidx;rw [if_pos rfl];lia
      refine⟨0,by lia,qF,Km ?_ z1⟩
      show s.1=es[i].2.1[pidx es[i].2.1.length 0]
      rw[←e];congr 1
      unfold pidx;rw[if_pos rfl];lia
 ·rintro σ H2 ⟨⟨x2,x3,x4,x5,rfl⟩,hz,k2,bs,dA,da,eO⟩
  rw[Qa]at eO da
  rw[Qu (Qd _)]at eO
  refine⟨d,o,_,hz,nfz,?_⟩
  have kf:Keep [] H (upd H2 d (.dK (eV es))):=λc u ec _=>by
   have nc:c≠b:=zab ec hb
   by_cases aO:c=d
   ·subst aO
    rw[zac,←T.dc];exact ec
   ·rw [zad aO]
    exact k2 c u (k1 c u ec (by simp)) (by simp[aO,nc])
  refine⟨_,rfl,k b bs _ (dA.keep (xs:=[d]) (Keep.wr (by simp)) (by simpa using Zn nbd) (λe he=>by simpa using za3 (dA.tp e he) hz (by intro z;cases z))) (λs=>?_) (by lia) hb kf⟩
  rw[eO]
  constructor
  ·exact λh=>h.2
  ·intro h
   refine⟨?_,h⟩
   obtain⟨p,hp,e,_⟩:=(zda (rs:=rsOf es) (by unfold rsOf;rw[List.map_map];exact T.nd)).mpr h
   obtain⟨en,bU,rfl⟩:=Ql.mp hp
   exact Ql.mpr ⟨en,bU,e⟩
abbrev zfc:Stmt:=top 9
def zdg(H:Hp)(a:Nc)(h:Str):Prop:=∃t:List Str,H a=some (.lst ((h::t).map V.str))
def ze2(es:List Ent):List Str:=(es.filter λe=>e.2.1.isEmpty).map (·.1)
inductive IspFaces(vs:List V)(H:Hp)(Q:VK):Prop
 |mk (d:Nc) (es:List Ent) (cs:List (List (Str×Str))) (aa:Nu) (h0:vs=[.ref d]) (h1:TAt H d es) (h2:es.length≤60) (h3:(∀e∈es,e.2.1.length≤100)) (h4:Cert (es.map (·.1)) (row (rsOf es)) cs aa) (h5:∀(l:Nc) (as:Nk) (hd hc:Nj) (bd:List (List (Str×Str))) (H':Hp),H' l=some (.lst (as.map V.ref))→as.length≤20000→Paired (zdg H') as hd→hd.Perm (ze2 es++hc)→bd.Perm cs→Paired (λh c=>∃s∈c,s.1=h) hc bd→Keep [] H H'→Q (.ref l) H'):IspFaces vs H Q
def spFaces:Sp:=λvs H Q _=>IspFaces vs H Q
def pt_truthK{X:Cx}{K:Na}{a:Expr}{ta:TE}(hK:X.K=K)(ha:PE X a ta)(he:∀whole,isTrue a X.env whole=(do let v ←whole;standAt a.pos;holding [v] (truthy v))) :
  PT X a (λ σ H Q=>ta σ H λx H'=>RTr K x H' Q):=hK▸zfr ha he
abbrev ze7:Scope:=scOf (eOf (sAt zfc 1))
def csFaces_k:ze7.kind=.function:=by rfl
def csFaces_c:∀y∈ze7.names,y.2≠.cell:=by decide +kernel
def csFaces_n:∀y∈ze7.names,y.2=.local→ze7.names.lookup y.1=some .local:=by decide +kernel
def csFaces_f:∀y∈ze7.names,y.2=.free→(zag zfc).names.lookup y.1=some .cell∨(zag zfc).names.lookup y.1=some .free:=by decide +kernel
def csFaces_l:ze7.names.lookup ("rounds" : Str)=some NameKind.free:=by decide +kernel
def ndF:(["place", "rounds"]:List Str).Nodup:=by decide +kernel
def valG_out{gs:Np}{s:Str×Str}(h:s∉gs):valV (gs.map λs=>(kP s,V.bl true)) (kP s)=none:=by
 induction gs with
 |nil=>rfl
 |cons a t ih =>
  rw[Qh,not_or]at h
  rw[Qk,zby]
  ·exact ih h.2
  ·intro q;exact h.1 (kP_inj q).symm
def valG_in{gs:Np}{s:Str×Str}(h:s∈gs):valV (gs.map λs=>(kP s,V.bl true)) (kP s)=some (.bl true):=by
 induction gs with
 |nil=>cases h
 | cons a t ih =>
  rw[Qk]
  by_cases e:a=s
  ·exact zc4 (by rw[e])
  ·rw [zby (fun q=>e (kP_inj q))]
   rcases Qh.mp h with z | z
   ·exact absurd z.symm e
   ·exact ih z
def lk_get{β:Type}{f:β→β}{e:β}:∀{t:List β} {s:β},Lk f s t e→∀k,k<(s::t).length→f ((s::t).getD k e)=(s::t).getD (k+1) e:=by
 intro t
 induction t with
 |nil =>
  intro s h k hk
  have:k=0:=by simp at hk;exact hk
  subst this;exact h
 | cons a t ih =>
  intro s h k hk
  cases k with
  |zero=>exact h.1
  |succ n =>
   have:=ih h.2 n (by simpa using hk)
   simpa using this
def zc0{H H':Hp}{D g:Nc}{fa:Nk}{hd:Nj}{xs:Nk}(k:Keep xs H H')(h:Paired (zdg H) fa hd)(hx:∀a (h:Str) (t:Nj),H a=some (.lst ((h::t).map V.str))→a∉xs):Paired (zdg H') fa hd :=
 Paired.imp' (λa h ⟨t,e⟩=>⟨t,k _ _ e (hx a h t e)⟩) h
def zao{α β:Type}{R:α→β→Prop}:∀{as bv:List α} {bs fV:List β},Paired R as bs→Paired R bv fV→Paired R (as++bv) (bs++fV):=by
 intro as bv bs fV r r'
 induction r with
 |nil=>exact r'
 |cons h t ih=>exact .cons h ih
def zdh:zap ["rounds", "behind", "found", "gone", "first", "face", "step"] ["rounds"] (zag zfc):=fsk
def ok_faces{f fs:Nc}{fd fds:Nr}(F:Fun K "faces_of" "faces_of" zfc f fd)(FS:Fun K "steps_behind" "steps_behind" sSteps fs fds)(bS:Binds K fds ["rounds"] [])(mS:mg "steps_behind" = some (.ref fs))(GS:FnOk P w K mg base CX0 1 fs fds ["rounds"] spSteps)(aE:mg "sorted" = none):FnOk P w K mg base CX0 2 f fd ["rounds"] spFaces:=by
 refine F.okL zdh (λcdv A outer s H vs Q E hr h=>?_)
 obtain⟨d,es,cs,aa,rfl,T,bQ,aR,C,k⟩:=h
 have hu:=zck hr
 have hu8:(A.deeper (PyProof.Rows.envOfC "faces_of" (zag zfc) s.heap.objs.size f cdv)).units+8<cLine:=Wa (Kp (by decide:8≤64) _) hr.units
 have aT  := sizeLine_eq
 refine⟨_,zae (zau 1 zdh.nd (zam GS hr rfl mS FS.kp bS .nil za0 (zaa (pv 0) zaf)))
  (zae (ps_thaw (ps_lc (i:=2) (M:=["place", "rounds"]) (ix:=[none,some 0]) zdh.nd rfl rfl ⟨csFaces_k,csFaces_c,csFaces_n,csFaces_f,rfl,by decide +kernel,λj i x h1 h2=>by
     match j,h1,h2 with
     |0,_,h2=>cases h2
     |1,h1,h2=>cases h1;cases h2;exact⟨rfl,csFaces_l⟩
     |n+2,h1,_=>cases h1⟩ rfl (pi_dict (pv 0)) (λC a7 ex s H=>zbf 0 ndF)
    (λC a7 ex s H=>zh5 (zfe (pt_truthK (K:=K) rfl (zh8 (by exact hu) (pv 1) (pv 0)) (by intro _;rfl)))) (λC a7 ex s H=>zbj (zaa (pv 0) zaf)) rfl))
  (zae (zau 3 zdh.nd pe_dnewT)
  (zae (zbq Zq rfl (za7 (zaj (zg5 rfl) (by rfl) aE Yn (zaa (pv 1) zaf))) (zbf 4 zdh.nd)
   (zae (zau 5 zdh.nd (zbj zaf))
   (zae (zau 6 zdh.nd (pv 4))
   (zae (zfs Zq (zhc (zdk hu (pv 6) (pv 3)))
    (zae (zh6 hu (pv 3) (pv 6) pe_bl rfl)
    (zae (zay (zcj Qy Yb Ya zbc (pv 5) (zaa (zbg ix_tup (pv 6) zai (λ_ _=>rfl)) zaf)))
    (zah (zau 6 zdh.nd (zh8 hu (pv 1) (pv 6)))))))
   (zah (zcc (zfr (pv 5) (by intro _;rfl)) (zah (zay (zcj Qy Yb Ya zbc (pv 2) (zaa (pv 5) zaf)))) zba))))))
  (zah (zbe (zaj (ze8 hu8) (by rfl) aE Yn (zaa (pv 2) zaf))))))),?_⟩
 have aF:∀e∈es,row (rsOf es) e.1=e.2.1:=λe he=>zbp T.nd he
 refine⟨_,rfl,d,es,rfl,T,bQ,λe he=>⟨aF e he▸C.rn e.1,aR e he⟩,λb bs H1 fR eO da hbfr k1=>?_⟩
 have T1:TAt H1 d es:=T.keep k1 (by simp) (λ_ _=>by simp)
 have nfz:∀o' u',H d≠some (.frz o' u'):=λo' u' z=>by rw[T.dc]at z;cases z
 refine⟨_,rfl,d,_,rfl,T1.dc,λo=>⟨λi m ys τ H2=>Aj6 (m=es.length-i) (i≤es.length) (Ex1 λx0=>τ=[x0,some (.ref d)]) (H2 d=some (.frz o (.dK (eV es)))) (Keep [d] H1 H2) (Ex1 λ(as:Nk)=>Aj3 (ys=as.map V.ref) (as.length≤i) (Paired (zdg H2) as (ze2 (es.take i)))),
  ⟨es.length,rfl,Zh _,⟨none,rfl⟩,zac,Keep.wr Qe,[],rfl,Zh _,.nil⟩,?_⟩⟩
 rintro i m ys τ H2 ⟨rfl,hi,⟨x0,rfl⟩,hz,k2,fa,rfl,ms,bz⟩
 by_cases ae:i<es.length
 ·refine .inr ⟨⟨hz,by rw [Qa];exact ae⟩,by rw [Qa];lia,?_⟩
  rintro y H' ⟨rfl,pr,e1,rfl⟩
  have g1:pr=((Sum.inr es[i].1:Key),V.ref es[i].2.2):=by
   rw[Qr,Qc ae]at e1
   exact(Qs e1).symm
  subst g1
  have aY:es[i]∈es:=Qq ae
  have dL:=T1.ro _ aY
  have nri:es[i].2.2≠d:=za3 dL T1.dc (by intro z;cases z)
  have iH:=k2 _ _ dL (by simpa using nri)
  have aQ:es.take (i+1)=es.take i++[es[i]]:=Qo ae
  refine⟨_,rfl,_,rfl,d,.ref es[i].2.2,rfl,.inl ⟨_,Sum.inr es[i].1,.inr ⟨o,hz⟩,rfl,(zeb T.nd aY).symm⟩,_,.inr (.inl ⟨_,SqT.of iH,rfl⟩),?_⟩
  have hem:(es[i].2.1.map V.str).isEmpty=es[i].2.1.isEmpty:=by cases es[i].2.1<;>rfl
  cases hb:es[i].2.1.isEmpty with
  | false =>
   refine zbw (by rw[hem,hb];rfl) ⟨_,?_,rfl,ae,⟨_,rfl⟩,hz,k2,fa,rfl,by exact zg0 ‹_›,?_⟩
   ·exact zar1 ‹_›
   ·unfold ze2
    rw[aQ,Wr,Ym (by rw[hb];decide),Ux,Zs];exact bz
  | true =>
   refine zb6 (by rw[hem,hb];rfl) ⟨_,rfl,(by show 1≤sizeLine;decide),λq hq=>⟨_,?_,rfl,ae,⟨_,rfl⟩,?_,k2.trans (Keep.new hq),fa++[q],?_,?_,?_⟩⟩
   ·exact zar1 ‹_›
   ·rw[zad (zab hz hq)];exact hz
   ·rw[Qt];rfl
   ·rw[Qm];show _+1≤_;exact zar4 ‹_›
   ·unfold ze2
    rw[aQ,Wr,Yl (by rw[hb]),Ux,Qt]
    exact zao (zc0 (D:=d) (g:=d) (xs:=[]) (Keep.new hq) bz (λ_ _ _ _=>by simp)) (.cons ⟨[],zac⟩ .nil)
 ·have gq:i=es.length:=by exact zar3 ‹_› ‹_›
  subst gq
  rw[Qu (Qd _)]at bz
  refine .inl ⟨⟨hz,by rw[Qa];exact Qd _⟩,λD hD=>?_⟩
  have ndD:d≠D:=zab hz hD
  refine⟨d,o,_,(by rw[zad ndD];exact hz),nfz,?_⟩
  have k3:Keep [] H1 (upd (upd H2 D (.lst (fa.map V.ref))) d (.dK (eV es))):=λc u ec _=>by
   by_cases aO:c=d
   ·subst aO
    rw[zac,←T1.dc];exact ec
   ·have nv:=k2 c u ec (by simpa using aO)
    rw[zad aO,zad (zab nv hD)];exact nv
  have kC:(upd (upd H2 D (.lst (fa.map V.ref))) d (.dK (eV es))) D=some (.lst (fa.map V.ref)):=by rw[zad (Zn ndD)];exact zac
  have cK:Paired (zdg (upd (upd H2 D (.lst (fa.map V.ref))) d (.dK (eV es)))) fa (ze2 es):=Paired.imp' (λa h ⟨t,e⟩=>⟨t,by
   rw[zad (za3 e hz (by intro z;cases z)),zad (zab e hD)];exact e⟩) bz
  generalize upd (upd H2 D (.lst (fa.map V.ref))) d (.dK (eV es))=H3 at k3 kC cK
  have jA:BAt H3 b bs (row (rsOf es)):=fR.keep k3 (by simp) (λ_ _=>by simp)
  refine λg hg=>?_
  have k4:Keep [] H3 (upd H3 g (.dT [])):=Keep.new hg
  have oy:(upd H3 g (.dT [])) g=some (.dT []):=zac
  generalize upd H3 g (.dT [])=H4 at k4 oy
  have hb4:BAt H4 b bs (row (rsOf es)):=jA.keep k4 (by simp) (λ_ _=>by simp)
  refine⟨_,rfl,b,_,bs.map (·.1),rfl,hb4.dc,(by rw[Zp,Zp];rfl),λl as ws hl au pa=>?_⟩
  have k5:Keep [] H4 (upd H4 l (.lst (as.map V.ref))):=Keep.new hl
  have dw:(upd H4 l (.lst (as.map V.ref))) l=some (.lst (as.map V.ref)):=zac
  have fF:zar (upd H4 l (.lst (as.map V.ref))) as ws:=zar.keep pa λc x y ec=>k5 _ _ ec (by simp)
  have nDl:D≠l:=zab (k4 _ _ kC (by simp)) hl
  generalize upd H4 l (.lst (as.map V.ref))=H5 at k5 dw fF
  have jV:Keep [] H3 H5:=k4.trans k5
  have nh:=jV _ _ kC (by simp)
  have mj:=k5 _ _ oy (by simp)
  have sG:BAt H5 b bs (row (rsOf es)):=hb4.keep k5 (by simp) (λ_ _=>by simp)
  have cv:Paired (zdg H5) fa (ze2 es):=zc0 (D:=d) (g:=d) jV cK (λ_ _ _ _=>by simp)
  have jS:Keep [] H H5:=(k1.trans k3).trans jV
  have nlg:l≠g:=za3 dw mj (by intro z;cases z)
  have nDg:D≠g:=za3 nh mj (by intro z;cases z)
  have nbg:b≠g:=zab jA.dc hg
  have nbD:b≠D:=za3 sG.dc nh (by intro z;cases z)
  have cS:as.length=ws.length:=Zt fF
  have fI:ws.length≤10000:=by rw[au.length_eq,Qa];exact da
  have notDg:∀{H':Hp} {oP:Nk} {gs:Np},H' D=some (.lst (oP.map V.ref))→H' g=some (.dT (gs.map λs=>(kP s,V.bl true)))→∀a (h:Str) (t:Nj),H' a=some (.lst ((h::t).map V.str))→a≠D∧a≠g:=λ{H' oP gs} e1 e2 a h t e =>
   ⟨za3 e e1 (by
    intro z
    have z':(h::t).map V.str=oP.map V.ref:=by injection z
    cases oP with
    |nil=>cases z'
    |cons x u=>rw[Qk,Qk]at z';injection z' with z1 _;cases z1),za3 e e2 (by intro z;cases z)⟩
  refine⟨l,rfl,⟨_,SqL.of dw⟩,zbv (xs:=as.map V.ref) (λi σ H'=>Aj3 (Ex3 λx4 x5 x6=>σ=[some (.ref d),some (.ref b),some (.ref D),some (.ref g),x4,x5,x6]) (Keep [D,g] H5 H') (Ex5 λ(gs:Np) (dn rem:List (List (Str×Str))) (fa:Nk) (hc:Nj)=>Aj9 (H' g=some (.dT (gs.map λs=>(kP s,V.bl true)))) gs.Nodup (∀s,s∈gs↔s∈dn.flatten) (cs.Perm (dn++rem)) (∀s∈ws.take i,s∈gs) (H' D=some (.lst (fa.map V.ref))) (Paired (zdg H') fa (ze2 es++hc)) (Paired (λh c=>∃s∈c,s.1=h) hc dn) (fa.length≤100+i)))
   ⟨⟨_,_,_,rfl⟩,Keep.refl,[],[],cs,fa,[],mj,Yc,λs=>Iff.rfl,List.Perm.refl _,λs hs=>(by cases hs),nh,by rw[Zs];exact cv,.nil,by omega⟩
   (λi σ H' _ hh=>SqL.of (hh.2 _ _ dw (by simp[Zn nDl,nlg]))) ?_ ?_⟩
  ·rintro i y σ H6 hx ⟨⟨x4,x5,x6,rfl⟩,k6,gs,dn,rem,nr,fA,rL,rJ,jk,dP,o4,jF,gl,aO,mq⟩
   have hi:i<as.length:=by
    have:=(Zd.mp hx).1
    rwa[Qa]at this
   have im:y=.ref as[i]:=by
    rw[Qr,Qc hi]at hx
    exact(Qs hx).symm
   subst im
   obtain⟨aw,jD⟩:=zaz fF hi
   have nag:as[i]≠g:=za3 jD mj (by intro z;cases z)
   have naD:as[i]≠D:=za3 jD nh (by intro z;cases z)
   have mY:=k6 _ _ jD (by simp[nag,naD])
   have hws:ws[i]∈ws:=Qq aw
   have hsi:ws[i].1∈row (rsOf es) ws[i].2:=(eO _).mp (au.mem_iff.mp hws)
   have hwt:∀{aB:Np},(∀s∈gs,s∈aB)→ws[i]∈aB→∀s∈ws.take (i+1),s∈aB:=λ{aB} h1 h2 s hs=>by
    rw[Qo aw]at hs
    rcases Qf.mp hs with z | z
    ·exact h1 s (o4 s z)
    ·rw[Qb.mp z];exact h2
   refine⟨(by show 0≤sizeLine;decide),λfl fh=>?_⟩
   have k7:Keep [] H6 (upd H6 fl (.lst [])):=Keep.new fh
   have bK:(upd H6 fl (.lst [])) fl=some (.lst []):=zac
   have nfD:fl≠D:=Zn (zab jF fh)
   have nfg:fl≠g:=Zn (zab rL fh)
   have nafl:as[i]≠fl:=zab mY fh
   generalize upd H6 fl (.lst [])=H7 at k7 bK
   have mi:=k7 _ _ rL (by simp)
   have sS:=k7 _ _ jF (by simp)
   have mX:=k7 _ _ mY (by simp)
   have fZ:Keep [D,g] H5 H7:=k6.trans (k7.sub (by simp))
   have sF:BAt H7 b bs (row (rsOf es)):=sG.keep fZ (by simp[nbD,nbg]) λe he=>by
    have h1:=sG.tp e he
    simp[za3 h1 nh (by intro z;cases z),za3 h1 mj (by intro z;cases z)]
   have nbfl:b≠fl:=za3 sF.dc bK (by intro z;cases z)
   have lG:Paired (zdg H7) nr (ze2 es++fA):=zc0 (D:=d) (g:=d) k7 gl (λ_ _ _ _=>by simp)
   refine⟨_,rfl,?_⟩
   by_cases eT:ws[i]∈gs
   ·-- it is gone already
    refine⟨λm σ H'=>Aj2 (σ=[some (.ref d),some (.ref b),some (.ref D),some (.ref g),some (.ref as[i]),some (.ref fl),some (.ref as[i])]) (H'=H7),⟨0,rfl,rfl⟩,?_⟩
    rintro m σ H' ⟨rfl,rfl⟩
    have dg:=DGet.t (k:=kP ws[i]) mi mX
    rw[valG_in eT]at dg
    refine⟨_,rfl,_,rfl,g,_,rfl,dg,_,rfl,zbw rfl ?_⟩
    refine⟨_,rfl,_,.inl ⟨_,SqL.of bK,rfl⟩,zbw rfl ?_⟩
    exact⟨⟨_,_,_,rfl⟩,fZ,gs,dn,rem,nr,fA,mi,rJ,jk,dP,hwt (λ_ h=>h) eT,sS,lG,aO,by exact zg0 ‹_›⟩
   ·-- a new cycle
    obtain⟨c,fu,qt⟩:=Wd.mp ((C.cm ws[i]).mpr hsi)
    obtain⟨A1,B1,fU⟩:=Ub qt
    have hlk:=ze5 (fU▸C.cy c fu)
    generalize hL:ws[i]::(B1++A1)=L
    have oM:L.Perm c:=by
     rw[←hL,fU]
     refine Kq.mpr λa=>?_
     simp only[Xb,Xv];lia
    have bJ:=(List.Perm.flatten dP).nodup_iff.mp C.cf
    rw[Ug,Zj]at bJ
    have gZ:c∈rem:=by
     rcases Qf.mp (dP.mem_iff.mp fu) with z | z
     ·exact absurd ((jk _).mpr (Wd.mpr ⟨c,z,qt⟩)) eT
     ·exact z
    have hLg:∀s∈L,s∉gs:=λs hs hg=>by
     exact absurd rfl (bJ.2.2 s ((jk s).mp hg) s (Wd.mpr ⟨c,gZ,oM.mem_iff.mp hs⟩))
    have n8:L.Nodup:=by
     rw[oM.nodup_iff]
     have:=(zc1 fu).nodup_iff.mp C.cf
     rw[Zj]at this
     exact this.1
    have n6:∀s∈L,s.1∈row (rsOf es) s.2:=λs hs=>C.inc fu (oM.mem_iff.mp hs)
    have hLpos:0<L.length:=by rw[←hL];simp
    have cC:gs++L |>.Nodup:=Zj.mpr ⟨rJ,n8,λa ha b' oI e=>hLg b' oI (e▸ha)⟩
    have hsz:(gs++L).length≤10000:=by
     refine Zi (nodup_len cC (m:=bs.map (·.1)) λs hs=>?_) (by rw[Qa];exact da)
     rcases Qf.mp hs with z | z
     ·obtain ⟨c',bZ,c8⟩:=Wd.mp ((jk s).mp z)
      exact(eO s).mpr (C.inc (dP.mem_iff.mpr (Qv _ bZ)) c8)
     ·exact(eO s).mpr (n6 s z)
    rw[Qm]at hsz
    have rK:∀k (hk:k<L.length),st (row (rsOf es)) L[k]=L.getD (k+1) ws[i]:=λk hk=>by
     have:=lk_get hlk k (by rw[hL];exact hk)
     rw[hL,Qx,Qc hk]at this
     exact this
    refine⟨λm σ H'=>Ex2 λ(k:Nat) (t:Nc)=>Aj7 (m=L.length-k) (k≤L.length) (σ=[some (.ref d),some (.ref b),some (.ref D),some (.ref g),some (.ref as[i]),some (.ref fl),some (.ref t)]) (Keep [g,fl] H7 H') (H' g=some (.dT ((gs++L.take k).map λs=>(kP s,V.bl true)))) (H' fl=some (.lst (((L.take k).map (·.1)).map V.str))) (H' t=some (.tup [.str (L.getD k ws[i]).1,.str (L.getD k ws[i]).2])),
     ⟨_,0,as[i],rfl,Zh _,rfl,Keep.refl,by rw[List.take_zero,Zs];exact mi,bK,by rw[←hL];exact mX⟩,?_⟩
    rintro m σ H8 ⟨k8,t,rfl,hk8,rfl,nN,mh,fg,jY⟩
    have dg:=DGet.t (k:=kP (L.getD k8 ws[i])) mh jY
    by_cases dv:k8<L.length
    ·have ju:L.getD k8 ws[i]=L[k8]:=by rw [Qx,Qc dv];rfl
     have aQ:L.take (k8+1)=L.take k8++[L[k8]]:=Qo dv
     have cw:L[k8]∉gs++L.take k8:=λz=>by
      rcases Qf.mp z with q | q
      ·exact hLg _ (Qq dv) q
      ·have:=Us (Jl (k8+1) L) n8
       rw[aQ,Zj]at this
       exact this.2.2 _ q _ (Qb.mpr rfl) rfl
     rw[ju]at jY dg
     rw[valG_out cw]at dg
     refine⟨_,rfl,_,rfl,g,_,rfl,dg,_,rfl,zb6 rfl ?_⟩
     refine⟨_,λ σ' H' z=>z,?_⟩
     have lQ:((gs++L.take k8).map λs=>(kP s,V.bl true)).length<sizeLine:=by
      rw[Qa,Qm,Zc];lia
     refine⟨_,rfl,_,rfl,g,_,rfl,DPut.t (k:=kP L[k8]) mh jY lQ,?_⟩
     have iK:putK ((gs++L.take k8).map λs=>(kP s,V.bl true)) (kP L[k8]) (.bl true)=(gs++L.take (k8+1)).map λs=>(kP s,V.bl true):=by
      rw[zfq _ (valG_out cw),aQ,←Qp,Qt (l₂:=[L[k8]])];rfl
     rw[iK]
     have ntg:t≠g:=za3 jY mh (by intro z;cases z)
     have ntfl:t≠fl:=za3 jY fg (by intro z;cases z)
     have k9:Keep [g,fl] H7 (upd H8 g (.dT ((gs++L.take (k8+1)).map λs=>(kP s,V.bl true)))):=nN.trans (Keep.wr (by simp))
     have hg9:(upd H8 g (.dT ((gs++L.take (k8+1)).map λs=>(kP s,V.bl true)))) g=some (.dT ((gs++L.take (k8+1)).map λs=>(kP s,V.bl true))):=zac
     have jm:(upd H8 g (.dT ((gs++L.take (k8+1)).map λs=>(kP s,V.bl true)))) fl=some (.lst (((L.take k8).map (·.1)).map V.str)):=by rw[zad nfg];exact fg
     have qf:(upd H8 g (.dT ((gs++L.take (k8+1)).map λs=>(kP s,V.bl true)))) t=some (.tup [.str L[k8].1,.str L[k8].2]):=by rw[zad ntg];exact jY
     generalize upd H8 g (.dT ((gs++L.take (k8+1)).map λs=>(kP s,V.bl true)))=H9 at k9 hg9 jm qf
     refine⟨_,rfl,.inl ⟨rfl,_,SqL.of jm⟩,_,rfl,t,_,_,_,rfl,rfl,SqT.of qf,zax (j:=0) rfl,fl,_,_,rfl,rfl,jm,(by rw[Qa,Qa,Zc];lia),?_⟩
     have hfe:((L.take k8).map (·.1)).map V.str++[V.str L[k8].1]=((L.take (k8+1)).map (·.1)).map V.str:=by rw[aQ,Qt,Qt];rfl
     rw[hfe]
     have fH:Keep [g,fl] H7 (upd H9 fl (.lst (((L.take (k8+1)).map (·.1)).map V.str))):=k9.trans (Keep.wr (by simp))
     have mm:(upd H9 fl (.lst (((L.take (k8+1)).map (·.1)).map V.str))) g=some (.dT ((gs++L.take (k8+1)).map λs=>(kP s,V.bl true))):=by rw[zad (Zn nfg)];exact hg9
     have gT:(upd H9 fl (.lst (((L.take (k8+1)).map (·.1)).map V.str))) fl=some (.lst (((L.take (k8+1)).map (·.1)).map V.str)):=zac
     have lq:(upd H9 fl (.lst (((L.take (k8+1)).map (·.1)).map V.str))) t=some (.tup [.str L[k8].1,.str L[k8].2]):=by rw[zad ntfl];exact qf
     generalize upd H9 fl (.lst (((L.take (k8+1)).map (·.1)).map V.str))=dF at fH mm gT lq
     have jB:BAt dF b bs (row (rsOf es)):=sF.keep fH (by simp[nbg,nbfl]) λe he=>by
      have h1:=sF.tp e he
      simp[za3 h1 mi (by intro z;cases z),za3 h1 bK (by intro z;cases z)]
     obtain⟨e,he,hee⟩:=Ql.mp ((eO L[k8]).mpr (n6 _ (Qq dv)))
     have dg2:=DGet.t (k:=kP L[k8]) jB.dc lq
     rw[←hee,valT_in jB.nd he]at dg2
     have gb:=jB.tp e he
     rw[hee,rK k8 dv]at gb
     refine⟨_,rfl,_,rfl,b,_,rfl,dg2,L.length-(k8+1),by exact zar1 ‹_›,k8+1,e.2,rfl,dv,rfl,fH,mm,gT,gb⟩
    ·have hk:k8=L.length:=by exact zar3 ‹_› ‹_›
     subst hk
     have ju:L.getD L.length ws[i]=ws[i]:=by rw[Qx,Ut (Qd _)];rfl
     rw[Qu (Qd _)]at mh fg dg
     have hwL:ws[i]∈L:=by rw[←hL];exact Qe
     rw[ju,valG_in (Qj _ hwL)]at dg
     refine⟨_,rfl,_,rfl,g,_,rfl,dg,_,rfl,zbw rfl ?_⟩
     have aW:((L.map (·.1)).map V.str).isEmpty=false:=by rw[←hL];rfl
     refine⟨_,rfl,_,.inl ⟨_,SqL.of fg,rfl⟩,zb6 (by rw[aW];rfl) ?_⟩
     have hD8:=nN _ _ sS (by simp[nDg,Zn nfD])
     refine⟨_,rfl,.inl ⟨rfl,_,SqL.of hD8⟩,_,rfl,D,_,_,rfl,rfl,hD8,(by rw[Qa];lia),?_⟩
     have k9:Keep [D,g] H5 (upd H8 D (.lst (nr.map V.ref++[.ref fl]))):=by
      refine Keep.trans (λc' u' ec bZ=>?_) (Keep.wr (by simp))
      have h7:=fZ c' u' ec bZ
      refine nN c' u' h7 ?_
      have ncg:c'≠g:=λz=>bZ (by simp[z])
      have ncf:c'≠fl:=λz=>by
       have:=k6 c' u' ec bZ
       rw[z,fh]at this;cases this
      simp[ncg,ncf]
     refine⟨⟨_,_,_,rfl⟩,k9,gs++L,dn++[c],rem.erase c,nr++[fl],fA++[ws[i].1],by rw[zad (Zn nDg)];exact mh,cC,λs=>?_,?_,hwt (λs hs=>Qv _ hs) (Qj _ hwL),by rw[zac,Qt];rfl,?_,zao aO (.cons ⟨ws[i],qt,rfl⟩ .nil),by rw[Qm];show _+1≤_;exact zar4 ‹_›⟩
     ·rw[Qf,jk,Ug,Qf,Wo,Kj,Zs,oM.mem_iff]
     ·refine dP.trans ?_
      rw[Qp]
      exact Zx _ (Kn gZ)
     ·rw [← Qp]
      refine zao (Paired.imp' (λa h ⟨t,e⟩=>⟨t,?_⟩) lG) (.cons ⟨(B1++A1).map (·.1),?_⟩ .nil)
      ·have n1:=notDg sS mi a h t e
       have naf:a≠fl:=za3 e bK (by intro z;injection z with z;cases z)
       rw[zad n1.1]
       exact nN _ _ e (by simp[n1.2,naf])
      ·rw[zad nfD,fg,←hL];rfl
  ·rintro σ H6 ⟨⟨x4,x5,x6,rfl⟩,k6,gs,dn,rem,nr,fA,rL,rJ,jk,dP,o4,jF,gl,aO,mq⟩
   rw[Qa,cS,Qu (Qd _)]at o4
   have qy:rem=[]:=by
    cases rem with
    |nil=>rfl
    |cons c rem' =>
     have mH:c∈cs:=dP.mem_iff.mpr (Qj _ Qe)
     obtain⟨s0,t0,hU,_⟩:=C.cy c mH
     have aT:s0∈c:=by rw[hU];exact Qe
     have h1:s0∈ws:=au.mem_iff.mpr ((eO s0).mpr (C.inc mH aT))
     have h2:=(jk s0).mp (o4 s0 h1)
     have h3:=(List.Perm.flatten dP).nodup_iff.mp C.cf
     rw[Ug,Zj]at h3
     exact absurd rfl (h3.2.2 s0 h2 s0 (Wd.mpr ⟨c,Qe,aT⟩))
   rw[qy,Zs]at dP
   refine⟨_,rfl,D,_,rfl,SqL.of jF,λv hv=>?_,λl7 ws7 d7 iM=>?_⟩
   ·obtain ⟨a,ha,rfl⟩:=Ql.mp hv
    obtain⟨j,hj,rfl⟩:=Zf ha
    obtain⟨_,t,e⟩:=zaz gl hj
    exact⟨_,_,rfl,e⟩
   ·obtain ⟨as7,rfl,cc⟩:=zf1 iM
    obtain⟨hd7,gh,cr⟩:=zc8 cc gl
    refine k l7 as7 hd7 fA dn _ zac (by rw[cc.length_eq];rw[Qa]at mq;lia) (Paired.imp' (λa h ⟨t,e⟩=>⟨t,by rw[zad (zab e d7)];exact e⟩) cr) gh dP.symm aO ?_
    refine(λc u ec _=>?_)
    have nD:c≠D:=λz=>by
     by_cases zd:c=d
     ·exact ndD (zd▸z)
     ·have h2:=k2 c u (k1 c u ec (by simp)) (by simpa using zd)
      rw[z,hD]at h2;cases h2
    have nG:c≠g:=λz=>by
     have h1:=k3 c u (k1 c u ec (by simp)) (by simp)
     rw[z,hg]at h1;cases h1
    have:=k6 c u (jS c u ec (by simp)) (by simp[nD,nG])
    rw[zad (zab this d7)];exact this
abbrev sPiece:Stmt:=top 10
abbrev zh0:Stmt:=top 11
def marks(ks:Nj):List (Key×V):=ks.map λz=>((Sum.inr z:Key),V.bl true)
def zhu(h:x∉ks):valV (marks ks) (Sum.inr x)=none:=by
 unfold marks
 induction ks with
 |nil=>rfl
 |cons a t ih =>
  rw[Qh,not_or]at h
  rw[Qk,zby]
  ·exact ih h.2
  ·intro q;exact h.1 (Ka q).symm
def valM_in(h:x∈ks):valV (marks ks) (Sum.inr x)=some (.bl true):=by
 unfold marks
 induction ks with
 |nil=>cases h
 | cons a t ih =>
  rw[Qk]
  by_cases e:a=x
  ·exact zc4 (by rw[e])
  ·rw [zby (fun q=>e (Ka q))]
   rcases Qh.mp h with z | z
   ·exact absurd z.symm e
   ·exact ih z
def putM_new(h:x∉ks):putK (marks ks) (Sum.inr x) (.bl true)=marks (ks++[x]):=by
 rw[zfq _ (zhu h)];unfold marks;rw[List.map_append];rfl
def putM_old(h:x∈ks):putK (marks ks) (Sum.inr x) (.bl true)=marks ks:=by
 unfold putK marks
 rw[if_pos]
 ·rw [Zp]
  refine Wx λz _=>?_
  show(if(Sum.inr z:Key)=Sum.inr x then((Sum.inr z:Key),V.bl true) else(Sum.inr z,V.bl true))=_
  split<;>rfl
 ·exact Wf.mpr ⟨_,Ql.mpr ⟨x,h,rfl⟩,by simp⟩
def mkeys(ks:Nj):((marks ks).map λp=>kV p.1)=ks.map V.str:=by unfold marks;rw[List.map_map];rfl
inductive IspPiece(vs:List V)(H:Hp)(Q:VK):Prop
 |mk (d:Nc) (es:List Ent) (cs:List (List (Str×Str))) (aa:Nu) (x:Str) (h0:vs=[.ref d,.str x]) (h1:TAt H d es) (h2:es.length≤60) (h3:Cert (es.map (·.1)) (row (rsOf es)) cs aa) (h4:x∈es.map (·.1)) (h5:∀(l:Nc) (zs:Nj) (H':Hp),H' l=some (.lst (zs.map V.str))→zs.Nodup→zs.Pairwise leS→(∀y,y∈zs↔y∈es.map (·.1)∧aa y=aa x)→H l=none→Keep [] H H'→Q (.ref l) H'):IspPiece vs H Q
def spPiece:Sp:=λvs H Q _=>IspPiece vs H Q
def seqO(b:Bool)(xs:List V):HO:=bif b then .tup xs else .lst xs
structure GAt(b:Bool)(H:Hp)(d:Nc)(es:List Ent):Prop where
 dc:H d=some (.dK (eV es))
 ro:∀e∈es,H e.2.2=some (seqO b (e.2.1.map V.str))
 nd:(es.map (·.1)).Nodup
def GAt.keep(r:GAt b H d es)(k:Keep xs H H')(hd:d∉xs)(h:∀e∈es,e.2.2∉xs):GAt b H' d es:=⟨k _ _ r.dc hd,λe he=>k _ _ (r.ro e he) (h e he),r.nd⟩
def SqB(b:Bool)(K:Na)(H:Hp)(a:Nc)(xs:List V):Prop:=bif b then SqT K H a xs else SqL K H a xs
def ItB(b:Bool)(K:Na)(a:Nc):It:=bif b then Itt K a else Itl K a
def SqB.of{b:Bool}{K:Na}{H:Hp}{a:Nc}{xs:List V}(h:H a=some (seqO b xs)):SqB b K H a xs:=by
 cases b
 ·exact SqL.of h
 ·exact SqT.of h
def GAt.sq{b:Bool}{K:Na}{H:Hp}{d:Nc}{es:List Ent}{e:Ent}(r:GAt b H d es)(he:e∈es):SqB b K H e.2.2 (e.2.1.map V.str):=SqB.of (r.ro e he)
def iB(b:Bool)(K:Na)(tl:TE):TI:=λ σ H R=>tl σ H λx H1=>RI1 x (λa=>∃xs,SqB b K H1 a xs) λa=>R (ItB b K a) H1
def pi_b(b:Bool){X:Cx}{tg l:Expr}{tl:TE}(hl:PE X l tl):PI X tg l (iB b X.K tl):=by
 cases b
 ·exact za7 hl
 ·exact pi_tup hl
def for_b(b:Bool){K:Na}{a:Nc}{xs:List V}{g:TG}{tb:TS}{D:Ends}{σ:St}{H:Hp}(Pv:Nat→St→Hp→Prop)(h0:Pv 0 σ H)(hl:∀i σ H,i≤xs.length→Pv i σ H→SqB b K H a xs)(hs:∀i x σ H,xs[i]?=some x→Pv i σ H→g x σ H λ σ2 H2=>tb {D with nx:=Pv (i+1),ct:=Pv (i+1),bk:=D.nx} σ2 H2)(hd:∀σ H,Pv xs.length σ H→D.nx σ H) :
  ∃W:Nat→Nat→St→Hp→Prop,(∃m,W 0 m σ H)∧∀i m σ H,W i m σ H →
   ((ItB b K a).stop i H∧D.nx σ H)∨((ItB b K a).go i H∧∃N:St→Hp→Prop,(∀σ' H',N σ' H'→∃m',m'<m∧W (i+1) m' σ' H')∧∀x H',(ItB b K a).yld i H x H'→g x σ H' λ σ2 H2=>tb {D with nx:=N,ct:=N,bk:=D.nx} σ2 H2):=by
 cases b
 ·exact zbv Pv h0 hl hs hd
 ·exact for_tup Pv h0 hl hs hd
inductive IspPieceG(b:Bool)(vs:List V)(H:Hp)(Q:VK):Prop
 |mk (d:Nc) (es:List Ent) (x:Str) (h0:vs=[.ref d,.str x]) (h1:GAt b H d es) (h2:es.length≤60) (h3:∀z y,y∈row (rsOf es) z→y∈es.map (·.1)) (h4:x∈es.map (·.1)) (h5:∀(l:Nc) (zs:Nj) (H':Hp),H' l=some (.lst (zs.map V.str))→zs.Nodup→zs.Pairwise leS→(∀y,y∈zs↔Conn (row (rsOf es)) x y)→H l=none→Keep [] H H'→Q (.ref l) H'):IspPieceG b vs H Q
def spPieceG(b:Bool):Sp:=λvs H Q _=>IspPieceG b vs H Q
def zfy:zap ["rounds", "start", "reached", "waiting", "place", "other"] ["rounds", "start"] (zag sPiece):=fsk
def ok_pieceG(b:Bool){f:Nc}{fd:Nr}(F:Fun K "piece_from" "piece_from" sPiece f fd)(aE:mg "sorted" = none):FnOk P w K mg base CX0 1 f fd ["rounds", "start"] (spPieceG b):=by
 refine F.okL zfy (λcdv A outer s H vs Q E hr h=>?_)
 obtain⟨d,es,x,rfl,T,bQ,gw,hx,k⟩:=h
 have hu:=zck hr
 have aT  := sizeLine_eq
 refine⟨_,zae (zau 2 zfy.nd (pe_disp (pps_cons (pv 1) pe_bl pps_nil) rfl rfl (by decide) (by decide)))
  (zae (zau 3 zfy.nd (zbj (zaa (pv 1) zaf)))
  (zae (zfs Zq (zfr (pv 3) (by intro _;rfl))
   (zae (zau 4 zfy.nd (pe_bm0 Qy PySem.F.slot_list_pop PySem.F.type_list_pop mt_pop (pv 3)))
   (zah (zbq Zq rfl (pi_b b (zh8 hu (pv 0) (pv 4))) (zbf 5 zfy.nd)
    (zah (zcc (zhc (zdk hu (pv 5) (pv 2)))
     (zae (zh6 hu (pv 2) (pv 5) pe_bl rfl)
     (zah (zay (zcj Qy Yb Ya zbc (pv 3) (zaa (pv 5) zaf))))) zba))))))
  (zah (zbe (zaj (zbl rfl) (by rfl) aE Yn (zaa (pv 2) zaf)))))),?_⟩
 have aF:∀e∈es,row (rsOf es) e.1=e.2.1:=λe he=>zbp T.nd he
 refine λre fM=>⟨_,rfl,zac,[(Sum.inr x,.bl true)],rfl,(by show 1≤15;decide),?_⟩
 have gL:(zhg [] [((Sum.inr x:Key),V.bl true)])=marks [x]:=rfl
 rw[gL]
 have kre:Keep [] H (upd (upd H re (.dK [])) re (.dK (marks [x]))):=by rw[upd_upd];exact Keep.new fM
 have dm:(upd (upd H re (.dK [])) re (.dK (marks [x]))) re=some (.dK (marks [x])):=zac
 generalize upd (upd H re (.dK [])) re (.dK (marks [x]))=H1 at kre dm
 refine⟨_,rfl,(by show 1≤sizeLine;decide),λwa pV=>?_⟩
 have k2:Keep [] H (upd H1 wa (.lst [.str x])):=kre.trans (Keep.new pV)
 have iu:H wa=none:=zas (xs:=[]) kre pV (by simp)
 have lg:(upd H1 wa (.lst [.str x])) wa=some (.lst ([x].map V.str)):=zac
 have nK:re≠wa:=zab dm pV
 have e7:(upd H1 wa (.lst [.str x])) re=some (.dK (marks [x])):=by rw[zad nK];exact dm
 generalize upd H1 wa (.lst [.str x])=H2 at k2 lg e7
 have T2:GAt b H2 d es:=T.keep k2 (by simp) (λ_ _=>by simp)
 have pA:d≠re:=zab T.dc fM
 have ndw:d≠wa:=zab T.dc iu
 have rowne:∀e∈es,e.2.2≠re∧e.2.2≠wa:=λe he=>⟨zab (T.ro e he) fM,zab (T.ro e he) iu⟩
 refine⟨λm σ H'=>Aj3 (Ex2 λx4 x5=>σ=[some (.ref d),some (.str x),some (.ref re),some (.ref wa),x4,x5]) (Keep [re,wa] H2 H') (Ex2 λ(ks wl:Nj)=>Aj9 (H' re=some (.dK (marks ks))) (H' wa=some (.lst (wl.map V.str))) ks.Nodup wl.Nodup (∀z∈wl,z∈ks) (∀z∈ks,z∈es.map (·.1)∧Conn (row (rsOf es)) x z) (x∈ks) (∀z∈ks,z∉wl→∀y∈row (rsOf es) z,y∈ks) (m=es.length+wl.length-ks.length)),
  ⟨_,⟨none,none,rfl⟩,Keep.refl,[x],[x],e7,lg,Qz.mpr ⟨by simp,Yc⟩,Qz.mpr ⟨by simp,Yc⟩,λz h=>h,λz h=>(by rw[Qb.mp h];exact⟨hx,.refl⟩),Qe,λz h h'=>absurd h h',rfl⟩,?_⟩
 rintro m σ H3 ⟨⟨x4,x5,rfl⟩,k3,ks,wl,cq,iy,fP,l8,o0,je,hxk,jy,rfl⟩
 have hkle:ks.length≤es.length:=by
  have:=zd1 fP (m:=es.map (·.1)) λz hz=>(je z hz).1
  rwa[Qa]at this
 have l9:wl.length≤ks.length:=zd1 l8 o0
 refine⟨_,rfl,_,.inl ⟨_,SqL.of iy,rfl⟩,?_⟩
 rcases List.eq_nil_or_concat wl with fI | ⟨ini,z,fI⟩
 ·-- all are reached
  subst fI
  refine zbw rfl ?_
  refine⟨_,rfl,re,_,ks,rfl,.inl cq,mkeys ks,λl zs hl au aN=>?_⟩
  have kf:Keep [] H H3:=λc u ec _=>k3 c u (k2 c u ec (by simp)) (by simp[zab ec fM,zab ec iu])
  refine k l zs _ zac (au.nodup_iff.mpr fP) (aN (by omega)) (λy=>?_) (zas kf hl (by simp)) (kf.trans (Keep.new hl))
  rw[au.mem_iff]
  constructor
  ·exact λh=>(je y h).2
  ·intro hc
   induction hc with
   |refl=>exact hxk
   |step _ hz ih=>exact jy _ ih (by simp) _ hz
 ·rw [List.concat_eq_append] at fI
  subst fI
  refine zb6 (by rw[Qt];cases ini<;>rfl) ?_
  refine⟨_,λ σ' H' zz=>zz,?_⟩
  have dH:z∈ks:=o0 z (Qj _ Qe)
  obtain⟨en,bU,cU⟩:=Ql.mp (je z dH).1
  have kT:en.1=z:=cU
  rw[Zj]at l8
  obtain⟨aA,_,sv⟩:=l8
  have hzi:z∉ini:=λq=>sv z q z Qe rfl
  have cz:((ini++[z]).map V.str)[((ini++[z]).map V.str).length-1]?=some (.str z):=by
   rw[Qt,Qm,Ur (by simp)]
   simp
  have kr:((ini++[z]).map V.str).dropLast=ini.map V.str:=by rw[Qt];exact List.dropLast_concat
  refine⟨_,rfl,.inl ⟨rfl,_,SqL.of iy⟩,wa,_,_,rfl,rfl,iy,cz,?_⟩
  rw[kr]
  have k4:Keep [re,wa] H2 (upd H3 wa (.lst (ini.map V.str))):=k3.trans (Keep.wr (by simp))
  have lf:(upd H3 wa (.lst (ini.map V.str))) wa=some (.lst (ini.map V.str)):=zac
  have dZ:(upd H3 wa (.lst (ini.map V.str))) re=some (.dK (marks ks)):=by rw[zad nK];exact cq
  generalize upd H3 wa (.lst (ini.map V.str))=H4 at k4 lf dZ
  have T4:GAt b H4 d es:=T2.keep k4 (by simp[pA,ndw]) λe he=>by simp[(rowne e he).1,(rowne e he).2]
  have dg:DGet H4 d (.str z) (some (.ref en.2.2)):=by
   have:=DGet.k (k:=Sum.inr en.1) T4.dc
   rw[zeb T4.nd bU,kT]at this
   exact this
  have hrz:row (rsOf es) z=en.2.1:=by rw[←kT];exact aF en bU
  refine⟨_,rfl,_,rfl,d,_,rfl,dg,en.2.2,rfl,⟨_,GAt.sq T4 bU⟩,for_b b (xs:=en.2.1.map V.str) (λj σ H'=>Aj3 (Ex1 λx5=>σ=[some (.ref d),some (.str x),some (.ref re),some (.ref wa),some (.str z),x5]) (Keep [re,wa] H2 H') (Ex1 λ(nw:Nj)=>Aj5 (H' re=some (.dK (marks (ks++nw)))) (H' wa=some (.lst ((ini++nw).map V.str))) ((ks++nw).Nodup) (∀y∈nw,y∈es.map (·.1)∧Conn (row (rsOf es)) x y) (∀y∈en.2.1.take j,y∈ks++nw)))
   ⟨⟨_,rfl⟩,k4,[],by rw[Zs];exact dZ,by rw[Zs];exact lf,by rw[Zs];exact fP,λy hy=>(by cases hy),λy hy=>(by cases hy)⟩
   (λj σ H' _ hh=>(SqB.of (hh.2 _ _ (T2.ro en bU) (by simp[(rowne en bU).1,(rowne en bU).2])))) ?_ ?_⟩
  ·rintro j y σ H5 hy ⟨⟨y5,rfl⟩,k5,nw,bX,g9,cM,du,dS⟩
   have hj:j<en.2.1.length:=by
    have:=(Zd.mp hy).1
    rwa[Qa]at this
   have kU:y=.str en.2.1[j]:=by
    rw[Qr,Qc hj]at hy
    exact(Qs hy).symm
   subst kU
   have g6:en.2.1[j]∈row (rsOf es) z:=by rw[hrz];exact Qq hj
   have aQ:en.2.1.take (j+1)=en.2.1.take j++[en.2.1[j]]:=Qo hj
   have hsz:(ks++nw).length≤es.length:=by
    have:=zd1 cM (m:=es.map (·.1)) λq hq=>by
     rcases Qf.mp hq with h | h
     ·exact(je q h).1
     ·exact(du q h).1
    rwa[Qa]at this
   have oS:=DGet.k (k:=Sum.inr en.2.1[j]) bX
   by_cases aA:en.2.1[j]∈ks++nw
   ·rw [valM_in aA] at oS
    refine⟨_,rfl,_,rfl,re,_,rfl,oS,_,rfl,zbw rfl ?_⟩
    refine⟨⟨_,rfl⟩,k5,nw,bX,g9,cM,du,λq hq=>?_⟩
    rw[aQ]at hq
    rcases Qf.mp hq with h | h
    ·exact dS q h
    ·rw[Qb.mp h];exact aA
   ·rw [zhu aA] at oS
    refine⟨_,rfl,_,rfl,re,_,rfl,oS,_,rfl,zb6 rfl ?_⟩
    refine⟨_,rfl,_,rfl,re,_,rfl,DPut.k (k:=Sum.inr en.2.1[j]) bX (by unfold marks;rw[List.length_map];lia),?_⟩
    rw[putM_new aA]
    have iw:(upd H5 re (.dK (marks (ks++nw++[en.2.1[j]])))) wa=some (.lst ((ini++nw).map V.str)):=by rw[zad (Zn nK)];exact g9
    have dl:(upd H5 re (.dK (marks (ks++nw++[en.2.1[j]])))) re=some (.dK (marks (ks++nw++[en.2.1[j]]))):=zac
    have k6:Keep [re,wa] H2 (upd H5 re (.dK (marks (ks++nw++[en.2.1[j]])))):=k5.trans (Keep.wr (by simp))
    generalize upd H5 re (.dK (marks (ks++nw++[en.2.1[j]])))=H6 at iw dl k6
    rw[Qm]at hsz
    rw[Qm,Zg,Jj]at l9
    refine⟨_,rfl,.inl ⟨rfl,_,SqL.of iw⟩,_,rfl,wa,_,_,rfl,rfl,iw,(by rw[Qa,Qm];lia),?_⟩
    refine⟨⟨_,rfl⟩,k6.trans (Keep.wr (by simp)),nw++[en.2.1[j]],by rw[zad nK,←Qp];exact dl,by rw[zac,←Qp,Qt (l₂:=[en.2.1[j]])];rfl,?_,λq hq=>?_,λq hq=>?_⟩
    ·rw [← Qp,Zj]
     refine⟨cM,Qz.mpr ⟨by simp,Yc⟩,λa ha b hb e=>?_⟩
     rw[Qb.mp hb]at e
     exact aA (e▸ha)
    ·rcases Qf.mp hq with h | h
     ·exact du q h
     ·rw [Qb.mp h]
      exact⟨gw z _ g6,.step (je z dH).2 g6⟩
    ·rw [aQ] at hq
     rw[←Qp]
     rcases Qf.mp hq with h | h
     ·exact Qv _ (dS q h)
     ·exact Qj _ h
  ·rintro σ H5 ⟨⟨y5,rfl⟩,k5,nw,bX,g9,cM,du,dS⟩
   rw[Qa,Qu (Qd _)]at dS
   have hsz:(ks++nw).length≤es.length:=by
    have:=zd1 cM (m:=es.map (·.1)) λq hq=>by
     rcases Qf.mp hq with h | h
     ·exact(je q h).1
     ·exact(du q h).1
    rwa[Qa]at this
   have eD:=cM
   rw[Zj]at eD
   refine⟨es.length+(ini++nw).length-(ks++nw).length,?_,⟨_,_,rfl⟩,k5,ks++nw,ini++nw,bX,g9,cM,?_,?_,?_,Qv _ hxk,?_,rfl⟩
   ·rw [Qm] at hsz
    rw[Qm,Qm,Qm,Zg,Jj]
    rw[Qm,Zg,Jj]at l9
    lia
   ·rw [Zj]
    refine⟨aA,eD.2.1,λa ha b hb e=>eD.2.2 a (o0 a (Qv _ ha)) b hb e⟩
   ·intro q hq
    rcases Qf.mp hq with h | h
    ·exact Qv _ (o0 q (Qv _ h))
    ·exact Qj _ h
   ·intro q hq
    rcases Qf.mp hq with h | h
    ·exact je q h
    ·exact du q h
   ·intro q hq lE y hy
    rw[Qf,not_or]at lE
    rcases Qf.mp hq with h | h
    ·by_cases hqz:q=z
     ·rw[hqz,hrz]at hy;exact dS y hy
     ·exact Qv _ (jy q h (by rw[Qf,not_or,Qb];exact⟨lE.1,hqz⟩) y hy)
    ·exact absurd h lE.2
def ok_piece(F:Fun K "piece_from" "piece_from" sPiece f fd)(aE:mg "sorted" = none):FnOk P w K mg base CX0 1 f fd ["rounds", "start"] spPiece :=
 (ok_pieceG true F aE).imp fun vs H Q E ⟨d,es,cs,aa,x,e,T,bQ,C,hx,k⟩=>⟨d,es,x,e,⟨T.dc,T.ro,T.nd⟩,bQ,fun z y h=>C.inn' h,hx,fun l zs H' h1 h2 h3 h4=>k l zs H' h1 h2 h3 fun y=>(h4 y).trans ⟨fun h=>by
  induction h with
  |refl=>exact⟨hx,rfl⟩
  |step _ g6 ih=>exact⟨C.inn' g6,(C.la _ _ g6).trans ih.2⟩,λh=>C.co x hx y h.1 h.2.symm⟩⟩
def IsPiece(ns:Nj)(aa:Nu)(zs:Nj):Prop:=zs.Nodup∧∃s∈ns,∀y,y∈zs↔y∈ns∧aa y=aa s
structure InRow(ns:Nj)(zss:List (List Str)):Prop where
 so:∀zs∈zss,zs.Pairwise leS
 hd:zss.Pairwise λa b=>∀x∈a.head?,∀y∈b.head?,leS x y
 al:∀y∈ns,∃zs∈zss,y∈zs
def zgy(H:Hp)(a:Nc)(zs:Nj):Prop:=H a=some (.lst (zs.map V.str))
inductive IspPieces(vs:List V)(H:Hp)(Q:VK):Prop
 |mk (d:Nc) (es:List Ent) (cs:List (List (Str×Str))) (aa:Nu) (h0:vs=[.ref d]) (h1:TAt H d es) (h2:es.length≤60) (h3:Cert (es.map (·.1)) (row (rsOf es)) cs aa) (h4:∀(l:Nc) (as:Nk) (zss:List (List Str)) (H':Hp),H' l=some (.lst (as.map V.ref))→Paired (zgy H') as zss→(∀zs∈zss,IsPiece (es.map (·.1)) aa zs)→InRow (es.map (·.1)) zss→Keep [] H H'→Q (.ref l) H'):IspPieces vs H Q
def spPieces:Sp:=λvs H Q _=>IspPieces vs H Q
def zds:zap ["rounds", "found", "reached", "start", "piece", "place"] ["rounds"] (zag zh0):=fsk
def ok_pieces(F:Fun K "pieces_of" "pieces_of" zh0 f fd)(FP:Fun K "piece_from" "piece_from" sPiece fp fdp)(bP:Binds K fdp ["rounds", "start"] [])(mP:mg "piece_from" = some (.ref fp))(GP:FnOk P w K mg base CX0 1 fp fdp ["rounds", "start"] spPiece)(aE:mg "sorted" = none):FnOk P w K mg base CX0 2 f fd ["rounds"] spPieces:=by
 refine F.okL zds (λcdv A outer s H vs Q E hr h=>?_)
 obtain⟨d,es,cs,aa,rfl,T,bQ,C,k⟩:=h
 have hu:=zck hr
 have aT  := sizeLine_eq
 refine⟨_,zae (zau 1 zds.nd (zbj zaf))
  (zae (zau 2 zds.nd pe_dnewK)
  (zae (zbq Zq rfl (za7 (zaj (zbl rfl) (by rfl) aE Yn (zaa (pv 0) zaf))) (zbf 3 zds.nd)
   (zah (zcc (zhc (zdk hu (pv 3) (pv 2)))
    (zae (zau 4 zds.nd (zam GP hr rfl mP FP.kp bP .nil za0 (zaa (pv 0) (zaa (pv 3) zaf))))
    (zae (zay (zcj Qy Yb Ya zbc (pv 1) (zaa (pv 4) zaf)))
    (zah (zbq Zq rfl (za7 (pv 4)) (zbf 5 zds.nd)
     (zah (zh6 hu (pv 2) (pv 5) pe_bl rfl)))))) zba)))
  (zah (zbe (pv 1))))),?_⟩
 refine⟨(by show 0≤sizeLine;decide),λfo gv re fM=>?_⟩
 have dY:H re=none:=zas (xs:=[]) (Keep.new gv) fM (by simp)
 have pz:fo≠re:=zab (o:=_) zac fM
 have k1:Keep [] H (upd (upd H fo (.lst [])) re (.dK [])):=(Keep.new gv).trans (Keep.new fM)
 have fe:(upd (upd H fo (.lst [])) re (.dK [])) fo=some (.lst []):=by rw[zad pz];exact zac
 have dm:(upd (upd H fo (.lst [])) re (.dK [])) re=some (.dK []):=zac
 generalize upd (upd H fo (.lst [])) re (.dK [])=H1 at k1 fe dm
 have T1:TAt H1 d es:=T.keep k1 (by simp) (λ_ _=>by simp)
 refine⟨_,rfl,d,_,es.map (·.1),rfl,.inl T1.dc,keys_strs es,λl ws hl au aN=>?_⟩
 replace aN:=aN (by rw[Qa];omega)
 have k2:Keep [] H1 (upd H1 l (.lst (ws.map V.str))):=Keep.new hl
 have aJ:(upd H1 l (.lst (ws.map V.str))) l=some (.lst (ws.map V.str)):=zac
 have nlf:l≠fo:=Zn (zab fe hl)
 generalize upd H1 l (.lst (ws.map V.str))=H2 at k2 aJ
 have jl:=k2 _ _ fe (by simp)
 have e7:=k2 _ _ dm (by simp)
 have nlr:l≠re:=za3 aJ e7 (by intro z;cases z)
 have T2:TAt H2 d es:=T1.keep k2 (by simp) (λ_ _=>by simp)
 have pL:Keep [] H H2:=k1.trans k2
 have ndf:d≠fo:=zab T.dc gv
 have pA:d≠re:=zab T.dc dY
 have fI:ws.length=es.length:=by rw[au.length_eq,Qa]
 refine⟨l,rfl,⟨_,SqL.of aJ⟩,zig (zs:=ws) (λi σ H'=>Aj3 (Ex3 λx3 x4 x5=>σ=[some (.ref d),some (.ref fo),some (.ref re),x3,x4,x5]) (Keep [fo,re] H2 H') (Ex3 λ(as:Nk) (zss:List (List Str)) (ks:Nj)=>Aj8 (H' fo=some (.lst (as.map V.ref))) (H' re=some (.dK (marks ks))) (Paired (zgy H') as zss) (∀zs∈zss,IsPiece (es.map (·.1)) aa zs) (as.length≤i) ks.Nodup (∀z∈ks,z∈es.map (·.1)) (Aj7 (∀a∈as,a≠fo) (∀y∈ws.take i,y∈ks) (∀y∈ks,∃zs∈zss,y∈zs) (∀zs∈zss,∀y∈zs,y∈ks) (∀zs∈zss,∀x∈zs.head?,x∈ws.take i) (zss.Pairwise λa b=>∀x∈a.head?,∀y∈b.head?,leS x y) (∀zs∈zss,zs.Pairwise leS))))
  ⟨⟨_,_,_,rfl⟩,Keep.refl,[],[],[],jl,e7,.nil,λzs h=>(by cases h),Zh _,Yc,λz h=>(by cases h),λz h=>(by cases h),λz h=>(by cases h),λz h=>(by cases h),λz h=>(by cases h),λz h=>(by cases h),List.Pairwise.nil,λz h=>(by cases h)⟩ (λi σ H' _ hh=>SqL.of (hh.2 _ _ aJ (by simp[nlf,nlr]))) ?_ ?_⟩
 ·rintro i hi σ H3 ⟨⟨x3,x4,x5,rfl⟩,k3,as,zss,ks,eZ,cq,cK,iN,sI,fP,ow,gz,c1,c2,c6,c3,c4,c5⟩
  have dg:=DGet.k (k:=Sum.inr ws[i]) cq
  have T3:TAt H3 d es:=T2.keep k3 (by simp[ndf,pA]) λe he=>by
   have h1:=T.ro e he
   simp[zab h1 gv,zab h1 dY]
  by_cases aA:ws[i]∈ks
  ·rw [valM_in aA] at dg
   refine⟨_,rfl,_,rfl,re,_,rfl,dg,_,rfl,zbw rfl ?_⟩
   refine⟨⟨_,_,_,rfl⟩,k3,as,zss,ks,eZ,cq,cK,iN,by exact zg0 ‹_›,fP,ow,gz,λy hy=>?_,c2,c6,λzs h x hx=>Yp (i:=i) (by rw[List.take_take,Nat.min_eq_left (Kb i)];exact c3 zs h x hx),c4,c5⟩
   rw[Qo hi]at hy
   rcases Qf.mp hy with h | h
   ·exact c1 y h
   ·rw[Qb.mp h];exact aA
  ·rw [zhu aA] at dg
   refine⟨_,rfl,_,rfl,re,_,rfl,dg,_,rfl,zb6 rfl ?_⟩
   have g8:=au.mem_iff.mp (Qq hi)
   refine⟨_,rfl,_,rfl,d,es,cs,aa,ws[i],rfl,T3,bQ,C,g8,λp zs H4 bA cU pO bw qD k4=>?_⟩
   obtain⟨ig,rl⟩:∃ig,ig=ks:=⟨_,rfl⟩
   rw[←rl]at cq fP ow aA c1 c2 c6
   have eV:=k4 _ _ eZ (by simp)
   have dZ:=k4 _ _ cq (by simp)
   have npf:p≠fo:=Zn (zab eZ qD)
   have npr:p≠re:=za3 bA dZ (by intro z;cases z)
   refine⟨_,rfl,.inl ⟨rfl,_,SqL.of eV⟩,_,rfl,fo,_,_,rfl,rfl,eV,(by rw[Qa];lia),?_⟩
   have k5:Keep [fo,re] H2 (upd H4 fo (.lst (as.map V.ref++[.ref p]))):=(k3.trans (k4.sub (by simp))).trans (Keep.wr (by simp))
   have mo:(upd H4 fo (.lst (as.map V.ref++[.ref p]))) fo=some (.lst ((as++[p]).map V.ref)):=by rw[zac,Qt];rfl
   have bX:(upd H4 fo (.lst (as.map V.ref++[.ref p]))) re=some (.dK (marks ig)):=by rw[zad (Zn pz)];exact dZ
   have bf:(upd H4 fo (.lst (as.map V.ref++[.ref p]))) p=some (.lst (zs.map V.str)):=by rw[zad npf];exact bA
   have cv:Paired (zgy (upd H4 fo (.lst (as.map V.ref++[.ref p])))) (as++[p]) (zss++[zs]):=by
    refine zao ?_ (.cons bf .nil)
    have:∀{as:Nk} {zss:List (List Str)},Paired (zgy H3) as zss→(∀a∈as,a≠fo)→Paired (zgy (upd H4 fo (.lst (as.map V.ref++[.ref p])))) as zss:=λ{as zss} r ha=>by
     have h2:∀(L:List V),Paired (zgy (upd H4 fo (.lst L))) as zss:=λL=>by
      induction r with
      |nil=>exact .nil
      |cons h t ih=>exact .cons (by unfold zgy;rw[zad (ha _ List.mem_cons_self)];exact k4 _ _ h (by simp)) (ih λa h=>ha a (List.mem_cons_of_mem _ h))
     exact h2 _
    exact this cK gz
   have mU:∀a∈as++[p],a≠fo:=λa ha=>by
    rcases Qf.mp ha with h | h
    ·exact gz a h
    ·rw[Qb.mp h];exact npf
   generalize upd H4 fo (.lst (as.map V.ref++[.ref p]))=H5 at k5 mo bX bf cv
   refine⟨_,rfl,p,rfl,⟨_,SqL.of bf⟩,zbv (xs:=zs.map V.str) (λj σ H'=>Aj3 (Ex1 λx5=>σ=[some (.ref d),some (.ref fo),some (.ref re),some (.str ws[i]),some (.ref p),x5]) (Keep [re] H5 H') (Ex1 λ(ks:Nj)=>Aj4 (H' re=some (.dK (marks ks))) ks.Nodup (∀z∈ks,z∈es.map (·.1)) (∀z,z∈ks↔z∈ig∨z∈zs.take j)))
    ⟨⟨_,rfl⟩,Keep.refl,ig,bX,fP,ow,λz=>⟨.inl,λh=>h.elim id λh=>(by cases h)⟩⟩ (λj σ H' _ hh=>SqL.of (hh.2 _ _ bf (by simpa using npr))) ?_ ?_⟩
   ·rintro j y σ H6 hy ⟨⟨y5,rfl⟩,k6,ie,dl,eQ,eR,cx⟩
    have hj:j<zs.length:=by
     have:=(Zd.mp hy).1
     rwa[Qa]at this
    obtain⟨z,hz,rfl,ez⟩:∃z,z∈zs∧y=V.str z∧z=zs[j]:=by
     rw[Qr,Qc hj]at hy
     exact⟨zs[j],Qq hj,(Qs hy).symm,rfl⟩
    have step:∀q,(q∈ie∨q=z)↔q∈ig∨q∈zs.take (j+1):=λq=>by
     rw[cx,Qo hj,Qf,Qb,ez,or_assoc]
    have hsz:ie.length≤es.length:=by
     have:=zd1 eQ eR
     rwa[Qa]at this
    refine⟨_,rfl,_,rfl,re,_,rfl,DPut.k (k:=Sum.inr z) dl (by unfold marks;rw[List.length_map];lia),⟨_,rfl⟩,k6.trans (Keep.wr (by simp)),?_⟩
    by_cases dH:z∈ie
    ·exact⟨ie,by rw[zac,putM_old dH],eQ,eR,λq=>by rw[←step q];exact⟨.inl,λh=>h.elim id λe=>e▸dH⟩⟩
    ·refine ⟨ie++[z],by rw [zac,putM_new dH],?_,fun q hq=>?_,fun q=>by rw [← step q,Qf,Qb]⟩
     ·rw [Zj]
      refine⟨eQ,Qz.mpr ⟨by simp,Yc⟩,λa ha b hb e=>?_⟩
      rw[Qb.mp hb]at e
      exact dH (e▸ha)
     ·rcases Qf.mp hq with h | h
      ·exact eR q h
      ·rw[Qb.mp h];exact((bw z).mp hz).1
   ·rintro σ H6 ⟨⟨y5,rfl⟩,k6,ie,dl,eQ,eR,cx⟩
    rw[Qa,Qu (Qd _)]at cx
    have l0:ws[i]∈zs:=(bw _).mpr ⟨g8,rfl⟩
    have gR:zs.head?=some ws[i]:=by
     cases pN:zs with
     |nil=>rw[pN]at l0;cases l0
     | cons m t =>
      have hmz:m∈zs:=by rw[pN];exact Qe
      obtain⟨lL,gm⟩:=(bw m).mp hmz
      obtain⟨j,hj,ej⟩:=Zf (au.mem_iff.mpr lL)
      have h1:leS m ws[i]:=by
       rw[pN]at l0 pO
       rcases Qh.mp l0 with q | q
       ·rw[q];exact λz=>Wi _ z
       ·exact(Ua.mp pO).1 _ q
      have aX:i≤j:=Nat.le_of_not_lt λae=>by
       have gL:m∈ig:=c1 m (by rw[←ej,←Ud (j:=i) (h:=by rw[Zc];omega)];exact Qq _)
       obtain⟨cH,nY,qX⟩:=c2 m gL
       obtain⟨_,s,_,hs⟩:=iN cH nY
       exact aA (c6 cH nY _ ((hs _).mpr ⟨g8,gm.symm.trans ((hs m).mp qX).2⟩))
      have h2:leS ws[i] m:=by
       rcases Nat.lt_or_eq_of_le aX with q | q
       ·rw[←ej];exact Wy.mp aN i j hi hj q
       ·subst q;rw[ej];exact λz=>Wi _ z
      rw[zdv _ _ h1 h2];rfl
    have tk:ws.take (i+1)=ws.take i++[ws[i]]:=Qo hi
    refine⟨⟨_,_,_,rfl⟩,k5.trans (k6.sub (by simp)),as++[p],zss++[zs],ie,k6 _ _ mo (by simpa using pz),dl,Paired.imp' (λa zs h=>k6 _ _ h (by simpa using za3 h bX (by intro z;cases z))) cv,λq hq=>?_,by rw[Qm];show _+1≤_;exact zar4 ‹_›,eQ,eR,mU,λy hy=>?_,λy hy=>?_,λq hq y hy=>?_,λq hq x hx=>?_,?_,λq hq=>?_⟩
    ·rcases Qf.mp hq with h | h
     ·exact iN q h
     ·rw[Qb.mp h];exact⟨cU,ws[i],g8,bw⟩
    ·rw [tk] at hy
     rcases Qf.mp hy with h | h
     ·exact(cx y).mpr (.inl (c1 y h))
     ·rw[Qb.mp h];exact(cx _).mpr (.inr l0)
    ·rcases (cx y).mp hy with h | h
     ·obtain ⟨z,hz,kU⟩:=c2 y h
      exact⟨z,Qv _ hz,kU⟩
     ·exact⟨zs,Qj _ Qe,h⟩
    ·rcases Qf.mp hq with h | h
     ·exact(cx y).mpr (.inl (c6 q h y hy))
     ·rw[Qb.mp h]at hy;exact(cx y).mpr (.inr hy)
    ·rw [tk]
     rcases Qf.mp hq with h | h
     ·exact Qv _ (c3 q h x hx)
     ·rw [Qb.mp h,gR] at hx
      rw[←Qs hx];exact Qj _ Qe
    ·rw [Zv]
     refine⟨c4,Xj _ _,λa ha b hb x hx y hy=>?_⟩
     rw[Qb.mp hb,gR]at hy
     rw[←Qs hy]
     obtain⟨j,hj,ej⟩:=Zf (c3 a ha x hx)
     rw[Zc]at hj
     rw[←ej,Ud]
     exact Wy.mp aN j i (by omega) hi (by omega)
    ·rcases Qf.mp hq with h | h
     ·exact c5 q h
     ·rw[Qb.mp h];exact pO
 ·rintro σ H3 ⟨⟨x3,x4,x5,rfl⟩,k3,as,zss,ks,eZ,cq,cK,iN,sI,fP,ow,gz,c1,c2,c6,c3,c4,c5⟩
  rw[Qa,Qu (Qd _)]at c1
  refine⟨_,rfl,k fo as zss H3 eZ cK iN ⟨c5,c4,λy hy=>c2 y (c1 y (au.mem_iff.mpr hy))⟩ λc u ec _=>k3 c u (pL c u ec (by simp)) (by simp[zab ec gv,zab ec dY])⟩
end
end K21
end
section
namespace L2
open PySem
def lc_filt(T:St→Prop)(q:V→Bool)(ha:SqL K H a xs)(hn:xs.length≤sizeLine)(h0:T τ)(hs:∀x∈xs,∀τ,T τ→∀(k1:V→St→Hp→Prop) (k0:St→Hp→Prop),(q x=true→∀τ2,T τ2→k1 x τ2 H)→(q x=false→∀τ2,T τ2→k0 τ2 H)→g x τ H λ τ2 H2=>tc τ2 H2 λb H3=>if b=true then te τ2 H3 λy H4=>k1 y τ2 H4 else k0 τ2 H3)(hq:∀D,H D=none→Q (.ref D) (upd H D (.lst (xs.filter q)))):rLC g tc te Q (Itl K a) τ H:=by
 refine⟨λi m ys τ H1=>Aj5 (H1=H) (T τ) (m=xs.length-i) (i≤xs.length) (ys=(xs.take i).filter q),⟨_,rfl,h0,rfl,Zh _,rfl⟩,?_⟩
 rintro i m ys τ H1 ⟨rfl,ht,rfl,hi,rfl⟩
 by_cases ae:i<xs.length
 ·have ms:((xs.take i).filter q).length≤i:=Zi (List.length_filter_le _ _) (by rw [Zc];lia)
  refine .inr ⟨⟨xs,xs[i],ha,Qc ae⟩,by lia,?_⟩
  rintro x H' ⟨rfl,hx⟩
  have c7:=hx xs ha
  rw[Qc ae]at c7
  have iq:xs[i]=x:=Qs c7
  have aQ:xs.take (i+1)=xs.take i++[x]:=by rw[Qo ae,iq]
  refine hs x (iq▸Qq ae) τ ht (λy τ2 H4=>∃m',m'<xs.length-i∧Aj5 (H4=H') (T τ2) (m'=xs.length-(i+1)) (i+1≤xs.length) ((xs.take i).filter q++[y]=(xs.take (i+1)).filter q))
   (λ τ2 H4=>∃m',m'<xs.length-i∧Aj5 (H4=H') (T τ2) (m'=xs.length-(i+1)) (i+1≤xs.length) ((xs.take i).filter q=(xs.take (i+1)).filter q)) (λqz τ2 h2=>?_) λqz τ2 h2=>?_
  ·exact⟨_,by exact zar1 ‹_›,rfl,h2,rfl,ae,by rw[aQ,Wr,Yl qz,Ux]⟩
  ·exact⟨_,by exact zar1 ‹_›,rfl,h2,rfl,ae,by rw[aQ,Wr,Ym (by rw[qz];decide),Ux,Zs]⟩
 ·have e:i=xs.length:=by exact zar3 ‹_› ‹_›
  subst e
  refine .inl ⟨⟨xs,ha,Qd _⟩,λD hD=>?_⟩
  rw[Qu (Qd _)]
  exact hq D hD
end L2
namespace K21
open PySem L2 Wb
def sum_filter{α:Type}{p:α→Bool}{f:α→Int}:∀l:List α,(l.map λx=>if p x=true then f x else 0).sum=((l.filter p).map f).sum:=by
 intro l
 induction l with
 |nil=>rfl
 |cons a t ih =>
  rw[Qk,Yo,ih]
  by_cases h:p a=true
  ·rw[if_pos h,Yl h,Qk,Yo]
  ·rw[if_neg h,Ym h];lia
def sum_parts{α:Type}{f:α→List Str}:∀l:List α,(l.map λx=>(2:Int)+(if f x=[] then 2 else 0)-((f x).length:Int)).sum=2*(l.length:Int)+2*((l.filter λx=>(f x).isEmpty).length:Int)-(((l.map λx=>(f x).length).sum:Nat):Int):=by
 intro l
 induction l with
 |nil=>rfl
 |cons a t ih =>
  rw[Qk,Yo,ih,Qk,Yo,Zg]
  by_cases h:f a=[]
  ·rw[Yl (by rw[h];rfl),Zg,if_pos h];lia
  ·rw[Ym (by rw[List.isEmpty_iff];exact h),if_neg h];lia
def sum_twos{α:Type}{p:α→Bool}:∀l:List α,(l.map λx=>if p x=true then(2:Int) else 0).sum=2*((l.filter p).length:Int):=by
 intro l
 induction l with
 |nil=>rfl
 |cons a t ih =>
  rw[Qk,Yo,ih]
  by_cases h:p a=true
  ·rw[if_pos h,Yl h,Zg];lia
  ·rw[if_neg h,Ym h];lia
def iso_eq{es:List Ent}(nd:(es.map (·.1)).Nodup):ze2 es=(es.map (·.1)).filter λx=>(row (rsOf es) x).isEmpty:=by
 unfold ze2
 rw[List.filter_map]
 congr 1
 exact List.filter_congr λe he=>by
  show e.2.1.isEmpty=(row (rsOf es) e.1).isEmpty
  rw[zbp nd he]
def piece_count{es:List Ent}{cs bd:List (List (Str×Str))}{aa:Nu}(C:Cert (es.map (·.1)) (row (rsOf es)) cs aa){zs hd hc:Nj}(hz:IsPiece (es.map (·.1)) aa zs)(hh:hd.Perm (ze2 es++hc))(mG:bd.Perm cs)(hp:Paired (fun h c=>∃ s∈c,s.1=h) hc bd) :
  2*zs.length+2*(hd.filter λh=>decide (h∈zs)).length=(zs.map λx=>(row (rsOf es) x).length).sum+4:=by
 obtain⟨cU,s,hs,bw⟩:=hz
 have heu:=C.eu s hs
 have p1:((es.map (·.1)).filter λx=>decide (aa x=aa s)).Perm zs:=(List.perm_ext_iff_of_nodup (Us Ks C.nd) cU).mpr λy=>by
  rw[Jt,decide_eq_true_iff,bw]
 have e1:wt (es.map (·.1)) (row (rsOf es)) aa (aa s)=2*(zs.length:Int)+2*((zs.filter λx=>(row (rsOf es) x).isEmpty).length:Int)-(((zs.map λx=>(row (rsOf es) x).length).sum:Nat):Int):=by
  unfold wt
  have:=sum_filter (p:=λx=>decide (aa x=aa s)) (f:=λx=>(2:Int)+(if row (rsOf es) x=[] then 2 else 0)-((row (rsOf es) x).length:Int)) (es.map (·.1))
  simp only[decide_eq_true_eq]at this
  rw[this,zh7 (p1.map _),sum_parts]
 have e2:ct cs aa (aa s)=2*((cs.filter λc=>c.any λu=>decide (aa u.1=aa s)).length:Int):=sum_twos _
 have e3:(hd.filter λh=>decide (h∈zs)).length=((ze2 es).filter λh=>decide (h∈zs)).length+(hc.filter λh=>decide (h∈zs)).length:=by
  rw[(hh.filter _).length_eq,Wr,Qm]
 have e4:((ze2 es).filter λh=>decide (h∈zs)).length=(zs.filter λx=>(row (rsOf es) x).isEmpty).length:=by
  refine List.Perm.length_eq ((List.perm_ext_iff_of_nodup ?_ (Us Ks cU)).mpr λy=>?_)
  ·rw [iso_eq C.nd]
   exact Us Ks (Us Ks C.nd)
  ·rw [iso_eq C.nd,Jt,Jt,Jt,decide_eq_true_iff]
   exact⟨λ⟨⟨_,a⟩,b⟩=>⟨b,a⟩,λ⟨a,b⟩=>⟨⟨((bw y).mp a).1,b⟩,a⟩⟩
 have e5:(hc.filter λh=>decide (h∈zs)).length=(bd.filter λc=>c.any λu=>decide (aa u.1=aa s)).length:=by
  have aA:∀c∈bd,c∈cs:=λc h=>mG.mem_iff.mp h
  clear mG e3 e4 hh
  induction hp with
  |nil=>rfl
  | cons h t ih =>
   rename_i h0 c0 _ _
   have iht:=ih λc hc=>aA c (Qg _ hc)
   obtain⟨u,hu,rfl⟩:=h
   have hU:=aA c0 Qe
   have hun:u.1∈es.map (·.1):=C.inn' (C.inc hU hu)
   by_cases hz:u.1∈zs
   ·have hl:=((bw _).mp hz).2
    have sK:(c0.any λu=>decide (aa u.1=aa s))=true:=Wf.mpr ⟨u,hu,decide_eq_true hl⟩
    rw[Yl (by simpa using hz),Yl (p:=λc:List (Str×Str)=>c.any λu=>decide (aa u.1=aa s)) sK,Zg,Zg,iht]
   ·rw [Ym (by simpa using hz),Ym,iht]
    intro q
    obtain⟨v,hv,e⟩:=Wf.mp q
    exact hz ((bw _).mpr ⟨hun,(C.one_lab hU hv hu).trans (of_decide_eq_true e)⟩)
 have e6:=(mG.filter λc=>c.any λu=>decide (aa u.1=aa s)).length_eq
 lia
def ix_listK(hK:X.K=K):IxR X (rIxL K):=hK▸zat
def op_in_seqK(hK:X.K=K):OpR X (compareOp .In) (rIn K false):=hK▸zgb
def zis(hK:X.K=K):zb3 X (.builtin "len") (λxs H Q=>Ex2 λp ys=>Aj3 (xs=[.ref p]) (SqL K H p ys∨SqT K H p ys) (Q (.int ys.length) H)):=hK▸zan
abbrev zg3:Stmt:=top 18
inductive IspFlat(vs:List V)(H:Hp)(Q:VK):Prop
 |mk (d:Nc) (es:List Ent) (cs:List (List (Str×Str))) (aa:Nu) (h0:vs=[.ref d]) (h1:TAt H d es) (h2:es.length≤60) (h3:(∀e∈es,e.2.1.length≤100)) (h4:Cert (es.map (·.1)) (row (rsOf es)) cs aa) (h5:∀H',Keep [] H H'→Q .non H'):IspFlat vs H Q
def spFlat:Sp:=λvs H Q _=>IspFlat vs H Q
abbrev csFlA:Scope:=scOf (aOf 0 (aOf 0 (eOf (bAt (sAt zg3 1) 1))))
abbrev csFlB:Scope:=scOf (aOf 0 (eOf (bAt (sAt zg3 1) 2)))
def csFlA_k:csFlA.kind=.function:=by rfl
def csFlA_c:∀y∈csFlA.names,y.2≠.cell:=by decide +kernel
def csFlA_n:∀y∈csFlA.names,y.2=.local→csFlA.names.lookup y.1=some .local:=by decide +kernel
def csFlA_f:∀y∈csFlA.names,y.2=.free→(zag zg3).names.lookup y.1=some .cell∨(zag zg3).names.lookup y.1=some .free:=by decide +kernel
def csFlA_l:csFlA.names.lookup ("rounds" : Str)=some NameKind.free:=by decide +kernel
def csFlB_k:csFlB.kind=.function:=by rfl
def csFlB_c:∀y∈csFlB.names,y.2≠.cell:=by decide +kernel
def csFlB_n:∀y∈csFlB.names,y.2=.local→csFlB.names.lookup y.1=some .local:=by decide +kernel
def csFlB_f:∀y∈csFlB.names,y.2=.free→(zag zg3).names.lookup y.1=some .cell∨(zag zg3).names.lookup y.1=some .free:=by decide +kernel
def csFlB_l:csFlB.names.lookup ("piece" : Str)=some NameKind.free:=by decide +kernel
def ndFB:(["face", "piece"]:List Str).Nodup:=by decide +kernel
def inPc(H:Hp)(zs:Nj):V→Bool
 |.ref a=>match H a with
  |some (.lst (.str h::_))=>decide (h∈zs)
  |_=>false
 |_=>false
def inPc_ref(e:zdg H a h):inPc H zs (.ref a)=decide (h∈zs):=by
 obtain⟨t,e⟩:=e
 show(match H a with | some (.lst (.str h::_))=>decide (h∈zs) | _=>false)=_
 rw[e];rfl
def filt_len(r:Paired (zdg H) as hd):((as.map V.ref).filter (inPc H zs)).length=(hd.filter λh=>decide (h∈zs)).length:=by
 induction r with
 |nil=>rfl
 |cons h t ih =>
  rename_i a b _ _
  rw[Qk]
  have e:=inPc_ref (zs:=zs) h
  by_cases hz:b∈zs
  ·rw[Yl (by rw[e];simpa using hz),Yl (by simpa using hz),Zg,Zg,ih]
  ·rw[Ym (by rw[e];simpa using hz),Ym (by simpa using hz),ih]
def sum_cast(ns:List Nat):(ns.map λn:Nat=>(n:Int)).sum=((ns.sum:Nat):Int):=by
 induction ns with
 |nil=>rfl
 |cons a t ih=>rw[Qk,Yo,Yo,ih];lia
section
variable{P:Ni}{w:Nl}{K:Na}{mg:Nf}{base:Nm}
def zhb:zap ["rounds", "found", "piece", "many_places", "many_ties", "many_faces"] ["rounds"] (zag zg3):=fsk
def ok_flat(F:Fun K "refuse_not_flat" "refuse_not_flat" zg3 f fd)(FF:Fun K "faces_of" "faces_of" zfc ff fdf)(bF:Binds K fdf ["rounds"] [])(mF:mg "faces_of" = some (.ref ff))(GF:FnOk P w K mg base CX0 2 ff fdf ["rounds"] spFaces)(FP:Fun K "pieces_of" "pieces_of" zh0 fp fdp)(bP:Binds K fdp ["rounds"] [])(mP:mg "pieces_of" = some (.ref fp))(GP:FnOk P w K mg base CX0 2 fp fdp ["rounds"] spPieces)(ad:mg "len" = none)(qm:mg "sum" = none):FnOk P w K mg base CX0 3 f fd ["rounds"] spFlat:=by
 refine F.okL zhb (λcdv A outer s H vs Q E hr h=>?_)
 obtain⟨d,es,cs,aa,rfl,T,bQ,aR,C,k⟩:=h
 have hu:=zck hr
 have aT  := sizeLine_eq
 refine⟨_,zae (zau 1 zhb.nd (zam GF hr rfl mF FF.kp bF .nil za0 (zaa (pv 0) zaf)))
  (zah (zbq Zq rfl (za7 (zam GP hr rfl mP FP.kp bP .nil za0 (zaa (pv 0) zaf))) (zf5 (i:=2) zhb.nd rfl (Or.inr rfl))
   (zae (zau 3 zhb.nd (zaj zan (by rfl) ad Zz (zaa (pv 2) zaf)))
   (zae (zau 4 zhb.nd (zav zgc (zaj (call_sum rfl) (by rfl) qm PyProof.Rows.boot_sum (zaa (pe_lc (M:=["place", "rounds"]) (ix:=[none,some 0]) ⟨csFlA_k,csFlA_c,csFlA_n,csFlA_f,rfl,by decide +kernel,λj i x h1 h2=>by
      match j,h1,h2 with
      |0,_,h2=>cases h2
      |1,h1,h2=>cases h1;cases h2;exact⟨rfl,csFlA_l⟩
      |n+2,h1,_=>cases h1⟩ rfl (za7 (pv 2)) (λC a7 ex s H=>zbf 0 ndF) (λC a7 ex s H=>zdi)
      (λC a7 ex s H=>zaj (zis (K:=K) rfl) (by rfl) (by exact ad) Zz (zaa (zh8 (by exact hu) (pv 1) (pv 0)) zaf))) zaf)) zai))
   (zae (zau 5 zhb.nd (zaj zan (by rfl) ad Zz (zaa (pe_lc (M:=["face", "piece"]) (ix:=[none,some 2]) ⟨csFlB_k,csFlB_c,csFlB_n,csFlB_f,rfl,by decide +kernel,λj i x h1 h2=>by
      match j,h1,h2 with
      |0,_,h2=>cases h2
      |1,h1,h2=>cases h1;cases h2;exact⟨rfl,csFlB_l⟩
      |n+2,h1,_=>cases h1⟩ rfl (za7 (pv 1)) (λC a7 ex s H=>zbf 0 ndFB)
      (λC a7 ex s H=>zh5 (za5 (op_in_seqK (K:=K) rfl) (zbg (ix_listK (K:=K) rfl) (pv 0) zai (λ_ _=>rfl)) (pv 1) rfl)) (λC a7 ex s H=>pv 0)) zaf)))
   (zah (zcc (za5 op_ne (zav zb0 (pv 3) (pv 5)) (zav zb0 (pv 4) zai) (zbt _)) (zah zfi) zba)))))))  ,?_⟩
 refine⟨_,rfl,d,es,cs,aa,rfl,T,bQ,aR,C,λfo fas hd hc bd H1 fe hfal gS hhp mG dP k1=>?_⟩
 have T1:TAt H1 d es:=T.keep k1 (by simp) (λ_ _=>by simp)
 refine⟨_,rfl,d,es,cs,aa,rfl,T1,bQ,C,λl as zss H2 aJ bz iN _ k2=>?_⟩
 have T2:TAt H2 d es:=T1.keep k2 (by simp) (λ_ _=>by simp)
 have jl:=k2 _ _ fe (by simp)
 have gr:Paired (zdg H2) fas hd:=zc0 (D:=d) (g:=d) k2 gS (λ_ _ _ _=>by simp)
 refine⟨l,rfl,⟨_,SqL.of aJ⟩,zbv (xs:=as.map V.ref) (λi σ H'=>Aj2 (Keep [] H2 H') (Ex4 λx2 x3 x4 x5=>σ=[some (.ref d),some (.ref fo),x2,x3,x4,x5])) ⟨Keep.refl,_,_,_,_,rfl⟩ (λi σ H' _ hh=>SqL.of (hh.1 _ _ aJ (by simp))) ?_ ?_⟩
 ·rintro i y σ H3 hx ⟨k3,x2,x3,x4,x5,rfl⟩
  have hi:i<as.length:=by
   have:=(Zd.mp hx).1
   rwa[Qa]at this
  have im:y=.ref as[i]:=by
   rw[Qr,Qc hi]at hx
   exact(Qs hx).symm
  subst im
  obtain⟨aw,bp⟩:=zaz bz hi
  have o9:=iN _ (Qq aw)
  have jw:=piece_count C o9 hhp mG dP
  generalize zss[i]=zs at bp o9 jw
  have gB:H3 as[i]=some (.lst (zs.map V.str)):=k3 _ _ bp (by simp)
  have il:∀z∈zs,∃e∈es,e.1=z:=λz hz=>by
   obtain⟨_,s,_,hm⟩:=o9
   exact Ql.mp ((hm z).mp hz).1
  have cV:zs.length≤100:=by
   have:=zd1 o9.1 (m:=es.map (·.1)) λz hz=>by
    obtain⟨e,he,rfl⟩:=il z hz
    exact Ql.mpr ⟨e,he,rfl⟩
   rw[Qa]at this
   omega
  refine⟨_,rfl,as[i],_,rfl,.inl (SqL.of gB),?_⟩
  have T3:TAt H3 d es:=T2.keep k3 (by simp) (λ_ _=>by simp)
  refine⟨_,rfl,as[i],rfl,⟨_,SqL.of gB⟩,lc_at (xs:=zs.map V.str) (λ τ=>∃x0,τ=[x0,some (.ref d)]) ((zs.map λx=>((row (rsOf es) x).length:Int)).map V.int) (by rw[Qa,Qa,Qa]) (SqL.of gB) (by rw[Qa];lia) ⟨none,rfl⟩ ?_ (λD hD=>?_)⟩
  ·rintro j hj kb τ ⟨x0,rfl⟩ kk hk
   rw[Qa]at hj
   rw[Yd]
   obtain⟨en,bU,cY⟩:=il _ (Qq hj)
   have dg:DGet H3 d (.str zs[j]) (some (.ref en.2.2)):=by
    have:=DGet.k (k:=Sum.inr en.1) T3.dc
    rw[zeb T3.nd bU,cY]at this
    exact this
   refine⟨_,rfl,_,rfl,d,_,rfl,dg,en.2.2,_,rfl,.inr (SqT.of (T3.ro en bU)),?_⟩
   have e:((zs.map λx=>((row (rsOf es) x).length:Int)).map V.int)[j]=V.int ((en.2.1.map V.str).length:Int):=by
    rw[Yd,Yd,←cY,zbp T3.nd bU,Qa]
   rw[e]at hk
   exact hk _ ⟨_,rfl⟩
  ·have k4:Keep [] H3 (upd H3 D (.lst ((zs.map fun x=>((row (rsOf es) x).length:Int)).map V.int))):=Keep.new hD
   have hD4:(upd H3 D (.lst ((zs.map λx=>((row (rsOf es) x).length:Int)).map V.int))) D=some (.lst ((zs.map λx=>((row (rsOf es) x).length:Int)).map V.int)):=zac
   generalize upd H3 D (.lst ((zs.map λx=>((row (rsOf es) x).length:Int)).map V.int))=H4 at k4 hD4
   refine⟨D,_,rfl,SqL.of hD4,by rw[Qa];lia,λn hn=>?_,?_⟩
   ·obtain ⟨z,hz,rfl⟩:=Ql.mp hn
    obtain⟨en,bU,cY⟩:=il z hz
    have h1:=aR en bU
    rw[←cY,zbp T3.nd bU]
    lia
   ·have lu:(zs.map fun x=>((row (rsOf es) x).length:Int)).sum=(((zs.map fun x=>(row (rsOf es) x).length).sum:Nat):Int):=by
     rw[←sum_cast,Zp];rfl
    rw[lu]
    refine⟨_,_,rfl,rfl,⟨by decide,by decide⟩,?_⟩
    have eV:=k4 _ _ (k3 _ _ jl (by simp)) (by simp)
    have sO:=k4 _ _ gB (by simp)
    have me:Paired (zdg H4) fas hd:=zc0 (D:=d) (g:=d) (k3.trans k4) gr (λ_ _ _ _=>by simp)
    refine⟨_,rfl,fo,rfl,⟨_,SqL.of eV⟩,lc_filt (xs:=fas.map V.ref) (λ τ=>∃x0,τ=[x0,some (.ref as[i])]) (inPc H4 zs) (SqL.of eV) (by rw[Qa];lia) ⟨none,rfl⟩ ?_ (λD2 kD=>?_)⟩
    ·rintro x hx τ ⟨x0,rfl⟩ kk1 kk0 hk1 hk0
     obtain⟨a,ha,rfl⟩:=Ql.mp hx
     obtain⟨j,hj,rfl⟩:=Zf ha
     obtain⟨bH,fS⟩:=zaz me hj
     have aA:=inPc_ref (zs:=zs) fS
     obtain⟨t,et⟩:=fS
     refine⟨_,rfl,fas[j],_,_,_,rfl,rfl,SqL.of et,zax (j:=0) rfl,_,rfl,as[i],_,rfl,.inl (SqL.of sO),rfl,zcm zs,_,rfl,?_⟩
     cases hb:decide (hd[j]∈zs) with
     |true=>exact zb6 (show inV _ _=true by rw[ze3];exact hb) ⟨_,rfl,hk1 (aA.trans hb) _ ⟨_,rfl⟩⟩
     |false=>exact zbw (show inV _ _=false by rw[ze3];exact hb) (hk0 (aA.trans hb) _ ⟨_,rfl⟩)
    ·have k5:Keep [] H4 (upd H4 D2 (.lst ((fas.map V.ref).filter (inPc H4 zs)))):=Keep.new kD
     refine⟨D2,_,rfl,.inl (SqL.of zac),?_⟩
     rw[filt_len me]
     refine⟨_,rfl,_,rfl,_,_,rfl,rfl,_,rfl,_,_,rfl,rfl,rfl,_,rfl,zbw ?_ ?_⟩
     ·rw [Jz,decide_eq_true_iff]
      refine congrArg V.int ?_
      rw[Qa]
      lia
     ·exact⟨(k3.trans k4).trans k5,_,_,_,_,rfl⟩
 ·rintro σ H3 ⟨k3,x2,x3,x4,x5,rfl⟩
  exact k H3 ((k1.trans k2).trans k3)
end
end K21
end
section
namespace K21
open PySem L2 Wb
abbrev sInit:Stmt:=inClass sWeb 0
abbrev Turned:List Ent→List Ent→Prop:=Paired λt e=>t.1=e.1∧∃k,t.2.1=e.2.1.drop k++e.2.1.take k
inductive IspInit(C:Nc)(vs:List V)(H:Hp)(Q:VK):Prop
 |mk (x dx l:Nc) (as:Nk) (es:List Ent) (cs:List (List (Str×Str))) (aa:Nu) (h0:vs=[.ref x,.ref l]) (h1:H x=some (.ins C dx [])) (h2:RwAt H l as es) (h3:es.length≤40) (h4:(∀e∈es,zc3 e.1)) (h5:Cert (es.map (·.1)) (row (rsOf es)) cs aa) (h6:∀(d:Nc) (ts es2:List Ent) (H':Hp),WAt H' C x dx d ts→es2.Perm es→Turned ts es2→(∀e∈ts,Frst e.2.1)→(ts.map (·.1)).Pairwise leS→Keep [x] H H'→Q .non H'):IspInit C vs H Q
def spInit(C:Nc):Sp:=λvs H Q _=>IspInit C vs H Q
def zb9(h:Turned ts es):ts.map (·.1)=es.map (·.1):=by
 induction h with
 |nil=>rfl
 |cons h t ih=>rw[Qk,Qk,h.1,ih]
def zha(h:Turned ts es)(ht:t∈ts):∃e∈es,t.1=e.1∧∃k,t.2.1=e.2.1.drop k++e.2.1.take k:=by
 induction h with
 |nil=>cases ht
 | cons h _ ih =>
  rcases Qh.mp ht with z | z
  ·subst z;exact⟨_,Qe,h⟩
  ·obtain ⟨e,he,r⟩:=ih z
   exact⟨e,Qg _ he,r⟩
def zey(h:Turned ts es2)(hp:es2.Perm es)(nd:(es.map (·.1)).Nodup):∀x,∃k,row (rsOf ts) x=(row (rsOf es) x).drop k++(row (rsOf es) x).take k:=λx=>by
 have nM:(ts.map (·.1)).Nodup:=by rw[zb9 h];exact(hp.map _).nodup_iff.mpr nd
 by_cases hx:x∈ts.map (·.1)
 ·obtain ⟨t,ht,rfl⟩:=Ql.mp hx
  obtain⟨e,he,e1,k,e2⟩:=zha h ht
  refine⟨k,?_⟩
  rw[zbp nM ht,e1,zbp nd (hp.mem_iff.mp he),e2]
 ·refine ⟨0,?_⟩
  have kZ:x∉es.map (·.1):=λz=>hx (by rw[zb9 h];exact(hp.map _).mem_iff.mpr z)
  have n1:x∉(rsOf ts).map (·.1):=by unfold rsOf;rw[List.map_map];exact hx
  have n2:x∉(rsOf es).map (·.1):=by unfold rsOf;rw[List.map_map];exact kZ
  rw[zcu n1,zcu n2];rfl
abbrev csInit:Scope:=scOf (eOf (sAt sInit 3))
def csInit_k:csInit.kind=.function:=by rfl
def csInit_c:∀y∈csInit.names,y.2≠.cell:=by decide +kernel
def csInit_n:∀y∈csInit.names,y.2=.local→csInit.names.lookup y.1=some .local:=by decide +kernel
def csInit_f:∀y∈csInit.names,y.2=.free→(zag sInit).names.lookup y.1=some .cell∨(zag sInit).names.lookup y.1=some .free:=by decide +kernel
section
variable{P:Ni}{w:Nl}{K:Na}{mg:Nf}{base:Nm}
def scInit:zap ["self", "rows", "rounds"] ["self", "rows"] (zag sInit):=fsk
def ok_init(F:Fun K "__init__" "Web.__init__" sInit f fd)(cW:Cls K C)(nW:zdf K C "rounds")(FN:Fun K "refuse_no_names" "refuse_no_names" zfo fn fdn)(bN:Binds K fdn ["rows"] [])(mN:mg "refuse_no_names" = some (.ref fn))(GN:FnOk P w K mg base CX0 2 fn fdn ["rows"] spNoNames)(FT:Fun K "refuse_twice" "refuse_twice" zd0 ft fdt)(bT:Binds K fdt ["rows"] [])(mT:mg "refuse_twice" = some (.ref ft))(GT:FnOk P w K mg base CX0 1 ft fdt ["rows"] spTwice)(FO:Fun K "refuse_one_way" "refuse_one_way" zh1 fo fdo)(bO:Binds K fdo ["rows"] [])(mO:mg "refuse_one_way" = some (.ref fo))(GO:FnOk P w K mg base CX0 1 fo fdo ["rows"] spOneWay)(FL:Fun K "from_least" "from_least" sLeast fl fdl)(bL:Binds K fdl ["around"] [])(mL:mg "from_least" = some (.ref fl))(GL:FnOk P w K mg base CX0 1 fl fdl ["around"] spLeast)(FF:Fun K "refuse_not_flat" "refuse_not_flat" zg3 ff fdf)(bF:Binds K fdf ["rounds"] [])(mF:mg "refuse_not_flat" = some (.ref ff))(GF:FnOk P w K mg base CX0 3 ff fdf ["rounds"] spFlat)(aE:mg "sorted" = none):FnOk P w K mg base CX0 4 f fd ["self", "rows"] (spInit C):=by
 refine F.okL scInit (λcdv A outer s H vs Q E hr h=>?_)
 obtain⟨x,dx,l,as,es,cs,aa,rfl,hx,R,bQ,hok,Ct,k⟩:=h
 have hu:=zck hr
 have aI:Room 1 _:=hr.mono (by decide)
 have c9:Room 2 _:=hr.mono (by decide)
 have aT  := sizeLine_eq
 refine⟨_,zae (zay (zam GN c9 rfl mN FN.kp bN .nil za0 (zaa (pv 1) zaf)))
  (zae (zay (zam GT aI rfl mT FT.kp bT .nil za0 (zaa (pv 1) zaf)))
  (zae (zay (zam GO aI rfl mO FO.kp bO .nil za0 (zaa (pv 1) zaf)))
  (zae (ps_dc (i:=2) (M:=["place", "around"]) (ix:=[none,none]) scInit.nd rfl rfl (noB (n:=2) csInit_k csInit_c csInit_n csInit_f rfl ndPA) rfl
    (za7 (zaj zfk (by rfl) aE Yn (zaa (pv 1) zaf)))
    (λC a7 ex s H=>zf4 (K:=K) (n:=2) rfl rfl (za1 (zbf 0 ndPA) (za1 (zbf 1 ndPA) zcv)))
    (λC a7 ex s H=>zdi) (λC a7 ex s H=>pv 0) (λC a7 ex s H=>zam GL (by exact aI) rfl (by exact mL) FL.kp bL .nil za0 (zaa (pv 1) zaf)) rfl)
  (zae (zay (zam GF hr rfl mF FF.kp bF .nil za0 (zaa (pv 2) zaf)))
  (zah (ps_fld (pv 0) (pv 2) rfl)))))),?_⟩
 have aK:(es.map (·.1)).Nodup:=Ct.nd
 have aF:∀e∈es,row (rsOf es) e.1=e.2.1:=λe he=>zbp aK he
 have lB:∀e∈es,e.2.1.Nodup:=λe he=>aF e he▸Ct.rn e.1
 have dU:∀e∈es,∀y∈e.2.1,y∈es.map (·.1):=λe he y hy=>Ct.inn' (x:=e.1) (by rw[aF e he];exact hy)
 have aR:∀e∈es,e.2.1.length≤40:=λe he=>by
  have:=zd1 (lB e he) (dU e he)
  rw[Qa]at this
  exact Zi ‹_› ‹_›
 refine⟨_,rfl,l,as,es,rfl,R,λe he=>⟨Zi (aR e he) (by decide),hok e he,λy hy=>?_⟩,λH1 k1=>?_⟩
 ·obtain ⟨e',ax,rfl⟩:=Ql.mp (dU e he y hy)
  exact hok e' ax
 have R1:=R.keep k1
 refine⟨_,rfl,l,as,es,rfl,R1,by lia,aK,λe he=>⟨Zi (aR e he) (by decide),lB e he⟩,λH2 k2=>?_⟩
 have R2:=R1.keep k2
 refine⟨_,rfl,l,as,es,rfl,R2,aK,λe he=>⟨?_,λy hy=>?_⟩,λH3 k3=>?_⟩
 ·rw[←aF e he];exact Ct.ir e.1
 ·obtain ⟨e',ax,bq⟩:=Ql.mp (dU e he y hy)
  have kX:e'.1=y:=bq
  refine⟨e',ax,kX,?_⟩
  rw[←aF e' ax,kX]
  exact Ct.sy e.1 y (by rw[aF e he];exact hy)
 have R3:=R2.keep k3
 have k03:Keep [] H H3:=(k1.trans k2).trans k3
 have cS:as.length=es.length:=Zt R3.ts
 refine⟨_,rfl,l,_,rfl,SqL.of R3.ls,λv hv=>?_,λv hv u hu e=>?_,λl2 wsV aJ au aN=>?_⟩
 ·obtain ⟨a,ha,rfl⟩:=Ql.mp hv
  obtain⟨i,hi,rfl⟩:=Zf ha
  obtain⟨aw,h⟩:=zaz R3.ts hi
  exact⟨_,_,_,rfl,h⟩
 ·obtain ⟨a,ha,rfl⟩:=Ql.mp hv
  obtain⟨b,hb,rfl⟩:=Ql.mp hu
  obtain⟨i,hi,rfl⟩:=Zf ha
  obtain⟨j,hj,rfl⟩:=Zf hb
  obtain⟨aw,h1⟩:=zaz R3.ts hi
  obtain⟨bH,h2⟩:=zaz R3.ts hj
  rw[zc7 h1,zc7 h2]at e
  have e':es[i].1=es[j].1:=by
   have q:es[i].1.cps.toList=es[j].1.cps.toList:=e
   generalize es[i].1=a1 at q ⊢
   generalize es[j].1=a2 at q ⊢
   cases a1;cases a2
   congr 1
   exact Xn.mp q
  have e2:(es.map (·.1))[i]'(by rw[Qa];exact aw)=(es.map (·.1))[j]'(by rw[Qa];exact bH):=by rw[Yd,Yd];exact e'
  have:=(Wn aK).mp e2
  subst this
  rfl
 ·obtain ⟨ap,rfl,aS⟩:=zf1 au
  obtain⟨es2,dq,lj⟩:=zc8 aS R3.ts
  have k4:Keep [] H3 (upd H3 l2 (.lst (ap.map V.ref))):=Keep.new aJ
  have jb:(upd H3 l2 (.lst (ap.map V.ref))) l2=some (.lst (ap.map V.ref)):=zac
  generalize upd H3 l2 (.lst (ap.map V.ref))=H4 at k4 jb
  have li:Paired (λa (e:Ent)=>H4 a=some (.tup [.str e.1,.ref e.2.2])) ap es2:=Paired.imp' (λ_ _ h=>k4 _ _ h (by simp)) lj
  have qv:∀e∈es2,H4 e.2.2=some (.lst (e.2.1.map V.str)):=λe he=>k4 _ _ (R3.ro e (dq.mem_iff.mp he)) (by simp)
  have lK:(es2.map (·.1)).Nodup:=(dq.map _).nodup_iff.mpr aK
  have mV:ap.length=es2.length:=Zt li
  have qp:(es2.map (·.1)).Pairwise leS:=by
   have h1:=aN (by rw[Qa,cS];omega)
   rw[Wt]at h1 ⊢
   have key:∀{as:Nk} {es:List Ent},Paired (λa (e:Ent)=>H3 a=some (.tup [.str e.1,.ref e.2.2])) as es→as.Pairwise (λa b=>Tm.strO.kle (rowV H3 (.ref a)) (rowV H3 (.ref b)))→es.Pairwise λa b=>leS a.1 b.1:=by
    intro as es r
    induction r with
    |nil=>intro _;exact .nil
    |@cons a e as es h t ih =>
     intro hp
     rw[Ua]at hp ⊢
     refine⟨λe' ax=>?_,ih hp.2⟩
     obtain⟨i,hi,rfl⟩:=Zf ax
     have gQ:i<as.length:=by rw[Zt t];exact hi
     obtain⟨_,bp⟩:=zaz t gQ
     have:=hp.1 _ (Qq gQ)
     rw[zc7 h,zc7 bp]at this
     exact of_decide_eq_false this
   exact key lj h1
  have hel2:es2.length=es.length:=dq.length_eq
  refine⟨l2,rfl,⟨_,SqL.of jb⟩,λi m ys τ H'=>Aj5 (m=es2.length-i) (i≤es2.length) (Ex2 λx0 x1=>τ=[x0,x1]) (Keep [] H4 H') (Ex1 λ(ts:List Ent)=>Aj3 (ys=(eV ts)) (∀e∈ts,H' e.2.2=some (.tup (e.2.1.map V.str))∧Frst e.2.1) (Turned ts (es2.take i))),
   ⟨es2.length,rfl,Zh _,⟨none,none,rfl⟩,Keep.refl,[],rfl,λe he=>(by cases he),.nil⟩,?_⟩
  rintro i m ys τ H5 ⟨rfl,hi,⟨x0,x1,rfl⟩,k5,ts,rfl,gb,iA⟩
  by_cases ae:i<es2.length
  ·have iC:=zb9 iA
   have gc:ts.length≤i:=by
    have:=congrArg List.length iC
    rw[Qa,Qa,Zc]at this
    lia
   refine .inr ⟨⟨_,.ref ap[i],SqL.of (k5 _ _ jb (by simp)),by rw[Qr,Qc (by exact zar6 ‹_› ‹_›)];rfl⟩,by rw[Qa];lia,?_⟩
   rintro v H6 ⟨rfl,hv⟩
   have dI:=hv _ (SqL.of (k5 _ _ jb (by simp)))
   rw[Qr,Qc (by exact zar6 ‹_› ‹_›)]at dI
   obtain rfl:V.ref ap[i]=v:=Qs dI
   obtain⟨aw,bp⟩:=zaz li (by exact zar6 ‹_› ‹_›:i<ap.length)
   have aY:es2[i]∈es2:=Qq ae
   have bG:=k5 _ _ (qv _ aY) (by simp)
   have lJ:es2[i].1∉ts.map (·.1):=by
    rw[iC]
    have h1:(es2.map (·.1)).take (i+1)=(es2.map (·.1)).take i++[es2[i].1]:=by
     rw[Qo (by rw[Qa];exact ae),Yd]
    have h2:((es2.map (·.1)).take (i+1)).Nodup:=Us (Jl _ _) lK
    rw[h1,Zj,←Ul]at h2
    exact λz=>h2.2.2 _ z _ (Qb.mpr rfl) rfl
   refine⟨ap[i],_,rfl,SqT.of (k5 _ _ bp (by simp)),rfl,_,_,rfl,_,_,rfl,rfl,_,rfl,_,rfl,es2[i].2.2,es2[i].2.1,rfl,bG,Zi (aR _ (dq.mem_iff.mp aY)) (by decide),λt j H7 hj rM ht7 htfr k7=>?_⟩
   refine⟨Sum.inr es2[i].1,rfl,es2.length-(i+1),by exact zar1 ‹_›,rfl,ae,⟨_,_,rfl⟩,k5.trans k7,ts++[(es2[i].1,es2[i].2.1.drop j++es2[i].2.1.take j,t)],put_new (r:=es2[i].2.1.drop j++es2[i].2.1.take j) lJ,λe he=>?_,?_⟩
   ·rcases Qf.mp he with z | z
    ·exact⟨k7 _ _ (gb e z).1 (by simp),(gb e z).2⟩
    ·rw[Qb.mp z];exact⟨ht7,rM⟩
   ·rw [Qo ae]
    exact zao iA (.cons ⟨rfl,j,rfl⟩ .nil)
  ·have gq:i=es2.length:=by exact zar3 ‹_› ‹_›
   subst gq
   rw[Qu (Qd _)]at iA
   refine .inl ⟨⟨_,SqL.of (k5 _ _ jb (by simp)),by rw[Qa,mV];exact Qd _⟩,λd hd=>?_⟩
   have k6:Keep [] H5 (upd H5 d (.dK (eV ts))):=Keep.new hd
   have my:(upd H5 d (.dK (eV ts))) d=some (.dK (eV ts)):=zac
   generalize upd H5 d (.dK (eV ts))=H6 at k6 my
   have iC:=zb9 iA
   have T6:TAt H6 d ts:=⟨my,λe he=>k6 _ _ (gb e he).1 (by simp),by rw[iC];exact lK⟩
   have gc:ts.length=es.length:=by
    have:=congrArg List.length iC
    rw[Qa,Qa,dq.length_eq]at this
    exact this
   have C6:Cert (ts.map (·.1)) (row (rsOf ts)) cs aa:=zgw Ct (by rw[iC];exact dq.map _) (zey iA dq aK)
   refine⟨_,rfl,d,ts,cs,aa,rfl,T6,by lia,λe he=>?_,C6,λH7 k7=>?_⟩
   ·obtain ⟨e',ax,_,kk,e2⟩:=zha iA he
    rw[e2,(rot_perm _ kk).length_eq]
    exact Zi (aR e' (dq.mem_iff.mp ax)) (by decide)
   ·have k07:Keep [] H H7:=(((k03.trans k4).trans k5).trans k6).trans k7
    have pT:=k07 _ _ hx (by simp)
    have T7:TAt H7 d ts:=T6.keep k7 (by simp) (λ_ _=>by simp)
    have nxd:d≠x:=za3 T7.dc pT (by intro z;cases z)
    refine⟨_,rfl,_,rfl,x,C,dx,[],rfl,pT,cW,nW,(by decide),?_⟩
    refine k d ts es2 _ ⟨zac,T7.keep (xs:=[x]) (Keep.wr (by simp)) (by simpa using nxd) λe he=>by simpa using za3 (T7.ro e he) pT (by intro z;cases z)⟩ dq iA (λe he=>(gb e he).2) (by rw[iC];exact qp) ((k07.sub (by simp)).trans (Keep.wr (by simp)))
def zf7:∀{as:List α} {bs:List β} (n:Nat),Paired R as bs→Paired R (as.take n) (bs.take n):=by
 intro as bs n r
 induction r generalizing n with
 |nil=>rw[List.take_nil,List.take_nil];exact .nil
 |cons h t ih =>
  cases n with
  |zero=>exact .nil
  |succ k=>exact .cons h (ih k)
def zf8:∀{as:List α} {bs:List β} (n:Nat),Paired R as bs→Paired R (as.drop n) (bs.drop n):=by
 intro as bs n r
 induction r generalizing n with
 |nil=>rw[List.drop_nil,List.drop_nil];exact .nil
 |cons h t ih =>
  cases n with
  |zero=>exact .cons h t
  |succ k=>exact ih k
end
end K21
end
section
namespace L2
open PySem PySem.Spec PyProof.Rows
section
variable{X:Cx}
end
end L2
end
section
namespace Wb
section
variable{α:Type}[DecidableEq α]
variable{ns:List α}{r r':α→List α}{cs:List (List (α×α))}
end
section
variable{α:Type}[DecidableEq α]{ns:List α}{r r':α→List α}{cs:List (List (α×α))}
end
section
variable{α:Type}[DecidableEq α]{ns:List α}{r r':α→List α}{cs:List (List (α×α))}{aa:α→α}
end
end Wb
end
section
namespace HT
open PySem PyProof.Rows
section
open PySem.SeqAt
open PySem.AutoSeq1 (wpAny_loadPart')
open PySem.MeetsSeq PySem.MeetsSeq2 PySem.MeetsSeq3
end
section
variable{prog:Ni}{w:Nl}{A:Nn}{E:Nb}{s:Ng}
end
end HT
namespace PySem
section
variable{prog:Ni}{w:Nl}{A:Nn}{R:Nt}{I:Nc}{fp wr:Nk}{n:Nat}{P:Nat→Value→Prop}{St:Nat→Heap→Prop}
end
section
variable{prog:Ni}{w:Nl}{A:Nn}{E:Nb}{s:Ng}
end
end PySem
end
section
namespace L2
open PySem PySem.Spec PyProof.Rows
def leS_antisymm(h1:leS x y)(h2:leS y x):x=y:=Tm.str_ext (List.le_antisymm (List.not_lt.mp h1) (List.not_lt.mp h2))
section
variable{X:Cx}
end
section
variable{X:Cx}{a7:Nd}{σ:St}{H:Hp}{s:Ng}
inductive RrLClear(x:V)(vs:List V)(H:Hp)(Q:VK):Prop
 |l (a:Nc) (xs:List V) (h0:x=.ref a) (h1:vs=[]) (h2:H a=some (.lst xs)) (h3:Q .non (upd H a (.lst []))):RrLClear x vs H Q
def mt_lclear:MtM X "list.clear" RrLClear:=by
 intro a7 s σ H x vs v us Q I rx rv h
 obtain⟨a,xs,rfl,rfl,e,q⟩:=h
 cases rx
 have pW:=rv.zero
 subst pW
 obtain⟨z,a8,n,r,hl,e'⟩:=I.lstM e
 refine call_meets F.slot_list_clear ⟨_,e',rfl⟩ F.entry_list_clear (F.args_list_clear_1 _) (AutoSeq1.list_clear_list_0 a a8.toArray n (by rw[Qn,←hl];exact z)) ⟨e',?_⟩
 exact⟨.non,_,I.lset (its':=[]) e e' rfl .nil (Zh _),rfl,q⟩
end
end L2
end
section
namespace Wb
section
variable{α β:Type}[DecidableEq α][DecidableEq β]{ns:List α}{r:α→List α}{cs:List (List (α×α))}{f:α→β}
theorem idx_map(hf:∀x y,f x=f y→x=y)(w:α):∀zs:List α,(zs.map f).idxOf (f w)=zs.idxOf w
 |[]=>rfl
 |a::t=>by
  rw[Qk,Xu,Xu,idx_map hf w t]
  by_cases h:a=w
  ·rw[h,beq_self_eq_true,beq_self_eq_true]
  ·rw[beq_eq_false_iff_ne.mpr h,beq_eq_false_iff_ne.mpr λe=>h (hf _ _ e)]
def nxt_map(hf:∀x y,f x=f y→x=y)(zs:List α)(w:α):nxt (zs.map f) (f w)=f (nxt zs w):=by
 unfold nxt
 rw[idx_map hf,Qa,Qx,Qx,Qr]
 cases zs[(zs.idxOf w+1)%zs.length]?<;>rfl
def lk_map{γ δ:Type}{F:γ→γ}{G:δ→δ}{g:γ→δ}{e:γ}:∀{t:List γ} {s:γ},(∀y,y=s∨y∈t→G (g y)=g (F y))→Lk F s t e→Lk G (g s) (t.map g) (g e):=by
 intro t
 induction t with
 |nil=>intro s h k;exact(h s (.inl rfl)).trans (congrArg g k)
 |cons a t ih =>
  intro s h k
  exact⟨(h s (.inl rfl)).trans (congrArg g k.1),ih (λy hy=>h y (.inr (Qh.mpr hy))) k.2⟩
end
end Wb
end
section
namespace L2
open PySem PySem.Spec PyProof.Rows
def zbo.got{P:Ni}{w:Nl}{H:Hp}{h:Nm}{a:Nc}{o:HO}(x:zbo P w H h a o):∃u,h.get? a=some u:=by
 cases o with
 |lst xs=>obtain⟨_,_,_,_,e⟩:=x;exact⟨_,e⟩
 |tup xs=>obtain⟨_,_,_,u,e,_⟩:=x;exact⟨u,e⟩
 |dK kvs=>obtain⟨_,_,_,_,o,_,_,e,_⟩:=x;exact⟨_,e⟩
 |dT kvs=>obtain⟨_,_,_,_,o,_,_,e,_⟩:=x;exact⟨_,e⟩
 |set S n=>obtain⟨o,_,_,_,e,_⟩:=x;exact⟨_,e⟩
 |ins C dx fs=>obtain⟨_,_,_,e,_⟩:=x;exact⟨_,e⟩
 |own y=>obtain⟨_,e⟩:=x;exact⟨_,e⟩
 |xd fs=>obtain⟨_,⟨_,_,_,e,_⟩,_⟩:=x;exact⟨_,e⟩
 |rng lo hi=>obtain⟨_,_,_,e⟩:=x;exact⟨_,e⟩
 |frz ob u=>obtain⟨e,_⟩:=x;exact⟨_,e⟩
 |tbl ps=>exact⟨_,(show h.get? a=some _ from x)⟩
 |met f y=>exact⟨_,(show h.get? a=some _ from x)⟩
 |ext φ=>obtain⟨_,⟨_,e⟩,_⟩:=x;exact⟨_,e⟩
inductive CXr(P:Ni)(w:Nl)(outer:List Env)(H:Hp)(s:Ng)(E:XK)(e:Value)(s':Ng):Prop
 | mk (a:Nc) (cls a0:Value) (H':Hp) (B:Nm) (he:e=.ref a) (os:s'.os=s.os) (bare:AllBare s'.gens) (un:Un (frs outer) [] H H' s.heap s'.heap) (hok:HOk P w H' s'.heap)
   (hB:∀b o,s.heap.get? b=some o→b∉frs outer→∃u,B.get? b=some u) (hT:∀b o,H' b=some o→∃u,B.get? b=some u) (fl:Heap.FlyingW B outer a cls a0 s'.heap) (q:E cls none H'):CXr P w outer H s E e s'
def flyUn{P:Ni}{w:Nl}{l:List Env}{H H':Hp}{h g h' B base:Nm}(un:Un (frs l) [] H H' h g)(hok:HOk P w H' g)(hB:∀b o,h.get? b=some o→b∉frs l→∃u,B.get? b=some u)(hT:∀b o,H' b=some o→∃u,B.get? b=some u)(hg:B.StaysIn g)(hh:B.StaysIn h')(fr:g.FunFrames base l)(us:g.UpToSlots h'):Un (frs l) [] H H' h h'∧HOk P w H' h':=by
 have same:∀b o u,B.get? b=some u→g.get? b=some o→h'.get? b=some o:=λb o u e q=>by
  have:=hg b u e
  rw[q]at this;cases this
  exact hh b _ e
 refine⟨⟨λb o e n hb hx=>?_,λb o e n hb hx=>?_,un.free,λb o e hx=>?_,un.tups,un.frzs,un.tbls⟩,λb o e=>?_⟩
 ·obtain ⟨u,eu⟩:=hB b o e hb
  exact same b o u eu (un.keep b o e n hb hx)
 ·obtain ⟨sl,e1⟩:=un.slot b o e n hb hx
  obtain⟨_,o',aG,hd⟩:=fr.mem hb
  obtain⟨jN,e2⟩:=us b _ e1 λvs z=>by rw[e1]at aG;cases aG;exact hd vs z
  exact⟨jN,e2⟩
 ·by_cases hb:b∈frs l
  ·obtain ⟨_,o',aG,hd⟩:=fr.mem hb
   obtain⟨jN,e2⟩:=us b _ aG hd
   exact⟨_,e2⟩
  ·obtain ⟨u,eu⟩:=hB b o e hb
   exact⟨u,hh b u eu⟩
 ·refine (hok b o e).stay (fun c v hc q=>?_) (fun _ q=>q) fun _ _ q=>q
  obtain⟨u,eu⟩:∃u,B.get? c=some u:=by
   rcases hc with rfl | hc
   ·exact hT _ _ e
   ·exact hT _ _ hc
  exact same c v u eu q
def Inv.fly{X:Cx}{a7:Nd}{σ:St}{H H':Hp}{s s':Ng}{B h':Nm}(I:Inv X a7 σ H s)(os:s'.os=s.os)(bare:AllBare s'.gens)(un:Un (frs X.stack) [] H H' s.heap s'.heap)(hok:HOk X.prog X.w H' s'.heap)(hB:∀b o,s.heap.get? b=some o→b∉frs X.stack→∃u,B.get? b=some u)(hT:∀b o,H' b=some o→∃u,B.get? b=some u)(hg:B.StaysIn s'.heap)(hh:B.StaysIn h')(fr:s'.heap.FunFrames B X.stack)(us:s'.heap.UpToSlots h') :
  Inv X a7 σ H' {s' with heap:=h'}:=by
 obtain⟨u,k⟩:=flyUn un hok hB hT hg hh fr us
 exact I.call' (s':={s' with heap:=h'}) (ch:=[]) os u k bare λb z=>absurd z (by simp)
def Inv.out{X:Cx}{a7:Nd}{σ:St}{H H':Hp}{s s':Ng}{B:Nm}{E:XK}{a:Nc}{cls a0:Value}(I:Inv X a7 σ H s)(kl:X.ex=[])(J:Inv X a7 σ H' s')(hB:∀b o,s.heap.get? b=some o→b∉frs X.stack→∃u,B.get? b=some u)(hT:∀b o,H' b=some o→∃u,B.get? b=some u)(fl:Heap.FlyingW B X.outer a cls a0 s'.heap)(q:E cls none H'):CXr X.prog X.w X.outer X.H₀ X.s₀ E (.ref a) s':=by
 refine⟨a,cls,a0,H',B,rfl,J.os,J.bare,by have:=J.base;rw[kl]at this;exact this,J.hok,λb o e hb=>?_,hT,fl,q⟩
 obtain⟨o',e'⟩:=I.base.there b o e (by rw[kl];simp)
 refine hB b o' e' λz=>?_
 rcases Qh.mp (I.stkSub b z) with r | r
 ·exact absurd (Zw (Qw e) I.ok.above) (by rw[r];exact Yr _)
 ·exact hb r
def PassesS(CX:CXT)(X:Cx)(E:St→XK):Prop:=∀(a7:Nd) (σ:St) (H:Hp) (s:Ng) (e:Value) (s':Ng),Inv X a7 σ H s→CX X.stack H s (E σ) e s'→X.xe e s'
section
variable{P:Ni}{w:Nl}{K:Na}{mg:Nf}{base:Nm}{N ps:Nj}{qual:Str}{scope:Scope}{f:Nc}{cd:Value}{A:Nn}{outer:List Env}{s:Ng}{H:Hp}{E:XK}
def raiseR{a7:Nd}{σ:St}{H1:Hp}{s1:Ng}{h1:Nm}{e:Nc}{cls:Value}{vs:Nh}(I:Inv (cxOf (CXr P w) P w K mg base N qual scope f cd A outer s H E) a7 σ H1 s1)(hx:Heap.MadeExcOf s1.heap h1 e cls vs)(q:E cls none H1) :
  (cxOf (CXr P w) P w K mg base N qual scope f cd A outer s H E).xe (.ref e) {s1 with heap:=h1}:=by
 have aA:∀b o,s1.heap.get? b=some o→b∉frs (envOfC qual scope s.heap.objs.size f cd::outer)→∃u,(PySem.W.hideAll s1.heap (frs (envOfC qual scope s.heap.objs.size f cd::outer))).get? b=some u:=λb o e nb=>⟨o,PySem.W.hideAll_get _ e nb⟩
 have az:Heap.StaysIn (PySem.W.hideAll s1.heap (frs (envOfC qual scope s.heap.objs.size f cd::outer))) s1.heap:=λb o e=>PySem.W.of_hideAll _ e
 have cR:=PySem.W.funFrames_hide (as:=frs (envOfC qual scope s.heap.objs.size f cd::outer)) I.stack λenv he b hb=>List.mem_filterMap.mpr ⟨env,he,hb⟩
 have hT:∀b o,H1 b=some o→∃u,(PySem.W.hideAll s1.heap (frs (envOfC qual scope s.heap.objs.size f cd::outer))).get? b=some u:=λb o e=>by
  have ae:=I.hok.lt e
  obtain⟨u,hu⟩:∃u,s1.heap.get? b=some u:=(I.hok b o e).got
  exact aA b u hu λz=>by rw[I.stkFree b z]at e;cases e
 refine wpAny_leaves_madeW (base:=PySem.W.hideAll s1.heap (frs (envOfC qual scope s.heap.objs.size f cd::outer))) I.ok.frames rfl az cR hx λh' t fl _ _ us=>?_
 refine I.out rfl (I.fly (s':=s1) rfl I.bare Un.refl I.hok aA hT az fl.1 cR ((Heap.UpToSlots.of_keeps hx.keeps).trans us)) aA hT fl q
abbrev bmVE:List Value:=[.type "ValueError",.type "Exception",.type "BaseException",.type "object"]
structure Exc(K:Na)(C:Nc):Prop where
 inK:PySem.W.excIn K C bmVE "ValueError.__new__" = true
def exc_obj{K:Na}{h:Nm}{C:Nc}{bmB:Nh}{newId:String}(X:K.In h)(q:PySem.W.excIn K C bmB newId=true) :
  ∃bm N nm qn bs hdct sn sub ab col dd k0 k1 k2 k3 k5 mN,h.get? C=some (excClassObj nm qn C N bs bm hdct sn sub ab col dd k0 k1 k2 k3 k5 newId)∧h.Ns N mN∧mN "__init__" = none∧OwnTail h bmB bm:=by
 unfold PySem.W.excIn at q
 split at q
 ·rename_i dd cd sl ho
  split at q
  ·rename_i C' bm k0 k1 k2 k3 n k5 hm hs
   simp only[Kk,beq_iff_eq,Wu]at q
   obtain⟨⟨⟨⟨⟨rfl,rfl⟩,mx⟩,ht⟩,hok⟩,oo⟩:=q
   obtain⟨nm,bs,mro,ns,qn,hd,sn,sub,ab,col,del⟩:=cd
   dsimp only at hm mx hok oo
   subst hm mx
   have hsl:sl=#[k0,k1,k2,k3,some (.builtin n),k5]:=by
    obtain⟨l⟩:=sl
    simp only at hs
    rw[hs]
   subst hsl
   exact⟨bm,ns,nm,qn,bs,hd,sn,sub,ab,col,dd,k0,k1,k2,k3,k5,_,X _ _ ho,.of_isNs (PySem.W.isNs_of_in X hok),PySem.W.nsMap_none_of_in X hok oo,PySem.W.tail_of_in X ht⟩
  ·cases q
 ·cases q
def tRaise(C:Nc)(E:XK)(t:TA):TS:=λ_ σ H=>t σ H λvs H1=>Aj2 (vs.length≤sizeLine) (E (.ref C) none H1)
def ps_raise{x:Str}{C:Nc}{e₀:Expr}{rest:No}{np cpos pos:Pos}{t:TA}(c:Exc K C)(hg:Gl (cxOf (CXr P w) P w K mg base N qual scope f cd A outer s H E) x)(hm:mg x=some (.ref C))(ha:PA (cxOf (CXr P w) P w K mg base N qual scope f cd A outer s H E) (e₀::rest) t)(dz:(x==("__debug__" : Str))=false:=by decide)(he:starEach (e₀::rest) (envOfC qual scope s.heap.objs.size f cd)=(false,eval e₀ (envOfC qual scope s.heap.objs.size f cd))::starEach rest (envOfC qual scope s.heap.objs.size f cd):=by rfl)(cE:(backTo cpos (starEach rest (envOfC qual scope s.heap.objs.size f cd))).any (·.1)=false:=by rfl) :
  PS (cxOf (CXr P w) P w K mg base N qual scope f cd A outer s H E) (.Raise (some (.Call (.Name x np) (e₀::rest) [] cpos)) none pos) (tRaise C E t):=by
 intro a7 s1 σ H1 D I h
 obtain⟨tl,N',nm,q,bs,hdct,sn,sub,ab,col,dd,k0,k1,k2,k3,k5,mN,hC,hN,oo,T⟩:=exc_obj I.ok.mod.kin c.inK
 refine wpAny_Raise_call_subT (C:=C) (nm:=nm) (q:=q) (N:=N') (bs:=bs) (bm:=tl) (hdct:=hdct) (sn:=sn) (sub:=sub) (ab:=ab) (col:=col) (dd:=dd) (k0:=k0) (k1:=k1) (k2:=k2) (k3:=k3) (k5:=k5)
  PySem.F.excBase_ValueError (mN:=mN) (T.hasType PySem.F.excBase_ValueError.hasBase) (I.ok.hd rfl) (by rw[show starEach (e₀::rest) (cxOf (CXr P w) P w K mg base N qual scope f cd A outer s H E).env=_ from he];show(false||(backTo cpos (starEach rest (cxOf (CXr P w) P w K mg base N qual scope f cd A outer s H E).env)).any (·.1))=false;rw[show(backTo cpos (starEach rest (cxOf (CXr P w) P w K mg base N qual scope f cd A outer s H E).env)).any (·.1)=false from cE];rfl) oo (zgn I hg hm ⟨rfl,?_⟩ dz)
 have h2:=ha cpos a7 s1 σ H1 _ I h
 rw[show starEach (e₀::rest) (cxOf (CXr P w) P w K mg base N qual scope f cd A outer s H E).env=_ from he]at h2 ⊢
 exact Calls.evalArgs_plain (wpAny_mono h2 (λus s2 ⟨vs,H2,I2,r,hl,q2⟩=>⟨rfl,by rw[←r.length];exact hl,I2.bk _ _ hC,hN.keeps I2.bk,T.keeps I2.bk,λh' e hx=>raiseR I2 hx q2⟩) λ_ _ y=>y)
def Fun.okX{x qual:Str}{st:Stmt}{f:Nc}{fd:Nr}{N ps:Nj}{k:Nat}{sp:Sp}(F:Fun K x qual st f fd)(S:zap N ps (zag st))(len:∀vs H Q E,sp vs H Q E→vs.length=ps.length)(bo:∀ (cdv:Value) (A:Nn) (outer:List Env) (s:Ng) (H:Hp) (vs:List V) (Q:VK) (E:XK),Room k (A.deeper (envOfC qual (zag st) s.heap.objs.size f cdv))→sp vs H Q E →
   ∃t,PSs (cxOf (CXr P w) P w K mg base N qual (zag st) f cdv A outer s H E) (zb7 st) t∧t {nx:=λ_ H'=>Q .non H',rt:=Q} (start N vs) H):FnOk P w K mg base (CXr P w) (k+1) f fd ps sp:=by
 obtain⟨oc,od,kV,doc,pm,an,cdv,ct,osl,rfl,lk,aO⟩:=F.ex
 exact fn_of lk aO S len λA outer s H vs Q E hr br=>bo cdv A outer s H vs Q E hr br
end
section
variable{X:Cx}{CX:CXT}{k:Nat}{f C:Nc}{fd:Nr}{ps:Nj}{sp:Sp}{dvs:List V}{ds:Nh}{E:St→XK}{x m:Str}{p pos apos:Pos}{e o:Expr}{es:No}{ta:TE}{t:TA}
def run_fnS{a7:Nd}{σ:St}{H:Hp}{s:Ng}{Q:VK}{us:Nh}{vs:List V}(F:FnOk X.prog X.w X.K X.mg X.base CX k f fd ps sp)(hr:Room k X.A)(hb:Binds X.K fd ps ds)(hd:Vals dvs ds)(hx:PassesS CX X E)(I:Inv X a7 σ H s)(r:Vals vs us)(h:sp (vs++dvs) H Q (E σ)):wpAny (model X.prog X.w) X.A (call (.ref f) us) (EP X a7 σ Q) X.xe s:=by
 have r2:Vals (vs++dvs) (us++ds):=r.append hd
 have hl:(us++ds).length=ps.length:=by rw[←r2.length];exact F.len _ _ _ _ h
 refine wpAny_call (codeAny_mono (F.run X.A X.stack s H ⟨us,[]⟩ (us++ds) (vs++dvs) Q (E σ) hr I.env0 (hb s us I.kIn hl) r2 h) λr s' hq=>?_)
 cases r with
 |error e=>exact hx a7 σ H s e s' I hq
 |ok fl =>
  cases fl with
  |ret u=>exact I.after hq
  |next=>exact False.elim hq
  |brk=>exact False.elim hq
  |cont=>exact False.elim hq
end
def ExO(a:Nc)(cls:Value):HO:=.ext λh=>∃o,h.get? a=some o∧o.cls=cls
def zec{X:Cx}{a7:Nd}{σ:St}{H:Hp}{s:Ng}{M:Model}{A:Nn}{E:Nb}{i:Nat}{x:Str}{pos:Pos}{Q:Unit→Shared→Prop}(I:Inv X a7 σ H s)(hN:X.N.Nodup)(hi:X.N[i]?=some x)(hk:X.env.scope.names.lookup x=some .local)(h:∀s',Inv X a7 (σ.set i none) H s'→Q () s'):wpAny M A (do bindName X.env x .none;unbindBehindTheSuite X.env x pos) Q E s:=by
 obtain⟨m,hn,hl⟩:=id I.loc
 have jx:(X.env.scope.kind==.class||(X.env.scope.kind==.module&&X.env.locals != X.env.globals))=false:=by rw[I.ok.kind];rfl
 refine wpAny_nameGoes_keeps hk hn jx λh' v qW hs=>h _ ?_
 obtain⟨oL,_,_,hoL,_⟩:=id hn
 have neL:∀b o,X.s₀.heap.get? b=some o→b≠X.env.locals:=λb o e=>Zk (Zw (Qw e) I.ok.above)
 refine⟨I.ok,I.os,I.bare,⟨λb o e n hb hx=>(hs.2 b (neL b o e)).trans (I.base.keep b o e n hb hx),λb o e n hb hx=>?_,I.base.free,λb o e hx=>?_,I.base.tups,I.base.frzs,I.base.tbls⟩,⟨_,qW,λj y v' e1 e2 e3=>?_⟩,λy c e=>?_,I.free,I.freeC,λp hp=>?_,λb ob e=>?_,by simpa using I.len⟩
 ·obtain ⟨sl,e1⟩:=I.base.slot b o e n hb hx
  exact⟨sl,(hs.2 b (neL b o e)).trans e1⟩
 ·obtain ⟨o',e1⟩:=I.base.there b o e hx
  exact⟨o',(hs.2 b (neL b o e)).trans e1⟩
 ·have hj:j≠i:=fun z=>by
   subst z
   rw[List.getElem?_set]at e2
   split at e2
   ·split at e2<;>cases e2
   ·contradiction
  rw[List.getElem?_set_ne (Zn hj)]at e2
  obtain⟨u',r',q⟩:=hl j y v' e1 e2 e3
  refine⟨u',r',?_⟩
  rcases q with⟨k,e⟩ | ⟨k,c,e,z⟩
  ·refine .inl ⟨k,?_⟩
   have:y≠x:=λe=>hj (zia hN e1 (e▸hi))
   simp[this,e]
  ·exact .inr ⟨k,c,e,z.sameBut hs (I.cne y c e)⟩
 ·obtain ⟨w',z⟩:=I.cell y c e
  exact⟨w',z.sameBut hs (I.cne y c e)⟩
 ·obtain ⟨e,n,ne,nf,d⟩:=I.pin p hp
  exact⟨(hs.2 p.1 ne).trans e,n,ne,nf,d⟩
 ·refine (I.hok b ob e).stay (fun c w' hc q=>(hs.2 c ?_).trans q) (fun _ q=>q) fun _ _ q=>q
  rintro rfl
  rcases hc with hc | hc
  ·rw[←hc,I.free]at e;cases e
  ·rw[I.free]at hc;cases hc
def Ends.off(i:Nat)(D:Ends):Ends:={nx:=λ σ H=>D.nx (σ.set i none) H,rt:=D.rt,bk:=λ σ H=>D.bk (σ.set i none) H,ct:=λ σ H=>D.ct (σ.set i none) H}
abbrev Cx.tried(X:Cx)(E:Nb)(pn:Nd):Cx:={X with xe:=E,pn:=pn}
abbrev Cx.suite(X:Cx)(a:Nc):Cx:={X with A:=X.A.mark (some (.ref a)),calm:=false,xe:=λ_ _=>False}
section
variable{X:Cx}{a7:Nd}{σ:St}{H:Hp}{s:Ng}{E:Nb}{a:Nc}
def Cx.Ok.tried(ok:X.Ok)(E:Nb)(pn:Nd):(X.tried E pn).Ok :=
 ⟨ok.mod,ok.kind,ok.glob,ok.blt,ok.above,ok.inj,ok.has,ok.cab,ok.hd,ok.frames,ok.stk,ok.exf,ok.bs,ok.bsz,ok.noex,ok.exfs,ok.funs,ok.frf⟩
def Inv.tried(I:Inv X a7 σ H s)(E:Nb):Inv (X.tried E (X.pn++a7)) [] σ H s :=
 ⟨I.ok.tried E _,I.os,I.bare,I.base,I.loc,I.cell,I.free,I.freeC,λp hp=>I.pin p (by rwa[Zs]at hp),I.hok,I.len⟩
def Inv.untried{pn:Nd}{pins':Nd}(ok:X.Ok)(I:Inv (X.tried E (X.pn++a7)) pins' σ H s):Inv X a7 σ H s :=
 ⟨ok,I.os,I.bare,I.base,I.loc,I.cell,I.free,I.freeC,λp hp=>I.pin p (Qv _ hp),I.hok,I.len⟩
def Inv.suite(I:Inv X a7 σ H s)(a:Nc):Inv (X.suite a) a7 σ H s :=
 ⟨⟨I.ok.mod,I.ok.kind,I.ok.glob,I.ok.blt,I.ok.above,I.ok.inj,I.ok.has,I.ok.cab,(λh=>nomatch h),I.ok.frames,I.ok.stk,I.ok.exf,I.ok.bs,I.ok.bsz,I.ok.noex,I.ok.exfs,I.ok.funs,I.ok.frf⟩,I.os,I.bare,I.base,I.loc,I.cell,I.free,I.freeC,I.pin,I.hok,I.len⟩
def Inv.unsuite(ok:X.Ok)(I:Inv (X.suite a) a7 σ H s):Inv X a7 σ H s :=
 ⟨ok,I.os,I.bare,I.base,I.loc,I.cell,I.free,I.freeC,I.pin,I.hok,I.len⟩
def Inv.track{o:HO}(J:Inv X a7 σ H s)(na:H a=none)(n0:X.s₀.heap.get? a=none)(nL:a≠X.env.locals)(nC:∀x c,X.env.cells.lookup x=some c→c≠a)(nP:∀p∈X.pn++a7,p.1≠a)(new:zbo X.prog X.w (upd H a o) s.heap a o):Inv X a7 σ (upd H a o) s:=by
 have ne:∀b u,H b=some u→b≠a:=λb u e z=>by rw[z,na]at e;cases e
 refine⟨J.ok,J.os,J.bare,⟨J.base.keep,J.base.slot,λb u e n hx=>?_,J.base.there,λb xs e=>?_,λb u v e=>?_,λb ps e=>?_⟩,J.loc,J.cell,?_,λx c e=>?_,λp hp=>?_,λb u e=>?_,J.len⟩
 ·rw[zad (λz=>by rw[z,n0]at e;cases e)];exact J.base.free b u e n hx
 ·have:=J.base.tups b xs e
  rw[zad (ne _ _ this)];exact this
 ·have:=J.base.frzs b u v e
  rw[zad (ne _ _ this)];exact this
 ·obtain ⟨m,this⟩:=J.base.tbls b ps e
  exact⟨m,by rw[zad (ne _ _ this)];exact this⟩
 ·rw[zad (Zn nL)];exact J.free
 ·rw[zad (nC x c e)];exact J.freeC x c e
 ·obtain ⟨h1,h2,h3⟩:=J.pin p hp
  exact⟨h1,by rw[zad (nP p hp)];exact h2,h3⟩
 ·by_cases hb:b=a
  ·subst hb
   rw[zac]at e;cases e;exact new
  ·rw [zad hb] at e
   exact(J.hok b u e).stay (λ_ _ _ q=>q) (λc q=>by rw[zad (ne _ _ q)];exact q) λc xs q=>by rw[zad (ne _ _ q)];exact q
def SP.off{D:Ends}{i:Nat}{x:Str}{pos:Pos}{f:Flow}{E:Nb}{M:Model}{A:Nn}(ok:X.Ok)(hN:X.N.Nodup)(hi:X.N[i]?=some x)(hk:X.env.scope.names.lookup x=some .local)(h:SP (X.suite a) a7 (D.off i) f s) :
  wpAny M A (do bindName X.env x .none;unbindBehindTheSuite X.env x pos) (λ_ s'=>SP X a7 D f s') E s:=by
 cases f with
 |next=>obtain⟨σ',H',I,q⟩:=h;exact zec (I.unsuite ok) hN hi hk λs' I'=>⟨_,H',I',q⟩
 |brk=>obtain⟨σ',H',I,q⟩:=h;exact zec (I.unsuite ok) hN hi hk λs' I'=>⟨_,H',I',q⟩
 |cont=>obtain⟨σ',H',I,q⟩:=h;exact zec (I.unsuite ok) hN hi hk λs' I'=>⟨_,H',I',q⟩
 |ret u=>obtain⟨v,σ',H',I,r,q⟩:=h;exact zec (I.unsuite ok) hN hi hk λs' I'=>⟨v,_,H',I',r,q⟩
def SP.untried{D:Ends}{f:Flow}(ok:X.Ok)(h:SP (X.tried E (X.pn++a7)) [] D f s):SP X a7 D f s:=by
 cases f with
 |next=>obtain⟨σ',H',I,q⟩:=h;exact⟨σ',H',I.untried (pn:=[]) ok,q⟩
 |brk=>obtain⟨σ',H',I,q⟩:=h;exact⟨σ',H',I.untried (pn:=[]) ok,q⟩
 |cont=>obtain⟨σ',H',I,q⟩:=h;exact⟨σ',H',I.untried (pn:=[]) ok,q⟩
 |ret u=>obtain⟨v,σ',H',I,r,q⟩:=h;exact⟨v,σ',H',I.untried (pn:=[]) ok,r,q⟩
def tTry(K:Na)(c:Value)(i:Nat)(EX:St→XK)(tb ts:TS):TS:=λD σ H=>Aj2 (tb D σ H) (∀(σ':St) (cls:Value) (H':Hp) (a:Nc),σ'.length=σ.length→EX σ' cls none H'→H' a=none →
 Aj2 (PySem.W.exmOne K cls c=some true) (ts (D.off i) (σ'.set i (some (.ref a))) (upd H' a (ExO a cls))))
def ps_try{body suite:List Stmt}{b₀:Stmt}{x n:Str}{np cu pos:Pos}{i:Nat}{c:Value}{EX:St→XK}{tb ts:TS}(az:X.stack=X.env::X.outer)(kl:X.ex=[])(hfm:X.env.frame=some X.env.locals)(hb:∀(E':Nb) (pn:Nd),PassesS (CXr X.prog X.w) (X.tried E' pn) EX→PSs (X.tried E' pn) body tb)(hs:∀a,PSs (X.suite a) (b₀::suite) ts)(hN:X.N.Nodup)(hi:X.N[i]?=some n)(hk:X.env.scope.names.lookup n=some .local)(hg:Gl X x)(hm:X.mg x=some c)(dz:(x==("__debug__" : Str))=false:=by decide) :
  PS X (.Try body [.ExceptHandler (some (.Name x np)) (some n) (b₀::suite) cu] [] [] pos) (tTry X.K c i EX tb ts):=by
 intro a7 s σ H D I h
 obtain⟨h1,h2⟩:=h
 refine wpAny_Try_except ?_
 refine wpAny_mono (hb (λe s₁=>wpAny (model X.prog X.w) X.A (noteFrame e X.env) (λ_ s₂=>wpAny (model X.prog X.w) X.A (setFlight e none) (λ_ s₃=>wpAny (model X.prog X.w) X.A (handleBy e X.env [.ExceptHandler (some (.Name x np)) (some n) (b₀::suite) cu]) (SP X a7 D) X.xe s₃) X.xe s₂) X.xe s₁) (X.pn++a7) ?_ [] s σ H D (I.tried _) h1) (λfl s1 hq=>?_) λ_ _ z=>z
 ·intro pins' σ' H1 s1 e s' J hx
  obtain⟨a,cls,a0,H',B,rfl,os,bare,un,hok,hB,hT,fl,q⟩:=hx
  have J:Inv X a7 σ' H1 s1:=J.untried (pn:=[]) I.ok
  rw[az]at fl
  have cR:X.A.frames=some (X.env::X.outer):=by rw[I.ok.frames,az]
  refine wpAny_looks_onW cR hfm fl λh₄ held₄ us₄=>?_
  refine wpAny_landsW held₄ λh₅ fl₅ us₅=>?_
  have J₅:Inv X a7 σ' H' {s' with heap:=h₅}:=J.fly os bare un hok hB hT fl.1 fl₅.1 (by rw[az];exact fl.2.2.1) (us₄.trans us₅)
  have na:H' a=none:=by
   cases z:H' a with
   |none=>rfl
   |some o=>obtain⟨u,hu⟩:=hT a o z;rw[fl.2.1]at hu;cases hu
  obtain⟨he,hsu⟩:=h2 σ' cls H' a (by rw[J.len,I.len]) q na
  refine wpAny_handleBy_cons (codeAny_handlers_test (zgn (J₅.suite a) hg hm ?_ dz)) (by intro z;cases z)
  obtain⟨ob,hob,qT⟩:=fl₅.there
  have LT:PySem.W.Looks (model X.prog X.w) h₅ (typeOf (.ref a)) cls:=qT▸(PySem.W.Looks.ld hob).andThen .now
  refine(PySem.W.exm_one J₅.kIn LT he).here ?_
  refine codeAny_handlers_suite_as ?_
  refine lands_againW fl₅ λh₆ fl₆ us₆=>?_
  have J₆:Inv X a7 σ' H' {s' with heap:=h₆}:=J.fly os bare un hok hB hT fl.1 fl₆.1 (by rw[az];exact fl.2.2.1) ((us₄.trans us₅).trans us₆)
  have n1:s1.heap.get? a=none:=by
   cases z:s1.heap.get? a with
   |none=>rfl
   | some o =>
    exfalso
    by_cases hf:a∈frs X.stack
    ·rw [az] at hf
     obtain⟨_,o',aG,hd⟩:=fl.2.2.1.mem hf
     obtain⟨oe,vs,hoe,_,qL,_⟩:=fl.first
     rw[aG]at hoe;cases hoe
     exact hd vs qL
    ·obtain ⟨u,hu⟩:=hB a o z hf
     rw[fl.2.1]at hu;cases hu
  have J₇:Inv X a7 σ' (upd H' a (ExO a cls)) {s' with heap:=h₆}:=by
   obtain⟨o6,ho6,fA⟩:=fl₆.there
   refine J₆.track na ?_ ?_ (λy c e z=>?_) (λp hp z=>?_) ⟨⟨o6,ho6,fA⟩,⟨o6,ho6⟩,λg1 g2 ⟨o,ho,hc⟩ k=>⟨o,k o ho,hc⟩⟩
   ·cases z:X.s₀.heap.get? a with
    |none=>rfl
    |some o =>
     obtain⟨o',e⟩:=J.base.there a o z (by rw[kl];simp)
     rw[n1]at e;cases e
   ·rintro rfl
    obtain⟨m,⟨o,_,_,ho,_⟩,_⟩:=J.loc
    rw[n1]at ho;cases ho
   ·subst z
    obtain⟨v,o,ho,_⟩:=J.cell y c e
    rw[n1]at ho;cases ho
   ·subst z
    have:=(J.pin p hp).1
    rw[n1]at this;cases this
  refine zhv (v:=.ref a) J₇ hN hi (.inl hk) rfl (λs₈ I₈=>?_) (.inr hk)
  refine wpAny_mono (hs a a7 s₈ _ _ (D.off i) (I₈.suite a) hsu) (λf s₉ hq=>?_) λ_ _ z=>z.elim
  exact SP.off I.ok hN hi hk hq
 ·have hq:=SP.untried I.ok hq
  cases fl with
  |next=>exact wpAny_pure hq
  |brk=>exact hq
  |cont=>exact hq
  |ret u=>exact hq
end
end L2
end
section
namespace L2
open PySem PySem.Spec PyProof.Rows PySem.W PySem.Builtin PySem.Builtin.ObjectAttr PySem.Builtin.Getset_descriptor
structure ExI(K:Na)(D:Nc):Prop where
 ga:findIn K (.ref D) "__getattribute__" = some (some (.builtin "BaseException.__getattribute__"))
 nga:findIn K (.ref D) "__getattr__" = some none
 bx:mroIn K D (.type "BaseException")=some true
 at_:findIn K (.ref D) "__class__" = some (some (.builtin "object.__class__"))
 gs:specialIn K (.builtin "object.__class__") "__get__" = some (some (.builtin "getset_descriptor.__get__"))
 tk:takesIn K (.builtin "object.__class__")=some true
 ob:mroIn K D (.type "object")=some true
def ExI.cl{K:Na}{D:Nc}(c:ExI K D):(clsIn K D).isSome=true:=by
 have h:=c.ob
 unfold mroIn at h
 cases z:clsIn K D with
 |none=>rw[z]at h;cases h
 |some _=>rfl
abbrev ExAt(x:Nc)(cls:Value)(h:Nm):Prop:=∃o,h.get? x=some o∧o.cls=cls
def ExAt.type{M:Model}{x:Nc}{cls:Value}{h:Nm}(p:ExAt x cls h):Looks M h (typeOf (.ref x)) cls:=by
 obtain⟨o,ho,rfl⟩:=p
 exact(Looks.ld ho).andThen .now
section
variable{prog:Ni}{w:Nl}{A:Nn}{E:Nb}{s:Ng}{K:Na}{x D:Nc}
def ex_find{M:Model}{h:Nm}(c:ExI K D)(X:K.In h)(p:ExAt x (.ref D) h):Looks M h (find (.ref x) (.ref D) "__class__") (.bind (.builtin "getset_descriptor.__get__") (.builtin "object.__class__")):=by
 have L1:=looks_findIn (M:=M) X c.at_
 have L2:Looks M h (getOf (some (.builtin "object.__class__"))) (some (.builtin "getset_descriptor.__get__")):=looks_specialIn X c.gs
 have L3:=looks_takesIn (M:=M) X c.tk
 refine L1.andThen (L2.andThen ?_)
 exact(show Looks M h (dataDescriptor? (some (.builtin "object.__class__")) (some (.builtin "getset_descriptor.__get__"))) (some (.builtin "getset_descriptor.__get__",.builtin "object.__class__")) from L3.andThen .now).andThen (Looks.tag .now)
def ex_class_get{tp:Value}{R:Nt}(X:K.In s.heap)(p:ExAt x (.ref D) s.heap)(hm:mroIn K D (.type "object")=some true)(h:R (.ok (.ret (.ref D))) s):codeAny (model prog w) A (.call (.builtin "getset_descriptor.__get__") ⟨[.builtin "object.__class__",.ref x,tp],[]⟩) R s:=by
 obtain⟨hh,g,dr,t,os⟩:=s
 have L0:=p.type (M:=model prog w)
 have L1:=looks_mroIn (M:=model prog w) X hm
 refine codeAny_call_builtin KF.slot_gs.plain KF.entry_gs (KF.slot_gs.check _ _ _ _ _ _ _ _ KF.type_class (KF.args_gs _ _ _) ?_)
 unfold Builtin.«getset_descriptor.__get__» descrGet
 rw[dga_obj]
 refine wpAny_bind (wpAny_pure ?_)
 unfold descrGetter descrCheckInstance descrNameAndClass isInstance
 simp only[KF.owner_class]
 repeat lk
 refine⟨Code.quiet_builtin _ (by decide +kernel),codeAny_builtin KF.entry_class ?_⟩
 unfold Builtin.«object.__class__» shownTypeOf
 repeat lk
 exact h
def ex_check{M:Model}{nameV:Value}{Q:Unit→Shared→Prop}(c:ExI K D)(X:K.In s.heap)(p:ExAt x (.ref D) s.heap)(hq:Q () s):wpAny M A (checkBuiltinCall "BaseException.__getattribute__" ⟨[.ref x,nameV],[]⟩) Q E s:=by
 obtain⟨h,g,d,t,os⟩:=s
 have hk:builtinKind "BaseException.__getattribute__" = some .slot:=by decide +kernel
 have iG:splitId "BaseException.__getattribute__" = some ("BaseException", "__getattribute__"):=by decide +kernel
 have ha:=F.args_bexc_ga (.ref x) nameV
 have L0:=p.type (M:=M)
 have L1:=looks_mroIn (M:=M) X c.bx
 have LI:Looks M h (isInstance (.ref x) (.type "BaseException")) true:=L0.andThen L1
 simp only[checkBuiltinCall,hk,iG]
 refine wpAny_bind (LI.at ?_)
 repeat(first | lk | wp_step)
 exact hq
def ex_entry{tk:Tok}{Q:Fin→Shared→Prop}(c:ExI K D)(X:K.In s.heap)(p:ExAt x (.ref D) s.heap)(hq:Q (.done (.ret (.ref D))) s):wpAny (model prog w) A (Builtin.«object.__getattribute__» ⟨[.ref x,.str "__class__" tk],[]⟩) Q E s:=by
 have p':=p
 have X':=X
 obtain⟨h,g,d,t,os⟩:=s
 have L0:=p.type (M:=model prog w)
 have M1:=ex_find (M:=model prog w) c X p
 refine wpAny_bind (wpAny_pure (wpAny_bind (wpAny_pure (wpAny_bind (Looks.at L0 (wpAny_bind (M1.at ?_)))))))
 show wpAny _ _ (holding _ (call _ [_,.ref x,.ref D]) >>= ret) _ _ _
 exact wpAny_bind (wpAny_holding (wpAny_call (ex_class_get (s:=⟨h,g,d,t,os⟩) X p c.ob (wpAny_pure hq))))
def ex_class{Q:Option Value→Shared→Prop}(c:ExI K D)(X:K.In s.heap)(p:ExAt x (.ref D) s.heap)(h:Q (some (.ref D)) {s with toks:=s.toks+1}):wpAny (model prog w) A (getAttr? (.ref x) "__class__") Q E s:=by
 obtain⟨hh,g,d,t,os⟩:=s
 have L0:=p.type (M:=model prog w)
 have L1:=looks_findIn (M:=model prog w) X c.ga
 have L2:=looks_findIn (M:=model prog w) X c.nga
 have kZ:(Value.builtin "BaseException.__getattribute__" == Value.builtin "object.__getattribute__")=false:=by decide +kernel
 have f3:=PySem.F.excAttr_ValueError.ga.bind (.ref x)
 unfold getAttr? getAttrBy? getAttrBy
 refine wpAny_bind (wpAny_mkText (wpAny_bind (wpAny_attempt (wpAny_holding (wpAny_bind (Looks.at L0 (wpAny_bind (L1.at ?_))))))))
 dsimp only
 rw[if_neg (by rw[kZ,Bool.and_false];exact Zb)]
 unfold getAttrByItsOwn hookBefore
 rw[if_pos (show onTheHeap (Value.ref D)=true from rfl)]
 refine wpAny_bind (Looks.at L2 (wpAny_bind (wpAny_attempt (wpAny_holding ?_))))
 unfold callGetattribute
 rw[if_neg (by exact Zb)]
 unfold boundAndCalled
 rw[f3]
 refine wpAny_bind (wpAny_pure ?_)
 show wpAny _ _ (call (.builtin "BaseException.__getattribute__") [.ref x,.str "__class__" t]) _ _ _
 refine wpAny_call (codeAny_call_builtin PySem.F.excAttr_ValueError.ga.plain PySem.F.entry_bexc_ga (ex_check (s:=⟨hh,g,d,t+1,os⟩) c X p (ex_entry (s:=⟨hh,g,d,t+1,os⟩) c X p ?_)))
 show wpAny _ _ (handedOut (.ref D)) _ _ _
 exact handed_on rfl (wpAny_pure h)
end
theorem ex_kit{K:Na}{x D:Nc}(c:ExI K D):KitX K (.ref x) (.ref D) (ExAt x (.ref D)) where
 ty:=λ_ _ _ p=>p.type
 it:=λ_ _ X _=>by
  have gy:=c.cl
  unfold clsIn at gy
  split at gy
  ·rename_i c' d' cd' jN ho
   intro A' Q' E' s' k q
   unfold isType loadHead
   exact wpAny_bind (wpAny_loadPart (k _ _ (X _ _ ho)) (wpAny_pure q))
  ·cases gy
 ne:=λh tp dd a8 n sl X gb=>by
  have gy:=c.cl
  refine Bool.eq_false_iff.mpr λq=>?_
  have e:D=tp:=Value.ref.inj (beq_iff_eq.mp q)
  subst e
  unfold clsIn at gy
  split at gy
  ·rename_i c' d' cd' jN ho
   have z:=(X _ _ ho).symm.trans gb
   cases z
  ·cases gy
 ca:=λX p k=>ex_class c X p k
section
variable{X:Cx}
def ex_at{H:Hp}{h:Nm}{P:Ni}{w:Nl}{a:Nc}{cls:Value}(ok:HOk P w H h)(e:H a=some (ExO a cls)):ExAt a cls h:=by
 obtain⟨p,_⟩:=ok a _ e
 exact p
def call_isi_ex:zb3 X (.builtin "isinstance") (λxs H Q=>Ex5 λ(a C:Nc) (c:V) (u:Value) (b:Bool)=>Aj6 (xs=[.ref a,c]) (H a=some (ExO a (.ref C))) (ExI X.K C) (∀u',RelV c u'→u'=u) (kitOne X.K (.ref C) u=some b) (Q (.bl b) H)):=by
 intro a7 s σ H xs us Q I r h
 obtain⟨a,C,c,u,b,rfl,ha,ci,hc,e,q⟩:=h
 obtain⟨u1,u2,rfl,r1,r2⟩:=vals2 r
 cases r1
 rw[hc _ r2]
 exact kia_one (ex_kit ci) I.kIn (ex_at I.hok ha) e (λz=>nomatch z) λtk=>⟨.bl b,H,I.tok tk,rfl,q⟩
end
section
variable{X:Cx}{k:Nat}{f:Nc}{fd:Nr}{ps:Nj}{sp:Sp}{dvs:List V}{ds:Nh}{x:Str}{p pos:Pos}{e:Expr}{es:No}{t:TA}
end
end L2
end
section
namespace L2
open PySem PySem.Spec PyProof.Rows
section
variable{X:Cx}
def op_ne_bools(hu:X.A.units<cLine):OpR X (compareOp .NotEq) (λx y H Q=>Ex3 λl b (zs:List Bool)=>Aj5 (x=.ref l) (y=.ref b) (SqL X.K H l (List.map V.bl zs)) (SqL X.K H b (List.map V.bl zs)) (Q (.bl false) H)):=by
 intro a7 s σ H x y v u Q I rx ry h
 obtain⟨l,b,zs,rfl,rfl,h1,h2,q⟩:=h
 cases rx;cases ry
 obtain⟨a8,r,pl,_⟩:=I.list h1
 obtain⟨ay,r2,dG,_⟩:=I.list h2
 have l1:=r.length
 have l2:=r2.length
 refine SeqAt.RcNeAt.lists (e:=λ_=>true) pl.isList dG.isList (by rw[Qn,Qn];omega) hu (λj j1 j2=>?_) _ _ _ _ ⟨.bl false,H,I,?_,q⟩
 ·have a1:j < (List.map V.bl zs).length:=by rw [l1];simpa using j1
  have a2:j<zs.length:=by simpa using a1
  have g:(List.map V.bl zs)[j]?=some (.bl zs[j]):=by simp[a2]
  obtain⟨u1,e1,rfl⟩:=r.get g
  obtain⟨u2,e2,rfl⟩:=r2.get g
  rw[Uy,Uy,(Zd.mp e1).2,(Zd.mp e2).2]
  have:=SeqAt.EqAt.bool_bool (A:=X.A.in1) (s:=s) zs[j] zs[j]
  rw[beq_self_eq_true]at this
  exact this
 ·show Value.bool _=Value.bool false
  simp
end
end L2
end
section
namespace K21
open PySem L2 Wb
abbrev sPot:Stmt:=top 22
abbrev zej:Stmt:=top 23
abbrev qG:Str := "_law_digit"
inductive IspPot(K:Na)(vs:List V)(H:Hp)(Q:VK):Prop
 |mk (a:Nc) (ns:List Int) (j:Nat) (h0:vs=[.ref a,.int j]) (h1:SqL K H a (ns.map V.int)) (h2:j≤1000) (h2':ns.length≤1000) (h3:∀(l:Nc) (b m:Int) (H':Hp),H l=none→Pot H' l b m→Keep [] H H'→Q (.ref l) H'):IspPot K vs H Q
def spPot(K:Na):Sp:=λvs H Q _=>IspPot K vs H Q
def sq_keep(h:SqL K H a xs)(k:Keep [] H H'):SqL K H' a xs:=h.imp (λr=>r.imp (λe=>k _ _ e (by simp)) λ⟨o,e⟩=>⟨o,k _ _ e (by simp)⟩) id
section
variable{P:Ni}{w:Nl}{K:Na}{mg:Nf}{base:Nm}
def scDigit:zap [qP,qM, "_law_digit_here"] [qP,qM] (zag zej):=fsk
def ok_digit(F:Fun K qG qG zej f fd):FnOk P w K mg base CX0 1 f fd [qP,qM] zfx:=by
 refine F.okL scDigit (λcdv A outer s H vs Q E hr h=>?_)
 obtain⟨p,b,m,n,rfl,⟨hp,hb,hm,bh⟩,hn,bg,k⟩:=h
 have i0:atI [V.int b,V.int m] ((0:Nat):Int)=some (.int b):=zax rfl
 have i1:atI [V.int b,V.int m] ((1:Nat):Int)=some (.int m):=zax rfl
 refine⟨_,zae (zcc (za5 op_gt (zbg zat (pv 0) zai (λ_ _=>rfl)) zai (zbt _))
  (zae (zau 2 scDigit.nd (zav zcq (zbg zat (pv 0) zai (λ_ _=>rfl)) (pv 1)))
  (zae (ps_asg (zav zgc (zbg zat (pv 0) zai (fun _ _=>rfl)) (pv 1)) (pg_sub (pv 0) zai set_list))
   (zah (zbe (pv 2))))) zba)
  (zae (ps_asg (zav zcq (zav zb0 (zav zga (zbg zat (pv 0) zai (λ_ _=>rfl)) zai) zai) zai) (pg_sub (pv 0) zai set_list))
  (zah (zbe (zav zcq (zav zgc (zav zcq (zav zga (zbg zat (pv 0) zai (λ_ _=>rfl)) (zbg zat (pv 0) zai (λ_ _=>rfl))) zai) zai) (pv 1))))),?_⟩
 refine⟨_,rfl,p,_,_,_,rfl,rfl,SqL.of hp,i0,_,_,rfl,rfl,_,rfl,?_⟩
 refine ite2 (λcu=>?_) (λhneg=>?_)
 ·have kA:0 < b:=of_decide_eq_true cu
  refine⟨_,rfl,p,_,_,_,rfl,rfl,SqL.of hp,i0,_,rfl,_,_,rfl,rfl,hn,?_⟩
  refine⟨_,rfl,p,_,_,_,rfl,rfl,SqL.of hp,i0,_,rfl,_,_,rfl,rfl,⟨hn,bg⟩,_,rfl,p,_,0,0,rfl,rfl,hp,rfl,_,rfl,?_⟩
  refine k (b%n) (b/n) m _ (Ko _ (by lia)) (Jy _ hn) ⟨zac,Int.ediv_nonneg hb (by lia),hm,bh⟩ λc o e hc=>?_
  rw[zad hc]
  exact e
 ·have i1':∀ x:Int,atI [V.int b,V.int x] ((1:Nat):Int)=some (.int x):=fun x=>zax rfl
  have r0:0≤(m*48271+12289)%2147483629:=Ko _ (by decide)
  have r1:(m*48271+12289)%2147483629<2147483629:=Jy _ (by decide)
  refine⟨_,rfl,p,_,_,_,rfl,rfl,SqL.of hp,i1,_,_,rfl,rfl,.inl ⟨by lia,by lia⟩,_,_,rfl,rfl,_,_,rfl,rfl,(by show(0:Int)<2147483629;decide),_,rfl,p,_,1,1,rfl,rfl,hp,rfl,?_⟩
  refine⟨_,rfl,p,_,_,_,rfl,rfl,SqL.of zac,i1' _,_,rfl,p,_,_,_,rfl,rfl,SqL.of zac,i1' _,_,_,rfl,rfl,.inl ⟨by lia,by lia⟩,_,_,rfl,rfl,(by show(0:Int)<2147483587;decide),_,_,rfl,rfl,⟨by decide,by decide⟩,_,rfl,_,_,rfl,rfl,hn,?_⟩
  refine k _ b ((m*48271+12289)%2147483629) _ (Ko _ (by lia)) (Jy _ hn) ⟨zac,hb,r0,by lia⟩ λc o e hc=>?_
  rw[zad hc]
  exact e
def scPot:zap [qS, "_law_k", "_law_cell"] [qS, "_law_k"] (zag sPot):=fsk
def ok_pot(F:Fun K "_law_pot" "_law_pot" sPot f fd)(ad:mg "len" = none)(cN:mg "min" = none)(iS:mg "max" = none)(aV:mg "list" = none):FnOk P w K mg base CX0 1 f fd [qS, "_law_k"] (spPot K):=by
 refine F.okL scPot (λcdv A outer s H vs Q E hr h=>?_)
 obtain⟨a,ns,j,rfl,hS,hj,oi,k⟩:=h
 have aT  := sizeLine_eq
 refine⟨_,zae (zau 2 scPot.nd (zbg zat (zav zek (zca zdp (by rfl) aV Je (zaa (pv 0) zaf)) (zbj (zaa zai zaf)))
   (zaj (call_min2 rfl) (by rfl) cN Kg (zaa (pv 1) (zaa (zaj zan (by rfl) ad Zz (zaa (pv 0) zaf)) zaf))) (λ_ _=>rfl)))
  (zah (zbe (zbj (zaa (zaj (call_max2 rfl) (by rfl) iS PyProof.Rows.boot_max (zaa zai (zaa (zav op_sub (pv 2) (zav op_pow zai zai)) zaf)))
   (zaa (zav zcq (zav zb0 (zav zb0 (zav zga (zav zcq (pv 2) zai) zai) (zav zga zai (pv 1))) zai) zai) zaf))))),?_⟩
 refine⟨_,rfl,a,_,rfl,.inl hS,λp1 h1=>?_⟩
 refine⟨(by show 1≤sizeLine;decide),λp2 h2=>?_⟩
 have dh:p1≠p2:=zab (o:=_) zac h2
 refine⟨p1,p2,_,_,rfl,rfl,(by rw[zad dh];exact zac),zac,by rw[Qa];show _+1≤_;omega,λp3 h3=>?_⟩
 have k3:Keep [] H (upd (upd (upd H p1 (.lst (ns.map V.int))) p2 (.lst [.int 0])) p3 (.lst (ns.map V.int++[.int 0]))):=((Keep.new h1).trans (Keep.new h2)).trans (Keep.new h3)
 have S3:=sq_keep hS k3
 have l3:(upd (upd (upd H p1 (.lst (ns.map V.int))) p2 (.lst [.int 0])) p3 (.lst (ns.map V.int++[.int 0]))) p3=some (.lst ((ns++[0]).map V.int)):=by rw[zac,Qt];rfl
 refine⟨_,rfl,_,rfl,a,_,rfl,.inl S3,j,ns.length,by rw[Qa],?_⟩
 generalize upd (upd (upd H p1 (.lst (ns.map V.int))) p2 (.lst [.int 0])) p3 (.lst (ns.map V.int++[.int 0]))=H3 at S3 k3 l3
 obtain⟨i,hi,e⟩:∃i:Nat,i<(ns++[0]).length∧(if(ns.length:Int)<(j:Int) then(ns.length:Int) else(j:Int))=(i:Int):=by
  rw[Qm]
  split
  ·exact⟨ns.length,Yv _,rfl⟩
  ·exact⟨j,by show j<ns.length+1;omega,rfl⟩
 rw[e]
 have g:((ns++[0]).map V.int)[i]?=some (.int (ns++[0])[i]):=by rw[Qr,Qc hi];rfl
 refine⟨p3,_,_,_,rfl,rfl,SqL.of l3,zax g,?_⟩
 generalize(ns++[0])[i]=c
 have q0:0≤c%2147483629:=Ko _ (by decide)
 have q1:c%2147483629<2147483629:=Jy _ (by decide)
 refine⟨_,rfl,_,_,rfl,rfl,⟨by decide,by decide,by decide⟩,_,_,rfl,rfl,_,_,rfl,?_⟩
 refine⟨_,rfl,_,_,rfl,rfl,(by show(0:Int)<2147483629;decide),_,_,rfl,rfl,.inl ⟨by lia,by lia⟩,_,rfl,_,_,rfl,rfl,.inl ⟨by decide,by decide⟩,_,_,rfl,rfl,_,_,rfl,rfl,_,_,rfl,rfl,(by show(0:Int)<2147483629;decide),(by show 2≤sizeLine;decide),λl hl=>?_⟩
 refine k l _ _ _ (zas k3 hl (by simp)) ⟨zac,?_,Ko _ (by decide),Int.lt_trans (Jy _ (by decide)) (by decide)⟩ (k3.trans (Keep.new hl))
 split
 ·omega
 ·decide
end
end K21
end
section
namespace L2
open PySem PySem.Spec PyProof.Rows
abbrev iV(n:Nat):V:=.int (n:Int)
section
variable{X:Cx}
def op_ne_pairsN(hu:X.A.units<cLine):OpR X (compareOp .NotEq) (λx y H Q=>Ex4 λ(a b:Nc) (q r:Nat×Nat)=>Aj5 (x=.ref a) (y=.ref b) (H a=some (.tup [iV q.1,iV q.2])) (H b=some (.tup [iV r.1,iV r.2])) (Q (.bl (!decide (q=r))) H)):=by
 intro a7 s σ H x y v u Q I rx ry h
 obtain⟨a,b,q,r,rfl,rfl,ha,hb,k⟩:=h
 cases rx;cases ry
 obtain⟨_,a8,r1,p⟩:=I.hok a _ ha
 obtain⟨_,ay,r2,p2⟩:=I.hok b _ hb
 obtain⟨u1,u2,rfl,⟨t1,rfl⟩,⟨t2,rfl⟩⟩:=vals2 r1
 obtain⟨w1,w2,rfl,⟨t3,rfl⟩,⟨t4,rfl⟩⟩:=vals2 r2
 refine SeqAt.RcNeAt.tuples (e:=λj=>if j=0 then(q.1:Int)==(r.1:Int) else(q.2:Int)==(r.2:Int)) p p2 hu (λj j1 j2=>?_) _ _ _ _ ⟨.bl (!decide (q=r)),H,I,?_,k⟩
 ·have j1':j < 2:=by simpa using j1
  match j,j1' with
  |0,_=>exact SeqAt.EqAt.int_int (q.1:Int) t1 (r.1:Int) t3
  |1,_=>exact SeqAt.EqAt.int_int (q.2:Int) t2 (r.2:Int) t4
 ·show Value.bool _=Value.bool _
  congr 1
  have:decide (q=r)=(((q.1:Int)==(r.1:Int))&&((q.2:Int)==(r.2:Int))):=by
   rw[Wm]
   simp[Prod.ext_iff]
   omega
  rw[this]
  show(!((List.range 2).all (λj=>if j=0 then(q.1:Int)==(r.1:Int) else(q.2:Int)==(r.2:Int))&&true))=_
  rw[show List.range 2=[0,1] from rfl]
  simp
end
end L2
namespace Wb
section
variable{α:Type}[DecidableEq α]
theorem zgp(rs:Rs α)(s:α×α):∀n,itr rs s (n+1)=itr rs (stp rs s) n
 |0=>rfl
 |n+1=>congrArg (stp rs) (zgp rs s n)
theorem lk_itr:∀{t:List (α×α)} {s:α×α},Lk (st (row rs)) s t e→run rs s (t.length+1)=s::t∧itr rs s (t.length+1)=e
 |[],s,k=>⟨rfl,k⟩
 |y::t,s,k=>by
  obtain⟨h1,h2⟩:=lk_itr k.2
  have hs:stp rs s=y:=k.1
  refine⟨?_,by rw[Zg,zgp,hs];exact h2⟩
  unfold run at h1 ⊢
  rw[Zg,List.range_succ_eq_map,Qk,Zp,←h1]
  refine congrArg (s::·) (Wx λn _=>?_)
  show itr rs s (n+1)=_
  rw[zgp,hs]
def good_round{rs:Rs α}(h:Good rs){s:α×α}(hs:IsSt rs s):∃L,itr rs s (L+1)=s∧(run rs s (L+1)).Nodup:=by
 obtain⟨cs,aa,C⟩:=h
 obtain⟨c,hc,h⟩:=Wd.mp ((C.cm s).mpr ((zda C.nd).mp hs))
 obtain⟨A,B,e⟩:=Ub h
 have k:=C.cy c hc
 rw[e]at k
 obtain⟨h1,h2⟩:=lk_itr (ze5 k)
 refine⟨_,h2,?_⟩
 rw[h1]
 have hn:c.Nodup:=(List.pairwise_flatten.mp C.cf).1 c hc
 rw[e]at hn
 have:=(Wc (l₁:=A) (l₂:=s::B)).nodup_iff.mp hn
 exact this
def round_ne{rs:Rs α}{s:α×α}{L n:Nat}(nd:(run rs s (L+1)).Nodup)(h0:0<n)(h:n≤L):itr rs s n≠s:=λe=>by
 unfold run at nd
 have:=(Wn (i:=n) (j:=0) (h₀:=by rw[Qa,Wh];omega) (h₁:=by rw[Qa,Wh];omega) nd).mp (by
  rw[Yd,Yd,Jx,Jx];exact e)
 omega
end
def rsN(rr:List (List Nat)):Rs Nat:=(List.range rr.length).map λk=>(k,rr.getD k [])
def zdl(rr:List (List Nat)):(rsN rr).map (·.1)=List.range rr.length:=by
 unfold rsN
 rw[Zp]
 exact(Wx λ_ _=>rfl).trans (List.map_id _)
def nd_N(rr:List (List Nat)):((rsN rr).map (·.1)).Nodup:=by rw[zdl];exact Xk
def zg4{rr:List (List Nat)}{k:Nat}(h:k<rr.length):(k,rr[k])∈rsN rr:=by
 unfold rsN
 exact Ql.mpr ⟨k,Yq.mpr h,by rw[Qx,Qc h];rfl⟩
def row_N{rr:List (List Nat)}{k:Nat}(h:k<rr.length):row (rsN rr) k=rr[k]:=zfd (nd_N rr) (zg4 h)
def row_No{rr:List (List Nat)}{k:Nat}(h:¬k<rr.length):row (rsN rr) k=[]:=zcu (by rw[zdl];exact λz=>h (Yq.mp z))
def set_N(rr:List (List Nat))(k:Nat)(r:List Nat):zbh (rsN rr) k r=rsN (rr.set k r):=by
 unfold zbh rsN
 rw[Zp,Uw]
 refine Wx λj hj=>?_
 have kb:=Yq.mp hj
 show(if j=k then(j,r) else(j,rr.getD j []))=(j,(rr.set k r).getD j [])
 rw[Qx,Qx,List.getElem?_set]
 by_cases e:j=k
 ·subst e
  rw[if_pos rfl,if_pos rfl,if_pos kb];rfl
 ·rw[if_neg e,if_neg (Zn e)]
def snoc_N(rr:List (List Nat)):rsN (rr++[[]])=rsN rr++[(rr.length,[])]:=by
 unfold rsN
 rw[Qm,Zg,Jj,Xt,Qt]
 congr 1
 ·refine Wx fun j hj=>?_
  rw[Qx,Qx,Kv (Yq.mp hj)]
 ·show [(rr.length,(rr++[[]]).getD rr.length [])]=_
  rw[Qx,Ur (Qd _),Xo];rfl
end Wb
namespace K21
open PySem L2 Wb
abbrev zh3:Stmt:=top 26
abbrev zhy:Stmt:=top 27
structure NAt(H:Hp)(l:Nc)(as:Nk)(rr:List (List Nat)):Prop where
 ls:H l=some (.lst (as.map V.ref))
 ro:Paired (λa r=>H a=some (.lst (r.map iV))) as rr
 nd:as.Nodup
def NAt.len(R:NAt H l as rr):as.length=rr.length:=Zt R.ro
def NAt.row(R:NAt H l as rr){k:Nat}(h:k<as.length)(h':k<rr.length):H as[k]=some (.lst (rr[k].map iV)):=let⟨_,z⟩:=zaz R.ro h;z
def NAt.keep(R:NAt H l as rr)(k:Keep xs H H')(hl:l∉xs)(ha:∀a∈as,a∉xs):NAt H' l as rr:=by
 refine⟨k _ _ R.ls hl,?_,R.nd⟩
 have:=R.ro
 clear R
 induction this with
 |nil=>exact .nil
 |cons r t ih=>exact .cons (k _ _ r (ha _ Qe)) (ih λa h=>ha a (Qg _ h))
def NAt.k0(R:NAt H l as rr)(k:Keep [] H H'):NAt H' l as rr:=R.keep k (by simp) λ_ _=>by simp
def NAt.apart(R:NAt H l as rr):l∉as:=λh=>by
 obtain⟨k,hk,e⟩:=Zf h
 have h1:=R.row hk (by rw[←R.len];exact hk)
 rw[e,R.ls]at h1
 have h2:as.map V.ref=(rr[k]'(by rw[←R.len];exact hk)).map iV:=by injection h1 with z;injection z
 cases as with
 |nil=>simp at hk
 |cons a t =>
  generalize(rr[k]'(by rw[←R.len];exact hk))=r at h2
  cases r with
  |nil=>cases h2
  |cons y s=>rw[Qk,Qk]at h2;injection h2 with z1 _;cases z1
def zgr{zs:List Nat}{x:Nat}(h:x∈zs):(∃ z,(zs.map iV)[zs.idxOf x]?=some z∧eqV z (iV x)=true)∧∀ m z,m < zs.idxOf x→(zs.map iV)[m]?=some z→eqV z (iV x)=false:=by
 have ae:zs.idxOf x<zs.length:=Ja.mpr h
 refine⟨⟨iV x,?_,beq_self_eq_true (x:Int)⟩,λm z hm e=>?_⟩
 ·rw[Qr,Qc ae,Jf];rfl
 ·rw [Qr] at e
  have bh:m<zs.length:=Ws hm ae
  rw[Qc bh]at e
  cases e
  show((zs[m]:Int)==(x:Int))=false
  refine beq_eq_false_iff_ne.mpr λq=>?_
  have q:zs[m]=x:=Int.ofNat.inj q
  have aW:∀(l:List Nat) (j:Nat) (hj:j<l.length),l[j]=x→l.idxOf x≤j:=by
   intro l
   induction l with
   |nil=>intro j hj;simp at hj
   | cons a t ih =>
    intro j hj e
    rw[Xu]
    cases j with
    |zero =>
     have e':a=x:=e
     rw[e'];simp
    | succ i =>
     have:=ih i (by simpa using hj) (by simpa using e)
     by_cases h:a=x
     ·rw[h];simp
     ·have hb:(a == x)=false:=beq_eq_false_iff_ne.mpr h
      rw[hb];simp;assumption
  have:=aW zs m bh q
  omega
def zer(zs:List Nat):(zs.map iV).all zdo=true:=by
 rw[Jq];intro v hv;obtain⟨x,_,rfl⟩:=Ql.mp hv;rfl
inductive IspBehind(vs:List V)(H:Hp)(Q:VK):Prop
 |mk (a:Nc) (zs:List Nat) (x:Nat) (h0:vs=[.ref a,iV x]) (h1:H a=some (.lst (zs.map iV))) (h2:x∈zs) (h3:zs.length≤900) (h4:Q (iV (nxt zs x)) H):IspBehind vs H Q
def spBehind:Sp:=λvs H Q _=>IspBehind vs H Q
abbrev zb4(H:Hp)(as:Nk)(qs:List (Nat×Nat)):Prop:=Paired (λa q=>H a=some (.tup [iV q.1,iV q.2])) as qs
def zb4.keep(r:zb4 H as qs)(k:∀b x y,H b=some (.tup [x,y])→H' b=some (.tup [x,y])):zb4 H' as qs:=Paired.imp' (λa q h=>k _ _ _ h) r
def zb4.snoc(r:zb4 H as qs)(h:H a=some (.tup [iV q.1,iV q.2])):zb4 H (as++[a]) (qs++[q]):=by
 induction r with
 |nil=>exact .cons h .nil
 |cons r t ih=>exact .cons r ih
inductive IspSteps0(vs:List V)(H:Hp)(Q:VK):Prop
 |mk (l:Nc) (as:Nk) (rr:List (List Nat)) (s:Nat×Nat) (h0:vs=[.ref l,iV s.1,iV s.2]) (h1:NAt H l as rr) (h2:IsSt (rsN rr) s) (h3:Good (rsN rr)) (h4:rr.length≤40)
  (h6:∀(t:Nc) (ps:Nk) (n:Nat) (H':Hp),H t=none→H' t=some (.lst (ps.map V.ref))→zb4 H' ps (run (rsN rr) s (n+1))→(run (rsN rr) s (n+1)).Nodup→n+1≤1600→Keep [] H H'→Q (.ref t) H'):IspSteps0 vs H Q
def spSteps0:Sp:=λvs H Q _=>IspSteps0 vs H Q
section
variable{P:Ni}{w:Nl}{K:Na}{mg:Nf}{base:Nm}
def scBehind:zap ["_law_around", "_law_one"] ["_law_around", "_law_one"] (zag zh3):=fsk
def ok_behind(F:Fun K "_law_behind" "_law_behind" zh3 f fd)(ad:mg "len" = none):FnOk P w K mg base CX0 1 f fd ["_law_around", "_law_one"] spBehind:=by
 refine F.okL scBehind (λcdv A outer s H vs Q E hr h=>?_)
 obtain⟨a,zs,x,rfl,ha,hx,hz,k⟩:=h
 have hu:=zck hr
 refine⟨_,zah (zbe (zbg zat (pv 0) (zav zcq (zav zb0 (zcj Qy Jc Jb zel (pv 0) (zaa (pv 1) zaf)) zai)
  (zaj zan (by rfl) ad Zz (zaa (pv 0) zaf))) (λ_ _=>rfl))),?_⟩
 obtain⟨i1,i2⟩:=zgr hx
 have cu:0<zs.length:=Xq hx
 have hm:(zs.idxOf x+1)%zs.length<zs.length:=Uq _ cu
 have g:(zs.map iV)[(zs.idxOf x+1)%zs.length]?=some (iV (nxt zs x)):=by
  rw[Qr,Qc hm]
  unfold nxt
  simp[List.getD,hm]
 have e1:((zs.idxOf x:Nat):Int)+1=((zs.idxOf x+1:Nat):Int):=by lia
 have g2:atI (zs.map iV) ((((zs.idxOf x:Nat):Int)+1)%((zs.map iV).length:Int))=some (iV (nxt zs x)):=by
  rw[e1,Qa,←Int.natCast_emod]
  exact zax g
 refine⟨_,rfl,_,rfl,.inl ⟨rfl,_,SqL.of ha⟩,_,rfl,a,_,_,_,rfl,rfl,ha,rfl,zer zs,i1,i2,_,_,rfl,rfl,_,rfl,a,_,rfl,.inl (SqL.of ha),_,_,rfl,rfl,?_,a,_,_,_,rfl,rfl,SqL.of ha,g2,k⟩
 rw[Qa];exact zar9 ‹_›
def zfm:zap [qR, "_law_p", "_law_q", "_law_found", "_law_here"] [qR, "_law_p", "_law_q"] (zag zhy):=fsk
def ok_steps0(F:Fun K "_law_steps" "_law_steps" zhy f fd)(FB:Fun K "_law_behind" "_law_behind" zh3 fb fdb)(bB:Binds K fdb ["_law_around", "_law_one"] [])(mB:mg "_law_behind" = some (.ref fb))(GB:FnOk P w K mg base CX0 1 fb fdb ["_law_around", "_law_one"] spBehind) :
  FnOk P w K mg base CX0 2 f fd [qR, "_law_p", "_law_q"] spSteps0:=by
 refine F.okL zfm (λcdv A outer s H vs Q E hr h=>?_)
 obtain⟨d,ra,rr,st,rfl,R,az,hG,bQ,k⟩:=h
 have hu:=zck hr
 refine⟨_,zae (zau 3 zfm.nd (zbj (zaa (zdj (zaa (pv 1) (zaa (pv 2) zaf))) zaf)))
  (zae (zau 4 zfm.nd (zdj (zaa (pv 2) (zaa (zam GB hr rfl mB FB.kp bB .nil za0 (zaa (zbg zat (pv 0) (pv 2) (λ_ _=>rfl)) (zaa (pv 1) zaf))) zaf))))
  (zae (zfs Zq (za5 (op_ne_pairsN (Ws (Yv _) hu)) (pv 4) (zbg zat (pv 3) zai (fun _ _=>rfl)) rfl)
   (zae (zay (zcj Qy Yb Ya zbc (pv 3) (zaa (pv 4) zaf)))
   (zah (zau 4 zfm.nd (zdj (zaa (zbg ix_tup (pv 4) zai (λ_ _=>rfl)) (zaa (zam GB hr rfl mB FB.kp bB .nil za0 (zaa (zbg zat (pv 0) (zbg ix_tup (pv 4) zai (λ_ _=>rfl)) (λ_ _=>rfl)) (zaa (zbg ix_tup (pv 4) zai (λ_ _=>rfl)) zaf))) zaf)))))))
  (zah (zbe (pv 3))))),?_⟩
 obtain⟨L,hL,nd⟩:=good_round hG az
 have gw:=zbm.clo _ hG
 have iY:(rsN rr).length=rr.length:=by unfold rsN;rw[List.length_map,List.length_range]
 have hLb:L+1≤1600:=by
  have:=nodup_len nd (m:=allSt (rsN rr)) λx hx=>by
   obtain⟨i,_,rfl⟩:=Ql.mp hx
   exact mem_allSt.mpr (itr_st gw az i)
  unfold Wb.run at this
  rw[Qa,Wh]at this
  exact Zi this (zbm.steps hG (by rw[iY];exact bQ))
 have at':∀q:Nat×Nat,IsSt (rsN rr) q→∃(h:q.2<rr.length) (h':q.2<ra.length),q.1∈rr[q.2]∧rr[q.2].length≤900∧stp (rsN rr) q=(q.2,nxt rr[q.2] q.1):=λq hq=>by
  have h1:=(zda (nd_N rr)).mp hq
  by_cases h:q.2<rr.length
  ·rw [row_N h] at h1
   refine⟨h,by rw[R.len];exact h,h1,?_,by unfold stp;rw[row_N h]⟩
   have:=zbm.rows hG _ (zg4 h)
   rw[iY]at this
   exact Zi this (by omega)
  ·rw[row_No h]at h1;cases h1
 have i0:∀x y:V,atI [x,y] ((0:Nat):Int)=some x:=λx y=>zax rfl
 have i1:∀x y:V,atI [x,y] ((1:Nat):Int)=some y:=λx y=>zax rfl
 have aT  := sizeLine_eq
 refine⟨_,rfl,_,rfl,(by show 2≤sizeLine;decide),λt0 ht0=>⟨(by show 1≤sizeLine;decide),λl hl=>?_⟩⟩
 have k1:Keep [] H (upd (upd H t0 (.tup [iV st.1,iV st.2])) l (.lst [.ref t0])):=(Keep.new ht0).trans (Keep.new hl)
 have ntl:t0≠l:=zab (o:=_) zac hl
 have iD:(upd (upd H t0 (.tup [iV st.1,iV st.2])) l (.lst [.ref t0])) t0=some (.tup [iV st.1,iV st.2]):=by rw[zad ntl];exact zac
 have cG:(upd (upd H t0 (.tup [iV st.1,iV st.2])) l (.lst [.ref t0])) l=some (.lst [.ref t0]):=zac
 have fl:H l=none:=zas (xs:=[]) (Keep.new ht0) hl (by simp)
 generalize upd (upd H t0 (.tup [iV st.1,iV st.2])) l (.lst [.ref t0])=H1 at k1 iD cG
 have R1:=R.k0 k1
 obtain⟨g1,g2,g3,g4,g5⟩:=at' st az
 refine⟨_,rfl,_,rfl,_,rfl,d,_,_,_,rfl,rfl,SqL.of R1.ls,zax (by rw[Qr,Qc g2];rfl),_,rfl,_,rr[st.2],st.1,rfl,R1.row g2 g1,g3,g4,(by show 2≤sizeLine;decide),λt ht=>?_⟩
 have e5:[iV st.2,iV (nxt rr[st.2] st.1)]=[iV (itr (rsN rr) st 1).1,iV (itr (rsN rr) st 1).2]:=by show _=[iV (stp (rsN rr) st).1,iV (stp (rsN rr) st).2];rw[g5]
 rw[e5]
 have nlt:l≠t:=zab cG ht
 refine⟨λm σ H2=>Ex3 λ(n:Nat) (t:Nc) (as:Nk)=>Aj8 (m=L-n) (n≤L) (σ=[some (.ref d),some (iV st.1),some (iV st.2),some (.ref l),some (.ref t)]) (Keep [l] H1 H2) (H2 l=some (.lst ((t0::as).map V.ref))) (zb4 H2 (t0::as) (run (rsN rr) st (n+1))) (H2 t=some (.tup [iV (itr (rsN rr) st (n+1)).1,iV (itr (rsN rr) st (n+1)).2])) (as.length=n),
  ⟨_,0,t,[],rfl,Zh _,rfl,Keep.new ht,by rw[zad nlt];exact cG,.cons (by rw[zad (zab iD ht)];exact iD) .nil,zac,rfl⟩,?_⟩
 rintro m σ H2 ⟨n,t,as,rfl,hn,rfl,k2,aJ,pa,qh,cS⟩
 have qi:=k2 _ _ iD (by simpa using ntl)
 refine⟨_,rfl,_,rfl,l,_,_,_,rfl,rfl,SqL.of aJ,(show atI ((t0::as).map V.ref) ((0:Nat):Int)=some (.ref t0) from zax rfl),t,t0,itr (rsN rr) st (n+1),st,rfl,rfl,qh,qi,_,rfl,?_⟩
 by_cases he:n=L
 ·subst he
  refine zbw (by rw[decide_eq_true hL];rfl) ?_
  exact⟨_,rfl,k l (t0::as) n H2 fl aJ pa nd hLb λc o ec _=>k2 c o (k1 _ _ ec (by simp)) (by simpa using zab ec fl)⟩
 ·refine zb6 (by rw [decide_eq_false (round_ne nd (Nat.succ_pos n) (by omega))];rfl) ?_
  have pk:t≠l:=za3 qh aJ (by intro z;cases z)
  refine⟨_,λ σ' H' z=>z,?_⟩
  refine⟨_,rfl,.inl ⟨rfl,_,SqL.of aJ⟩,_,rfl,l,_,_,rfl,rfl,aJ,by rw[Qa,Zg];omega,?_⟩
  have k3:Keep [l] H1 (upd H2 l (.lst ((t0::as).map V.ref++[V.ref t]))):=k2.trans (Keep.wr Qe)
  have lm:(upd H2 l (.lst ((t0::as).map V.ref++[V.ref t]))) t=some (.tup [iV (itr (rsN rr) st (n+1)).1,iV (itr (rsN rr) st (n+1)).2]):=by rw[zad pk];exact qh
  have gO:(upd H2 l (.lst ((t0::as).map V.ref++[V.ref t]))) l=some (.lst ((t0::(as++[t])).map V.ref)):=by rw[zac,←Yw,Qt];rfl
  have jQ:zb4 (upd H2 l (.lst ((t0::as).map V.ref++[V.ref t]))) (t0::(as++[t])) (run (rsN rr) st (n+1+1)):=by
   rw[run_succ,←Yw]
   refine zb4.snoc (zb4.keep pa λb x y eb=>?_) lm
   rw[zad (za3 eb aJ (by intro z;cases z))];exact eb
  generalize upd H2 l (.lst ((t0::as).map V.ref++[V.ref t]))=H3 at k3 lm gO jQ
  have nra:∀a∈ra,a≠l:=λa ha=>by
   obtain⟨j,hj,rfl⟩:=Zf ha
   exact zab (R.row hj (by rw[←R.len];exact hj)) fl
  have R3:NAt H3 d ra rr:=R1.keep k3 (by simpa using zab R.ls fl) λa ha=>by simpa using nra a ha
  obtain⟨g1,g2,g3,g4,g5⟩:=at' (itr (rsN rr) st (n+1)) (itr_st gw az _)
  refine⟨_,rfl,t,_,_,_,rfl,rfl,SqT.of lm,i1 _ _,_,rfl,_,rfl,t,_,_,_,rfl,rfl,SqT.of lm,i1 _ _,d,_,_,_,rfl,rfl,SqL.of R3.ls,zax (by rw[Qr,Qc g2];rfl),_,rfl,t,_,_,_,rfl,rfl,SqT.of lm,i0 _ _,_,rr[(itr (rsN rr) st (n+1)).2],(itr (rsN rr) st (n+1)).1,rfl,R3.row g2 g1,g3,g4,(by show 2≤sizeLine;decide),λt' qj=>?_⟩
  have e6:[iV (itr (rsN rr) st (n+1)).2,iV (nxt rr[(itr (rsN rr) st (n+1)).2] (itr (rsN rr) st (n+1)).1)]=[iV (itr (rsN rr) st (n+1+1)).1,iV (itr (rsN rr) st (n+1+1)).2]:=by show _=[iV (stp (rsN rr) (itr (rsN rr) st (n+1))).1,iV (stp (rsN rr) (itr (rsN rr) st (n+1))).2];rw[g5]
  rw[e6]
  have nl':l≠t':=zab gO qj
  exact⟨L-(n+1),by omega,n+1,t',as++[t],rfl,by omega,rfl,k3.trans (Keep.new qj),by rw[zad nl'];exact gO,zb4.keep jQ λb x y eb=>by rw[zad (zab eb qj)];exact eb,zac,by rw[Qm,cS];rfl⟩
end
end K21
end
section
namespace K21
open PySem L2 Wb
abbrev sTie:Stmt:=top 28
def inV_nat{x:Nat}{zs:List Nat}:inV (iV x) (zs.map iV)=decide (x∈zs):=by
 unfold inV
 rw[Wm,Wf,decide_eq_true_iff]
 constructor
 ·rintro ⟨v,hv,e⟩
  obtain⟨z,hz,rfl⟩:=Ql.mp hv
  have e:((z:Int)==(x:Int))=true:=e
  have:z=x:=Int.ofNat.inj (eq_of_beq e)
  rw[←this];exact hz
 ·intro h
  exact⟨_,Ql.mpr ⟨x,h,rfl⟩,beq_self_eq_true (x:Int)⟩
def NAt.mem(R:NAt H l as rr)(ha:a∈as):∃r:List Nat,H a=some (.lst (r.map iV)):=by
 obtain⟨j,hj,rfl⟩:=Zf ha
 exact⟨_,R.row hj (by rw[←R.len];exact hj)⟩
def NAt.set(R:NAt H l as rr){k:Nat}(h:k < as.length)(r:List Nat):NAt (upd H as[k] (.lst (r.map iV))) l as (rr.set k r):=by
 have hl:l≠as[k]:=λz=>R.apart (z▸Qq h)
 refine⟨by rw[zad hl];exact R.ls,?_,R.nd⟩
 have aK:=R.nd
 have hr:=R.ro
 clear R hl
 induction hr generalizing k with
 |nil=>simp at h
 | cons r1 t ih =>
  rename_i a r0 bv de
  rw[Qz]at aK
  cases k with
  | zero =>
   refine .cons zac ?_
   show Paired _ bv de
   refine Paired.imp' (λb r' hb=>hb) ?_
   clear ih
   have key:∀{xs:Nk} {ys:List (List Nat)},Paired (λa r=>H a=some (.lst (r.map iV))) xs ys→a∉xs→Paired (λb r'=>(upd H a (.lst (r.map iV))) b=some (.lst (r'.map iV))) xs ys:=by
    intro xs ys hp
    induction hp with
    |nil=>intro _;exact .nil
    |cons q t' ih' =>
     intro hn
     rw[Qh,not_or]at hn
     exact .cons (by rw[zad (Zn hn.1)];exact q) (ih' hn.2)
   exact key t aK.1
  |succ j =>
   have hj:j<bv.length:=by simpa using h
   refine .cons ?_ (ih (k:=j) hj aK.2)
   show(upd H bv[j] _) a=_
   rw[zad (λz=>aK.1 (by rw[z];exact Qq hj))];exact r1
def pot_l(h:Pot H p b m)(R:NAt H l as rr):l≠p:=za3 R.ls h.1 (by
 intro z
 have z':as.map V.ref=[.int b,.int m]:=by injection z
 cases as with
 |nil=>cases z'
 |cons x t=>rw[Qk]at z';injection z' with z1 _;cases z1)
def zb4.mem(r:zb4 H as qs)(ha:a∈as):∃q∈qs,H a=some (.tup [iV q.1,iV q.2]):=by
 induction r with
 |nil=>cases ha
 | cons r t ih =>
  rcases Qh.mp ha with e | e
  ·exact⟨_,Qe,e▸r⟩
  ·obtain ⟨q,h1,h2⟩:=ih e
   exact⟨q,Qg _ h1,h2⟩
inductive IspTieD(vs:List V)(H:Hp)(Q:VK):Prop
 |mk (p l:Nc) (b m:Int) (as:Nk) (rr:List (List Nat)) (h0:vs=[.ref p,.ref l]) (h1:Pot H p b m) (h2:NAt H l as rr) (h3:Good (rsN rr)) (h4:0<rr.length) (h5:rr.length≤40) (bz:p∉as)
  (h6:∀(b' m':Int) (de:List (List Nat)) (H':Hp),de.length=rr.length→Good (rsN de)→Pot H' p b' m'→NAt H' l as de→Keep (p::as) H H'→Q .non H'):IspTieD vs H Q
def spTieD:Sp:=λvs H Q _=>IspTieD vs H Q
section
variable{P:Ni}{w:Nl}{K:Na}{mg:Nf}{base:Nm}
def scTie:zap [qP,qR, "_law_one", "_law_ahead", "_law_steps_here", "_law_first", "_law_p", "_law_q"] [qP,qR] (zag sTie):=fsk
def ok_tie(F:Fun K "_law_tie" "_law_tie" sTie f fd)(FT:Fun K qG qG zej ft fdt)(bT:Binds K fdt [qP,qM] [])(mT:mg qG=some (.ref ft))(GT:FnOk P w K mg base CX0 1 ft fdt [qP,qM] zfx)(FS:Fun K "_law_steps" "_law_steps" zhy fs fds)(bS:Binds K fds [qR, "_law_p", "_law_q"] [])(mS:mg "_law_steps" = some (.ref fs))(GS:FnOk P w K mg base CX0 2 fs fds [qR, "_law_p", "_law_q"] spSteps0)(ad:mg "len" = none):FnOk P w K mg base CX0 3 f fd [qP,qR] spTieD:=by
 refine F.okL scTie (λcdv A outer s H vs Q E hr h=>?_)
 obtain⟨p,l,b,m,as,rr,rfl,hp,R,hG,cu,aR,bz,k⟩:=h
 have hu:=zck hr
 have dJ:=Ky hu
 have aI:Room 1 _:=hr.mono (by decide)
 have aT  := sizeLine_eq
 refine⟨_,zae (zau 2 scTie.nd (zam GT aI rfl mT FT.kp bT .nil za0 (zaa (pv 0) (zaa (zaj zan (by rfl) ad Zz (zaa (pv 1) zaf)) zaf))))
  (zae (zcc (za5 (op_eq_nil dJ) (zbg zat (pv 1) (pv 2) (λ_ _=>rfl)) (zbj zaf) (zbt _)) (zah ps_retN) zba)
  (zae (zau 3 scTie.nd (zbg zat (zbg zat (pv 1) (pv 2) (λ_ _=>rfl)) (zam GT aI rfl mT FT.kp bT .nil za0 (zaa (pv 0) (zaa (zaj zan (by rfl) ad Zz (zaa (zbg zat (pv 1) (pv 2) (λ_ _=>rfl)) zaf)) zaf))) (λ_ _=>rfl)))
  (zae (zau 4 scTie.nd (zam GS hr rfl mS FS.kp bS .nil za0 (zaa (pv 1) (zaa (pv 3) (zaa (pv 2) zaf)))))
  (zae (zau 5 scTie.nd (zam GT aI rfl mT FT.kp bT .nil za0 (zaa (pv 0) (zaa (zaj zan (by rfl) ad Zz (zaa (pv 4) zaf)) zaf))))
  (zah (zbq Zq rfl (za7 (zav zek (zbu zcs (pv 4) (zb5 (pv 5)) zbz) (zbu zcs (pv 4) zbz (zb5 (pv 5))))) (zhd rfl (za1 (zbf 6 scTie.nd) (za1 (zbf 7 scTie.nd) zcv)))
   (zah (zcc (PW.pt (pw_and (za5 op_ne (pv 7) (pv 2) (zbt _)) (pw_and1 (za5 zff (pv 7) (zbg zat (pv 1) (pv 2) (fun _ _=>rfl)) rfl))))
    (zae (zay (zcj Qy Xe Xd zgi (zbg zat (pv 1) (pv 2) (λ_ _=>rfl)) (zaa (zav zb0 (zcj Qy Jc Jb zel (zbg zat (pv 1) (pv 2) (λ_ _=>rfl)) (zaa (pv 3) zaf)) zai) (zaa (pv 7) zaf))))
    (zae (zay (zcj Qy Xe Xd zgi (zbg zat (pv 1) (pv 7) (λ_ _=>rfl)) (zaa (zav zb0 (zcj Qy Jc Jb zel (zbg zat (pv 1) (pv 7) (λ_ _=>rfl)) (zaa (pv 6) zaf)) zai) (zaa (pv 2) zaf))))
    (zah ps_retN))) zba)))))))),?_⟩
 have iY:(rsN rr).length=rr.length:=by unfold rsN;rw[List.length_map,List.length_range]
 have cS:=R.len
 have nlp:=pot_l hp R
 have nap:∀a∈as,a≠p:=λa ha z=>bz (z▸ha)
 have gm:(as.map V.ref).length=rr.length:=by rw[Qa];exact cS
 refine⟨_,rfl,_,rfl,l,_,rfl,.inl (SqL.of R.ls),p,b,m,_,rfl,hp,by omega,by omega,λj1 b1 m1 H1 rG hj1 dO pI=>?_⟩
 have k1:Keep [p] H H1:=za8 pI
 have R1:NAt H1 l as rr:=R.keep k1 (by simpa using nlp) λa ha=>by simpa using nap a ha
 obtain⟨one,rfl⟩:=Zm rG
 have ho:one<rr.length:=by omega
 have aG:one<as.length:=by omega
 have a1:∀{c:Nat} (h:c<as.length),atI (as.map V.ref) (c:Int)=some (.ref as[c]):=λh=>zax (by rw[Qr,Qc h];rfl)
 refine⟨_,rfl,_,rfl,l,_,_,_,rfl,rfl,SqL.of R1.ls,a1 aG,(by show 0≤sizeLine;decide),λq hq=>?_⟩
 have k2:Keep [p] H (upd H1 q (.lst [])):=k1.trans (Keep.new hq)
 have aS:Pot (upd H1 q (.lst [])) p b1 m1:=dO.keep (xs:=[]) (Keep.new hq) (by simp)
 have R2:NAt (upd H1 q (.lst [])) l as rr:=R1.k0 (Keep.new hq)
 refine⟨as[one],q,_,rfl,rfl,SqL.of (R2.row aG ho),SqL.of zac,_,rfl,?_⟩
 generalize upd H1 q (.lst [])=H2 at k2 aS R2
 have aF:=R2.row aG ho
 have nn:∀(b' m':Int) (H':Hp),Pot H' p b' m'→Keep [p] H H'→Q .non H':=λb' m' H' bY k'=>k b' m' rr H' rfl hG bY (R.keep k' (by simpa using nlp) λa ha=>by simpa using nap a ha) (k'.sub (by simp))
 by_cases he:rr[one]=[]
 ·exact zb6 (by rw[he];rfl) (nn b1 m1 H2 aS k2)
 refine zbw (by cases z:rr[one] with | nil=>exact absurd z he | cons _ _=>rfl) ?_
 have cV:rr[one].length≤900:=by
  have:=zbm.rows hG _ (zg4 ho)
  rw[iY]at this
  exact Zi this (by omega)
 have hzp:0<rr[one].length:=Uf.mpr he
 have hml1:(rr[one].map iV).length=rr[one].length:=Qa ..
 refine⟨_,rfl,_,rfl,l,_,_,_,rfl,rfl,SqL.of R2.ls,a1 aG,_,rfl,_,rfl,_,rfl,l,_,_,_,rfl,rfl,SqL.of R2.ls,a1 aG,as[one],_,rfl,.inl (SqL.of aF),p,b1,m1,_,rfl,aS,by omega,by omega,λj2 b3 m3 H3 jj rF ba nU=>?_⟩
 obtain⟨jn,rfl⟩:=Zm jj
 have ox:jn<rr[one].length:=by omega
 have k3:Keep [p] H H3:=k2.trans (za8 nU)
 have R3:NAt H3 l as rr:=R.keep k3 (by simpa using nlp) λa ha=>by simpa using nap a ha
 refine⟨as[one],_,_,iV rr[one][jn],rfl,rfl,SqL.of (R3.row aG ho),zax (by rw[Qr,Qc ox];rfl),?_⟩
 have mZ:rr[one][jn]∈rr[one]:=Qq ox
 generalize rr[one][jn]=ah at mZ
 have az:IsSt (rsN rr) (ah,one):=(zda (nd_N rr)).mpr (by show ah∈row (rsN rr) one;rw[row_N ho];exact mZ)
 refine⟨_,rfl,_,rfl,_,rfl,l,as,rr,(ah,one),rfl,R3,az,hG,aR,λt ps n H4 ft ht pa nd hn k4=>?_⟩
 have di:Keep [p] H H4:=k3.trans (k4.sub (by simp))
 have bA:=ba.keep k4 (by simp)
 have cE:ps.length=n+1:=by
  have:=Zt pa
  unfold Wb.run at this
  rwa[Qa,Wh]at this
 have hml2:(ps.map V.ref).length=n+1:=by rw[Qa];exact cE
 have ntp:t≠p:=λz=>by rw[z,ba.1]at ft;cases ft
 refine⟨_,rfl,_,rfl,t,_,rfl,.inl (SqL.of ht),p,b3,m3,_,rfl,bA,by omega,by omega,λj5 b5 m5 H5 jh rC bf fG=>?_⟩
 obtain⟨jf,rfl⟩:=Zm jh
 have hjf:jf≤(ps.map V.ref).length:=by omega
 have k5:Keep [p] H H5:=di.trans (za8 fG)
 have qg:=fG _ _ ht ntp
 have fF:zb4 H5 ps (run (rsN rr) (ah,one) (n+1)):=zb4.keep pa λb' x' y' eb=>fG _ _ eb (za3 eb bA.1 (by intro z;cases z))
 refine⟨_,rfl,_,rfl,_,rfl,t,_,rfl,SqL.of qg,λs1 ck=>?_⟩
 rw[zdy hjf]
 have ht6:(upd H5 s1 (.lst ((ps.map V.ref).drop jf))) t=some (.lst (ps.map V.ref)):=by rw[zad (zab qg ck)];exact qg
 refine⟨_,rfl,_,rfl,_,rfl,t,_,rfl,SqL.of ht6,λs2 cj=>?_⟩
 rw[zhl hjf]
 have pq:s1≠s2:=zab (o:=_) zac cj
 refine⟨s1,s2,_,_,rfl,rfl,by rw[zad pq];exact zac,zac,by rw[Yj,Zc];omega,λs3 hs3=>?_⟩
 have k6:Keep [] H5 (upd (upd (upd H5 s1 (.lst ((ps.map V.ref).drop jf))) s2 (.lst ((ps.map V.ref).take jf))) s3 (.lst ((ps.map V.ref).drop jf++(ps.map V.ref).take jf))):=((Keep.new ck).trans (Keep.new cj)).trans (Keep.new hs3)
 have gd:(upd (upd (upd H5 s1 (.lst ((ps.map V.ref).drop jf))) s2 (.lst ((ps.map V.ref).take jf))) s3 (.lst ((ps.map V.ref).drop jf++(ps.map V.ref).take jf))) s3=some (.lst ((ps.map V.ref).drop jf++(ps.map V.ref).take jf)):=zac
 have hvs:∀v∈(ps.map V.ref).drop jf++(ps.map V.ref).take jf,∃a∈ps,v=.ref a:=λv hv=>by
  rcases Qf.mp hv with z | z
  ·obtain⟨a,ha,rfl⟩:=Ql.mp (Yy z);exact⟨a,ha,rfl⟩
  ·obtain⟨a,ha,rfl⟩:=Ql.mp (Yp z);exact⟨a,ha,rfl⟩
 generalize(ps.map V.ref).drop jf++(ps.map V.ref).take jf=vs at gd hvs k6
 generalize upd (upd (upd H5 s1 (.lst ((ps.map V.ref).drop jf))) s2 (.lst ((ps.map V.ref).take jf))) s3 (.lst vs)=H6 at k6 gd
 have kS:Keep [p] H H6:=k5.trans (k6.sub (by simp))
 have dN:=bf.keep k6 (by simp)
 have R6:NAt H6 l as rr:=R.keep kS (by simpa using nlp) λa ha=>by simpa using nap a ha
 have jP:zb4 H6 ps (run (rsN rr) (ah,one) (n+1)):=zb4.keep fF λb' x' y' eb=>k6 _ _ eb (by simp)
 have cn:=R6.row aG ho
 refine⟨s3,rfl,⟨_,SqL.of gd⟩,zbv (xs:=vs) (λi σ H'=>Aj2 (Ex2 λx6 x7=>σ=[some (.ref p),some (.ref l),some (iV one),some (iV ah),some (.ref t),some (iV jf),x6,x7]) (H'=H6)) ⟨⟨_,_,rfl⟩,rfl⟩ (λi σ H' _ hh=>hh.2▸SqL.of gd) ?_ ?_⟩
 ·rintro i v σ H' hv ⟨⟨x6,x7,rfl⟩,rfl⟩
  obtain⟨a,ha,rfl⟩:=hvs v (Yz hv)
  obtain⟨⟨x,y⟩,pQ,hta⟩:=jP.mem ha
  obtain⟨n',_,e'⟩:=Ql.mp pQ
  refine⟨a,_,rfl,SqT.of hta,rfl,_,_,rfl,_,_,rfl,rfl,?_⟩
  refine⟨_,rfl,_,rfl,rfl,_,rfl,?_⟩
  by_cases cD:y=one
  ·subst cD
   exact zbw (by simp) (iteF ⟨⟨_,_,rfl⟩,rfl⟩)
  refine zb6 (by simpa using λz=>cD (by omega)) ?_
  refine⟨_,rfl,_,rfl,_,rfl,l,_,_,_,rfl,rfl,SqL.of R6.ls,a1 aG,as[one],_,rfl,.inl (SqL.of cn),rfl,zer _,_,rfl,?_⟩
  rw[inV_nat]
  by_cases g6:y∈rr[one]
  ·exact zbw (by rw[decide_eq_true g6];rfl) ⟨⟨_,_,rfl⟩,rfl⟩
  refine zb6 (by rw[decide_eq_false g6];rfl) ?_
  obtain⟨i1,i2⟩:=zgr mZ
  have hi1:rr[one].idxOf ah<rr[one].length:=Ja.mpr mZ
  refine⟨_,rfl,_,rfl,l,_,_,_,rfl,rfl,SqL.of R6.ls,a1 aG,.inl ⟨rfl,_,SqL.of cn⟩,_,rfl,_,rfl,l,_,_,_,rfl,rfl,SqL.of R6.ls,a1 aG,.inl ⟨rfl,_,SqL.of cn⟩,_,rfl,as[one],_,_,_,rfl,rfl,cn,rfl,zer _,i1,i2,_,_,rfl,rfl,_,rfl,as[one],_,_,rr[one].idxOf ah+1,rfl,by rw[show((rr[one].idxOf ah+1:Nat):Int)=(rr[one].idxOf ah:Int)+1 by lia],cn,by rw[Qa];omega,by rw[Qa];omega,?_⟩
  have iF:IsSt (rsN rr) (x,y):=e'▸itr_st (zbm.clo _ hG) az n'
  have kY:=(zda (nd_N rr)).mp iF
  have hy:y<rr.length:=Jr λz=>by
   have g7:x∈row (rsN rr) y:=kY
   rw[row_No z]at g7;cases g7
  have bq:y<as.length:=by omega
  have kY:x∈rr[y]:=by
   have g7:x∈row (rsN rr) y:=kY
   rwa[row_N hy]at g7
  have hyl:rr[y].length≤900:=by
   have:=zbm.rows hG _ (zg4 hy)
   rw[iY]at this
   exact Zi this (by omega)
  have e1:(rr[one].map iV).take (rr[one].idxOf ah+1)++iV y::(rr[one].map iV).drop (rr[one].idxOf ah+1)=(ins rr[one] (some ah) y).map iV:=by
   rw[←Ul,←Jk,←Qk,←Qt];rfl
  rw[e1]
  have R7:=R6.set aG (ins rr[one] (some ah) y)
  have k7:Keep (p::as) H (upd H' as[one] (.lst ((ins rr[one] (some ah) y).map iV))):=(kS.sub (by simp)).trans (Keep.wr (Qg _ (Qq aG)))
  have cc:Pot (upd H' as[one] (.lst ((ins rr[one] (some ah) y).map iV))) p b5 m5:=dN.keep (xs:=[as[one]]) (Keep.wr (by simp)) (by simpa using Zn (nap _ (Qq aG)))
  generalize upd H' as[one] (.lst ((ins rr[one] (some ah) y).map iV))=H7 at R7 k7 cc
  have hy7:y<(rr.set one (ins rr[one] (some ah) y)).length:=by rw[Uw];exact hy
  have aU:=R7.row bq hy7
  rw[Kr (Zn cD)]at aU
  obtain⟨i3,i4⟩:=zgr kY
  have aw:rr[y].idxOf x<rr[y].length:=Ja.mpr kY
  refine⟨_,rfl,_,rfl,l,_,_,_,rfl,rfl,SqL.of R7.ls,a1 bq,.inl ⟨rfl,_,SqL.of aU⟩,_,rfl,_,rfl,l,_,_,_,rfl,rfl,SqL.of R7.ls,a1 bq,.inl ⟨rfl,_,SqL.of aU⟩,_,rfl,as[y],_,_,_,rfl,rfl,aU,rfl,zer _,i3,i4,_,_,rfl,rfl,_,rfl,as[y],_,_,rr[y].idxOf x+1,rfl,by rw[show((rr[y].idxOf x+1:Nat):Int)=(rr[y].idxOf x:Int)+1 by lia],aU,by rw[Qa];omega,by rw[Qa];omega,?_⟩
  have e2:(rr[y].map iV).take (rr[y].idxOf x+1)++iV one::(rr[y].map iV).drop (rr[y].idxOf x+1)=(ins rr[y] (some x) one).map iV:=by
   rw[←Ul,←Jk,←Qk,←Qt];rfl
  rw[e2]
  have hg:=zbm.tie (rsN rr) ah (one,rr[one]) n' hG (zg4 ho) mZ (by rw[e'];exact cD) (by rw[e'];exact g6)
  rw[e']at hg
  have hg:Good (zbh (zbh (rsN rr) one (ins rr[one] (some ah) y)) y (ins (row (rsN rr) y) (some x) one)):=hg
  rw[row_N hy,set_N,set_N]at hg
  exact k b5 m5 _ _ (by rw[Uw,Uw]) hg (cc.keep (xs:=[as[y]]) (Keep.wr (by simp)) (by simpa using Zn (nap _ (Qq bq)))) (R7.set bq _) (k7.trans (Keep.wr (Qg _ (Qq bq))))
 ·rintro σ H' ⟨⟨x6,x7,rfl⟩,rfl⟩
  exact nn b5 m5 H' dN kS
end
end K21
end
section
namespace Wb
def good_turn{α:Type}[DecidableEq α]{rs pd:Rs α}(h:Good rs)(hn:pd.map (·.1)=rs.map (·.1))(hr:∀x,∃k,row pd x=(row rs x).drop k++(row rs x).take k):Good pd:=by
 obtain⟨cs,aa,C⟩:=h
 exact⟨cs,aa,zgw C (by rw[hn]) hr⟩
def idx_at{zs:List Nat}(nd:zs.Nodup){i:Nat}(h:i<zs.length):zs.idxOf zs[i]=i :=
 (Wn (h₀:=Ja.mpr (Qq h)) (h₁:=h) nd).mp (Jf _)
def leaf_N{rr:List (List Nat)}(hG:Good (rsN rr)){o j:Nat}(ho:o < rr.length)(hj:j≤rr[o].length) :
  Good (rsN (((rr++[[]]).set rr.length [o]).set o (rr[o].take j++rr.length::rr[o].drop j))):=by
 have hx:rr.length∉(rsN rr).map (·.1):=by rw[zdl];exact λz=>Yr _ (Yq.mp z)
 have cF:rr.length≠o:=Wg ho
 have base:∀c,(∀y,c=some y→y∈rr[o])→(c=none→rr[o]=[])→Good (rsN (((rr++[[]]).set rr.length [o]).set o (ins rr[o] c rr.length))):=λc h1 h2=>by
  have:=zbm.leaf (rsN rr) rr.length (o,rr[o]) c hG hx (zg4 ho) h1 h2
  have this:Good (zbh (zbh (rsN rr++[(rr.length,[])]) o (ins rr[o] c rr.length)) rr.length [o]):=this
  rw[←snoc_N,set_N,set_N,List.set_comm _ _ (Zn cF)]at this
  exact this
 by_cases hz:rr[o]=[]
 ·have:=base none (fun y z=>by cases z) fun _=>hz
  have e:rr[o].take j++rr.length::rr[o].drop j=ins rr[o] none rr.length:=by
   rw[hz];simp[ins]
  rw[e];exact this
 ·have nd:rr[o].Nodup:=(zbm.sub _ hG _ (zg4 ho)).1
  cases j with
  | succ i =>
   have hi:i<rr[o].length:=hj
   have:=base (some rr[o][i]) (λy z=>by cases z;exact Qq hi) λz=>by cases z
   have e:ins rr[o] (some rr[o][i]) rr.length=rr[o].take (i+1)++rr.length::rr[o].drop (i+1):=by
    show rr[o].take (rr[o].idxOf rr[o][i]+1)++rr.length::rr[o].drop (rr[o].idxOf rr[o][i]+1)=_
    rw[idx_at nd hi]
   rw[e]at this;exact this
  | zero =>
   have hp:0<rr[o].length:=Uf.mpr hz
   have hi:rr[o].length-1<rr[o].length:=by omega
   have hg:=base (some rr[o][rr[o].length-1]) (λy z=>by cases z;exact Qq hi) λz=>by cases z
   have e:ins rr[o] (some rr[o][rr[o].length-1]) rr.length=rr[o]++[rr.length]:=by
    show rr[o].take (rr[o].idxOf rr[o][rr[o].length-1]+1)++rr.length::rr[o].drop (rr[o].idxOf rr[o][rr[o].length-1]+1)=_
    rw[idx_at nd hi,show rr[o].length-1+1=rr[o].length by omega,List.take_length,List.drop_length]
   rw[e]at hg
   refine good_turn hg (by rw[zdl,zdl];simp) λx=>?_
   have cG:(((rr++[[]]).set rr.length [o]).set o (rr[o]++[rr.length])).length=rr.length+1:=by simp
   have aJ:(((rr++[[]]).set rr.length [o]).set o (rr[o].take 0++rr.length::rr[o].drop 0)).length=rr.length+1:=by simp
   by_cases nZ:x<rr.length+1
   ·rw [row_N (by rw [aJ];exact nZ),row_N (by rw [cG];exact nZ)]
    by_cases pR:x=o
    ·subst pR
     rw[List.getElem_set_self,List.getElem_set_self]
     exact⟨rr[x].length,by rw[List.drop_left,List.take_left];rfl⟩
    ·rw [Kr (Zn pR),Kr (Zn pR)]
     exact⟨0,by simp⟩
   ·rw [row_No (by rw [aJ];exact nZ),row_No (by rw [cG];exact nZ)]
    exact⟨0,rfl⟩
def new_N{rr:List (List Nat)}(hG:Good (rsN rr)):Good (rsN (rr++[[]])):=by
 rw[snoc_N]
 exact zbm.new _ _ hG (by rw[zdl];exact λz=>Yr _ (Yq.mp z))
def nil_N:Good (rsN []):=zbm.nil
end Wb
namespace K21
open PySem L2 Wb
abbrev zhz:Stmt:=top 29
def NAt.snoc(R:NAt H l as rr)(he:H e=some (.lst []))(aW:e∉as)(iW:l≠e):NAt (upd H l (.lst (as.map V.ref++[.ref e]))) l (as++[e]) (rr++[[]]):=by
 refine⟨by rw[zac,Qt];rfl,?_,?_⟩
 ·have sJ:=R.apart
  have hr:=R.ro
  clear R
  induction hr with
  |nil=>exact .cons (by rw[zad (Zn iW)];exact he) .nil
  | cons r t ih =>
   rw[Qh,not_or]at sJ aW
   refine .cons (by rw[zad (Zn sJ.1)];exact r) ?_
   have key:∀{zs:List V} {xs:Nk} {ys:List (List Nat)},Paired (λa r=>H a=some (.lst (r.map iV))) xs ys→l∉xs→Paired (λa r=>(upd H l (.lst zs)) a=some (.lst (r.map iV))) (xs++[e]) (ys++[[]]):=by
    intro zs xs ys hp
    induction hp with
    |nil=>intro _;exact .cons (by rw[zad (Zn iW)];exact he) .nil
    |cons q t' ih' =>
     intro hn
     rw[Qh,not_or]at hn
     exact .cons (by rw[zad (Zn hn.1)];exact q) (ih' hn.2)
   exact key t sJ.2
 ·rw [Zj]
  exact⟨R.nd,Qz.mpr ⟨by simp,Yc⟩,λa ha b hb z=>aW (by rw[←Qb.mp hb,←z];exact ha)⟩
inductive zho(vs:List V)(H:Hp)(Q:VK):Prop
 |mk (p:Nc) (b m:Int) (n:Nat) (h0:vs=[.ref p,iV n]) (h1:Pot H p b m) (h2:n≤40)
  (h3:∀(l:Nc) (as:Nk) (rr:List (List Nat)) (b' m':Int) (H':Hp),NAt H' l as rr→Good (rsN rr)→rr.length≤40→Pot H' p b' m'→p∉as→H l=none→(∀a∈as,H a=none)→Keep [p] H H'→Q (.ref l) H'):zho vs H Q
def spRoundsD:Sp:=λvs H Q _=>zho vs H Q
section
variable{P:Ni}{w:Nl}{K:Na}{mg:Nf}{base:Nm}
def zeg:zap [qP, "_law_most",qR, "_law_k",qO] [qP, "_law_most"] (zag zhz):=fsk
def ok_rounds(F:Fun K "_law_rounds" "_law_rounds" zhz f fd)(FT:Fun K qG qG zej ft fdt)(bT:Binds K fdt [qP,qM] [])(mT:mg qG=some (.ref ft))(GT:FnOk P w K mg base CX0 1 ft fdt [qP,qM] zfx)(FI:Fun K "_law_tie" "_law_tie" sTie fi fdi)(bI:Binds K fdi [qP,qR] [])(mI:mg "_law_tie" = some (.ref fi))(GI:FnOk P w K mg base CX0 3 fi fdi [qP,qR] spTieD)(ad:mg "len" = none)(bj:mg "range" = none):FnOk P w K mg base CX0 4 f fd [qP, "_law_most"] spRoundsD:=by
 refine F.okL zeg (λcdv A outer s H vs Q E hr h=>?_)
 obtain⟨p,b,m,n,rfl,hp,hn,k⟩:=h
 have hu:=zck hr
 have aI:Room 1 _:=hr.mono (by decide)
 have aT  := sizeLine_eq
 refine⟨_,zae (zau 2 zeg.nd (zbj zaf))
  (zae (zbq Zq rfl (zci rfl bj (zaa (zam GT aI rfl mT FT.kp bT .nil za0 (zaa (pv 0) (zaa (zav zb0 (pv 1) zai) zaf))) zaf)) (zbf 3 zeg.nd)
   (zae (zay (zcj Qy Yb Ya zbc (pv 2) (zaa (zbj zaf) zaf)))
   (zah (zcc (PW.pt (pw_and (za5 op_gt (pv 3) zai (zbt _)) (pw_and1 (za5 op_gt (zam GT aI rfl mT FT.kp bT .nil za0 (zaa (pv 0) (zaa zai zaf))) zai (zbt _)))))
    (zae (zau 4 zeg.nd (zam GT aI rfl mT FT.kp bT .nil za0 (zaa (pv 0) (zaa (pv 3) zaf))))
    (zae (zay (zcj Qy Yb Ya zbc (zbg zat (pv 2) (pv 3) (λ_ _=>rfl)) (zaa (pv 4) zaf)))
    (zah (zay (zcj Qy Xe Xd zgi (zbg zat (pv 2) (pv 4) (λ_ _=>rfl)) (zaa (zam GT aI rfl mT FT.kp bT .nil za0 (zaa (pv 0) (zaa (zav zb0 (zaj zan (by rfl) ad Zz (zaa (zbg zat (pv 2) (pv 4) (λ_ _=>rfl)) zaf)) zai) zaf))) (zaa (pv 3) zaf))))))) zba))))
  (zae (zbq Zq rfl (zci rfl bj (zaa (zam GT aI rfl mT FT.kp bT .nil za0 (zaa (pv 0) (zaa (zbg zat (zbj (zaa zai (zaa (zav zb0 (zaj zan (by rfl) ad Zz (zaa (pv 2) zaf)) zai) (zaa (zav zb0 (zav zga zai (zaj zan (by rfl) ad Zz (zaa (pv 2) zaf))) zai) zaf))))
     (zam GT aI rfl mT FT.kp bT .nil za0 (zaa (pv 0) (zaa zai zaf))) (λ_ _=>rfl)) zaf))) zaf)) (zbf 3 zeg.nd)
   (zah (zay (zam GI hr rfl mI FI.kp bI .nil za0 (zaa (pv 0) (zaa (pv 2) zaf))))))
  (zah (zbe (pv 2))))),?_⟩
 refine⟨(by show 0≤sizeLine;decide),λl hl=>?_⟩
 have k1:Keep [p] H (upd H l (.lst [])):=Keep.new hl
 have dO:Pot (upd H l (.lst [])) p b m:=hp.keep (xs:=[]) (Keep.new hl) (by simp)
 have nlp:l≠p:=Zn (zab hp.1 hl)
 have R1:NAt (upd H l (.lst [])) l [] []:=⟨zac,.nil,Yc⟩
 generalize upd H l (.lst [])=H1 at k1 dO R1
 refine⟨_,rfl,_,rfl,_,_,rfl,rfl,p,b,m,_,rfl,dO,by omega,by omega,λj2 b2 m2 H2 jj rF aS kR=>?_⟩
 have k2:Keep [p] H H2:=k1.trans (za8 kR)
 have R2:NAt H2 l [] []:=R1.keep (za8 kR) (by simpa using nlp) λa ha=>by cases ha
 obtain⟨many,rfl⟩:=Zm jj
 have hmany:many≤40:=by omega
 refine⟨_,rfl,by omega,by omega,?_⟩
 refine zcl (lo:=0) (λi σ H'=>Aj3 (Ex2 λx3 x4=>σ=[some (.ref p),some (iV n),some (.ref l),x3,x4]) (Keep [p] H H') (Ex4 λ(as:Nk) (rr:List (List Nat)) (b' m':Int)=>Aj6 (NAt H' l as rr) (Good (rsN rr)) (rr.length=i) (Pot H' p b' m') (p∉as) (∀a∈as,H a=none)))
  ⟨⟨_,_,rfl⟩,k2,[],[],b2,m2,R2,nil_N,rfl,aS,by simp,λa ha=>by cases ha⟩ ?_ ?_
 ·rintro i σ H3 hi ⟨⟨x3,x4,rfl⟩,k3,as,rr,b3,m3,R3,ng,aR,ba,bz,cR⟩
  have hi40:rr.length<40:=by omega
  refine⟨_,rfl,.inl ⟨rfl,_,SqL.of R3.ls⟩,(by show 0≤sizeLine;decide),λe he=>?_⟩
  have R4:NAt (upd H3 e (.lst [])) l as rr:=R3.k0 (Keep.new he)
  have he4:(upd H3 e (.lst [])) e=some (.lst []):=zac
  have iW:l≠e:=zab R3.ls he
  have aW:e∉as:=λz=>by
   obtain⟨r,hr⟩:=R3.mem z
   rw[he]at hr;cases hr
  have nep:e≠p:=Zn (zab ba.1 he)
  have feH:H e=none:=zas k3 he (by simpa using nep)
  have gm:(as.map V.ref).length=rr.length:=by rw[Qa];exact R3.len
  refine⟨l,_,_,rfl,rfl,R4.ls,by omega,?_⟩
  have R5:=R4.snoc he4 aW iW
  have k5:Keep [p] H (upd (upd H3 e (.lst [])) l (.lst (as.map V.ref++[.ref e]))):=λc u ec hc=>by
   have h1:=k3 c u ec hc
   rw[zad (λz=>by rw[z,hl]at ec;cases ec),zad (zab h1 he)];exact h1
  have bf:Pot (upd (upd H3 e (.lst [])) l (.lst (as.map V.ref++[.ref e]))) p b3 m3:=(ba.keep (xs:=[]) (Keep.new he) (by simp)).keep (xs:=[l]) (Keep.wr (by simp)) (by simpa using Zn nlp)
  generalize upd (upd H3 e (.lst [])) l (.lst (as.map V.ref++[.ref e]))=H5 at R5 k5 bf
  have cv:p∉as++[e]:=λz=>by
   rcases Qf.mp z with y | y
   ·exact bz y
   ·exact nep (Qb.mp y).symm
  have gu:∀a∈as++[e],H a=none:=λa ha=>by
   rcases Qf.mp ha with y | y
   ·exact cR a y
   ·rw[Qb.mp y];exact feH
  have dw:(rr++[[]]).length=i+1:=by rw[Qm,aR];rfl
  have stop:∀(x3 x4:Option V) (b' m':Int) (H':Hp),Pot H' p b' m'→NAt H' l (as++[e]) (rr++[[]])→Keep [p] H H'→Aj3 (Ex2 λy3 y4=>[some (V.ref p),some (iV n),some (.ref l),x3,x4]=[some (V.ref p),some (iV n),some (.ref l),y3,y4]) (Keep [p] H H') (Ex4 λ(as:Nk) (rr:List (List Nat)) (b' m':Int)=>Aj6 (NAt H' l as rr) (Good (rsN rr)) (rr.length=i+1) (Pot H' p b' m') (p∉as) (∀a∈as,H a=none)):=λx3 x4 b' m' H' bY R' k' =>
   ⟨⟨_,_,rfl⟩,k',_,_,b',m',R',new_N ng,dw,bY,cv,gu⟩
  refine⟨_,rfl,_,_,rfl,rfl,_,rfl,?_⟩
  by_cases hi0:i=0
  ·exact zbw (decide_eq_false (by omega)) (iteF (stop _ _ b3 m3 H5 bf R5 k5))
  refine zb6 (decide_eq_true (by omega)) ?_
  refine⟨_,rfl,p,b3,m3,6,rfl,bf,by decide,by decide,λj6 b6 m6 H6 _ _ dN nQ=>⟨_,_,rfl,rfl,_,rfl,?_⟩⟩
  have k6:Keep [p] H H6:=k5.trans (za8 nQ)
  have df:∀a∈as++[e],a≠p:=λa ha z=>cv (z▸ha)
  have R6:NAt H6 l (as++[e]) (rr++[[]]):=R5.keep (za8 nQ) (by simpa using nlp) λa ha=>by simpa using df a ha
  cases decide (j6>0) with
  |false=>exact iteF (stop _ _ b6 m6 H6 dN R6 k6)
  | true =>
   refine iteT ?_
   refine⟨_,rfl,_,rfl,p,b6,m6,_,rfl,dN,by omega,by omega,λj7 b7 m7 H7 rA hj71 cc nO=>?_⟩
   obtain⟨ot,rfl⟩:=Zm rA
   have qH:ot<rr.length:=by omega
   have k7:Keep [p] H H7:=k6.trans (za8 nO)
   have R7:NAt H7 l (as++[e]) (rr++[[]]):=R6.keep (za8 nO) (by simpa using nlp) λa ha=>by simpa using df a ha
   have cS:as.length=rr.length:=R3.len
   have lW:rr.length<(as++[e]).length:=by rw[Qm,cS];exact Yv _
   have hkR:rr.length<(rr++[[]]).length:=by rw[Qm];exact Yv _
   have a1:∀{c:Nat} (h:c<(as++[e]).length),atI ((as++[e]).map V.ref) (c:Int)=some (.ref (as++[e])[c]):=λh=>zax (by rw[Qr,Qc h];rfl)
   have ei:(0:Int)+(i:Int)=((rr.length:Nat):Int):=by omega
   have aU:=R7.row lW hkR
   have e0:(rr++[[]])[rr.length]'hkR=[]:=by simp
   rw[e0]at aU
   refine⟨_,rfl,_,rfl,l,_,_,.ref (as++[e])[rr.length],rfl,rfl,SqL.of R7.ls,(by rw[ei];exact a1 lW),.inl ⟨rfl,_,SqL.of aU⟩,_,rfl,_,_,_,rfl,rfl,aU,by decide,?_⟩
   have k8:Keep [p] H (upd H7 (as++[e])[rr.length] (.lst ([ot].map iV))):=λc u ec hc=>by
    rw[zad (λz=>by rw[z,gu _ (Qq lW)]at ec;cases ec)];exact k7 c u ec hc
   have R8:=R7.set lW [ot]
   have oh:Pot (upd H7 (as++[e])[rr.length] (.lst ([ot].map iV))) p b7 m7:=cc.keep (xs:=[(as++[e])[rr.length]]) (Keep.wr (by simp)) (by simpa using Zn (df _ (Qq lW)))
   rw[show List.map iV ([]:List Nat)++[V.int (ot:Int)]=[ot].map iV from rfl]
   generalize upd H7 (as++[e])[rr.length] (.lst ([ot].map iV))=H8 at k8 R8 oh
   have cL:ot<(as++[e]).length:=by omega
   have lH:ot<((rr++[[]]).set rr.length [ot]).length:=by rw[Uw];omega
   have cX:=R8.row cL lH
   have e8:((rr++[[]]).set rr.length [ot])[ot]'(lH)=rr[ot]:=by
    rw[Kr (by omega),List.getElem_append_left qH]
   rw[e8]at cX
   have qJ:rr[ot].length≤900:=by
    have:=zbm.rows ng _ (zg4 qH)
    rw[show(rsN rr).length=rr.length by unfold rsN;rw[List.length_map,List.length_range]]at this
    exact Zi this (by omega)
   have hml8:(rr[ot].map iV).length=rr[ot].length:=Qa ..
   refine⟨_,rfl,_,rfl,l,_,_,_,rfl,rfl,SqL.of R8.ls,a1 cL,.inl ⟨rfl,_,SqL.of cX⟩,_,rfl,_,rfl,_,rfl,l,_,_,_,rfl,rfl,SqL.of R8.ls,a1 cL,_,_,rfl,.inl (SqL.of cX),_,_,rfl,rfl,p,b7,m7,_,rfl,oh,by omega,by omega,λj9 b9 m9 H9 rq hj91 hp9 pH=>?_⟩
   obtain⟨jn,rfl⟩:=Zm rq
   have ox:jn≤rr[ot].length:=by omega
   have ly:=pH _ _ cX (df _ (Qq cL))
   refine⟨_,rfl,_,_,_,jn,rfl,rfl,ly,by omega,by omega,?_⟩
   have R9:NAt H9 l (as++[e]) ((rr++[[]]).set rr.length [ot]):=R8.keep (za8 pH) (by simpa using nlp) λa ha=>by simpa using df a ha
   have e9:(rr[ot].map iV).take jn++V.int (0+(i:Int))::(rr[ot].map iV).drop jn=(rr[ot].take jn++rr.length::rr[ot].drop jn).map iV:=by
    rw[ei,Qt,Qk,Ul,Jk]
   rw[e9]
   refine⟨⟨_,_,rfl⟩,λc u ec hc=>?_,as++[e],_,b9,m9,R9.set cL _,leaf_N ng qH ox,by rw[Uw,Uw];exact dw,hp9.keep (xs:=[(as++[e])[ot]]) (Keep.wr (by simp)) (by simpa using Zn (df _ (Qq cL))),cv,gu⟩
   rw[zad (λz=>by rw[z,gu _ (Qq cL)]at ec;cases ec)]
   exact(k8.trans (za8 pH)) c u ec hc
 ·rintro σ H3 ⟨⟨x3,x4,rfl⟩,k3,as,rr,b3,m3,R3,ng,aR,ba,bz,cR⟩
  have gm:(as.map V.ref).length=rr.length:=by rw[Qa];exact R3.len
  refine⟨_,rfl,_,rfl,l,_,rfl,.inl (SqL.of R3.ls),_,_,rfl,rfl,_,rfl,l,_,rfl,.inl (SqL.of R3.ls),_,_,rfl,rfl,.inl ⟨by decide,by decide⟩,_,_,rfl,rfl,(by show 3≤sizeLine;decide),λq hq=>?_⟩
  have k4:Keep [] H3 (upd H3 q (.lst [.int 1,.int (((as.map V.ref).length:Int)+1),.int (3*((as.map V.ref).length:Int)+1)])):=Keep.new hq
  have o8:(upd H3 q (.lst [.int 1,.int (((as.map V.ref).length:Int)+1),.int (3*((as.map V.ref).length:Int)+1)])) q=some (.lst [.int 1,.int (((as.map V.ref).length:Int)+1),.int (3*((as.map V.ref).length:Int)+1)]):=zac
  have nqp:q≠p:=Zn (zab ba.1 hq)
  generalize upd H3 q (.lst [.int 1,.int (((as.map V.ref).length:Int)+1),.int (3*((as.map V.ref).length:Int)+1)])=H4 at k4 o8
  have bA:=ba.keep k4 (by simp)
  refine⟨_,rfl,p,b3,m3,3,rfl,bA,by decide,by decide,λj5 b5 m5 H5 jh rC bf fG=>?_⟩
  have fO:=fG _ _ o8 nqp
  obtain⟨v,hv,hv1,hv2,hv3⟩:∃v:Int,atI [V.int 1,V.int (((as.map V.ref).length:Int)+1),V.int (3*((as.map V.ref).length:Int)+1)] j5=some (.int v)∧0<v∧v≤121∧(rr.length=0→v=1):=by
   obtain⟨jn,rfl⟩:=Zm jh
   have:jn=0∨jn=1∨jn=2:=by omega
   rcases this with rfl | rfl | rfl
   ·exact⟨_,zax rfl,by decide,by decide,λ_=>rfl⟩
   ·exact⟨_,zax rfl,by omega,by omega,λz=>by omega⟩
   ·exact⟨_,zax rfl,by omega,by omega,λz=>by omega⟩
  refine⟨q,_,_,.int v,rfl,rfl,SqL.of fO,hv,p,b5,m5,v,rfl,bf,hv1,by omega,λj6 b6 m6 H6 rB hj61 dN nQ=>?_⟩
  have k6:Keep [p] H3 H6:=(k4.sub (by simp)).trans ((za8 fG).trans (za8 nQ))
  have nap:∀a∈as,a≠p:=λa ha z=>bz (z▸ha)
  have R6:NAt H6 l as rr:=R3.keep k6 (by simpa using nlp) λa ha=>by simpa using nap a ha
  obtain⟨jn,rfl⟩:=Zm rB
  refine⟨_,rfl,by omega,by omega,?_⟩
  refine zcl (lo:=0) (λi σ H'=>Aj3 (Ex2 λx3 x4=>σ=[some (.ref p),some (iV n),some (.ref l),x3,x4]) (Keep [p] H H') (Ex3 λ(de:List (List Nat)) (b' m':Int)=>Aj4 (NAt H' l as de) (Good (rsN de)) (de.length=rr.length) (Pot H' p b' m')))
   ⟨⟨_,_,rfl⟩,k3.trans k6,rr,b6,m6,R6,ng,rfl,dN⟩ ?_ ?_
  ·rintro i σ H7 hi ⟨⟨y3,y4,rfl⟩,k7,de,b7,m7,R7,sR,d7,cc⟩
   refine⟨_,rfl,_,rfl,p,l,b7,m7,as,de,rfl,cc,R7,sR,by omega,by omega,bz,λb8 m8 rr8 H8 hl8 hG8 oh R8 k8=>?_⟩
   refine⟨⟨_,_,rfl⟩,λc u ec hc=>k8 c u (k7 c u ec hc) λz=>?_,rr8,b8,m8,R8,hG8,hl8.trans d7,oh⟩
   rcases Qh.mp z with y | y
   ·exact hc (by rw[y];exact Qb.mpr rfl)
   ·rw[cR c y]at ec;cases ec
  ·rintro σ H7 ⟨⟨y3,y4,rfl⟩,k7,de,b7,m7,R7,sR,d7,cc⟩
   exact⟨_,rfl,k l as de b7 m7 H7 R7 sR (by omega) cc bz hl cR k7⟩
end
end K21
end
section
namespace L2
open PySem PySem.Spec PyProof.Rows
theorem picks_to(cs:List Nat):∀b:Nat,b≤cs.length→(List.range b).filterMap (cs[·]?)=cs.take b
 |0,_=>by simp
 |b+1,h=>by
  rw[Xt,List.filterMap_append,picks_to cs b (by omega),Qo (by omega)]
  simp[Qc (show b<cs.length by omega)]
def indices_to{b n:Nat}(h:b≤n):PySem.Builtin.Str.strSliceIndices none (some (b:Int)) 1 n=List.range b:=by
 have:=PySem.StrLaws.strSliceIndices_plain (a:=0) (b:=b) (len:=n) (Zh _) h
 have e:PySem.Builtin.Str.strSliceIndices none (some (b:Int)) 1 n=PySem.Builtin.Str.strSliceIndices (some ((0:Nat):Int)) (some (b:Int)) 1 n:=by
  unfold PySem.Builtin.Str.strSliceIndices
  simp
  rw[show max (0:Int) (min 0 (n:Int))=0 by omega]
 rw[e,this]
 simp
section
variable{X:Cx}
def sl_strP:SlR X (λx lo hi H Q=>Ex2 λ(z:Str) (j:Nat)=>Aj6 (x=.str z) (lo=none) (hi=some (j:Int)) (j≤z.length) (z.length≤sizeLine) (∀y:Str,y.cps.toList=z.cps.toList.take j→Q (.str y) H)):=by
 intro a7 s σ H x v vl vu lo hi sl Q I rx hs pl pu h
 obtain⟨z,j,rfl,rfl,rfl,hj,hz,q⟩:=h
 obtain⟨t,rfl⟩:=rx
 cases pl
 cases pu
 rename_i tj
 have hi:=indices_to hj
 have ad:z.cps.toList.length=z.length:=by simp[Str.length]
 refine⟨"str",_,PySem.F.slot_str_getitem.lookup,typeIs_str s z t,wpAny_getItem_str_slice (l:=none) (u:=some ((j:Int),tj)) (st:=none) hs rfl ?_⟩
 have e1:slicePicked z none (some ((j:Int),tj)) none=List.range j:=hi
 unfold sliceMade
 rw[e1]
 split
 ·rename_i hc
  have bZ:j=z.length:=by simpa using hc
  exact⟨.str z,H,I,⟨t,rfl⟩,q z (by rw[bZ,←ad,List.take_length])⟩
 ·refine ⟨?_,⟨.str _,H,I.tok _,⟨_,rfl⟩,q _ ?_⟩⟩
  ·show ((List.range j).filterMap (z.cps[·]?)).toArray.size≤sizeLine
   rw[Qn]
   exact Zi (List.length_filterMap_le ..) (by rw[Wh];exact Zi hj hz)
  ·show ((List.range j).filterMap (z.cps[·]?)).toArray.toList=_
   rw[List.toList_toArray]
   have:=picks_to z.cps.toList j (by rw[ad];exact hj)
   rw[←this]
   simp
end
end L2
end
section
namespace K21
open PySem L2 Wb
abbrev sCount:Stmt:=top 24
abbrev sNames:Stmt:=top 25
def cntF(ls:List Nat):Nat→Nat→List Nat
 |0,_=>[]
 |f+1,n=>if n=0 then[] else cntF ls f ((n-1)/ls.length)++[ls.getD ((n-1)%ls.length) 0]
theorem cntF_zero(ls:List Nat):∀f,cntF ls f 0=[]
 |0=>rfl
 |_+1=>rfl
inductive IspCount(vs:List V)(H:Hp)(Q:VK):Prop
 |mk (n:Nat) (ls:Str) (h0:vs=[iV n,.str ls]) (h1:n≤1000) (h2:2≤ls.length) (h3:ls.length≤1000) (h4:∀z:Str,z.cps.toList=cntF ls.cps.toList n n→Q (.str z) H):IspCount vs H Q
def spCount:Sp:=λvs H Q _=>IspCount vs H Q
def str_len(z:Str):z.cps.toList.length=z.length:=by simp[Str.length]
def zih(a b:Str):(a++b).cps.toList=a.cps.toList++b.cps.toList:=by
 show(a.cps++b.cps).toList=_
 simp
def app_len(a b:Str):(a++b).length=a.length+b.length:=by
 rw[←str_len,←str_len,←str_len,zih,Qm]
section
variable{P:Ni}{w:Nl}{K:Na}{mg:Nf}{base:Nm}
def zhx:zap ["_law_number", "_law_letters", "_law_name"] ["_law_number", "_law_letters"] (zag sCount):=fsk
def ok_count(F:Fun K "_law_counted" "_law_counted" sCount f fd)(ad:mg "len" = none):FnOk P w K mg base CX0 1 f fd ["_law_number", "_law_letters"] spCount:=by
 refine F.okL zhx (λcdv A outer s H vs Q E hr h=>?_)
 obtain⟨n,ls,rfl,hn,aJ,gO,k⟩:=h
 have aT:=sizeLine_eq
 refine⟨_,zae (zau 2 zhx.nd zdd)
  (zae (zfs Zq (za5 op_gt (pv 0) zai (zbt _))
   (zae (zau 2 zhx.nd (zav ze1 (zbg ix_str (pv 1) (zav zcq (zav op_sub (pv 0) zai) (zaj zcb (by rfl) ad Zz (zaa (pv 1) zaf))) (λ_ _=>rfl)) (pv 2)))
   (zah (zau 0 zhx.nd (zav zgc (zav op_sub (pv 0) zai) (zaj zcb (by rfl) ad Zz (zaa (pv 1) zaf)))))))
  (zah (zbe (pv 2)))),?_⟩
 have oq:=str_len ls
 refine⟨λm σ H'=>Ex3 λ(c f:Nat) (z:Str)=>Aj6 (m=c) (σ=[some (iV c),some (.str ls),some (.str z)]) (H'=H) (c≤f) (cntF ls.cps.toList f c++z.cps.toList=cntF ls.cps.toList n n) (z.length+c≤n),
  ⟨n,n,n, "",rfl,rfl,rfl,Qd _,by simp;rfl,by show 0+n≤n;omega⟩,?_⟩
 rintro m σ H' ⟨c,f,z,rfl,rfl,rfl,hcf,he,cV⟩
 refine⟨_,rfl,_,_,rfl,rfl,_,rfl,?_⟩
 by_cases h0:m=0
 ·subst h0
  refine zbw (decide_eq_false (by omega)) ?_
  rw[cntF_zero]at he
  exact⟨_,rfl,k z he⟩
 ·refine zb6 (decide_eq_true (by omega)) ?_
  cases f with
  |zero=>omega
  | succ f =>
   have e1:(m:Int)-1=((m-1:Nat):Int):=by omega
   have qY:(m-1)%ls.length<ls.length:=Uq _ (by omega)
   have fS:atI ls.cps.toList (((m:Int)-1)%(ls.length:Int))=some (ls.cps.toList.getD ((m-1)%ls.length) 0):=by
    rw[e1,←Int.natCast_emod]
    refine zax ?_
    rw[Qx,Qc (by rw[oq];exact qY)];rfl
   refine⟨_,λ σ' H' z=>z,?_⟩
   refine⟨_,rfl,_,rfl,_,_,rfl,rfl,_,rfl,_,rfl,by omega,_,_,rfl,rfl,by show(0:Int)<(ls.length:Int);omega,_,_,_,rfl,rfl,by omega,fS,_,rfl,_,_,rfl,rfl,by show 1+z.length≤sizeLine;omega,?_⟩
   refine⟨_,rfl,_,_,rfl,rfl,_,rfl,_,rfl,by omega,_,_,rfl,rfl,⟨by omega,by omega⟩,?_⟩
   have e2:((m:Int)-1)/(ls.length:Int)=(((m-1)/ls.length:Nat):Int):=by rw[e1];exact(Int.natCast_ediv ..).symm
   have iW:(m-1)/ls.length≤m-1:=Nat.div_le_self _ _
   rw[e2]
   refine⟨(m-1)/ls.length,by omega,(m-1)/ls.length,f,_,rfl,rfl,rfl,by omega,?_,?_⟩
   ·rw [← he,zih]
    show cntF _ f _++([_]++_)=(if m=0 then[] else cntF ls.cps.toList f ((m-1)/ls.cps.toList.length)++[ls.cps.toList.getD ((m-1)%ls.cps.toList.length) 0])++_
    rw[if_neg h0,oq,Qp]
   ·rw [app_len]
    show 1+z.length+(m-1)/ls.length≤n
    omega
def zcr(j:Nat):Str:=[("ab" : Str), "za", "xyz", "qn"].getD j "ab"
def nmF(way many first nE:Nat)(tl:List Nat)(k:Nat):List Nat :=
 if way=0∧many≤26 then[97+(first+nE*k)%676%26]
 else if way=1 then cntF (zcr (tl.length%4)).cps.toList (1+(first+nE*k)%97) (1+(first+nE*k)%97)
 else[97+(first+nE*k)%676/26,97+(first+nE*k)%676%26]++tl.take ((first+k)%(tl.length+1))
def cnt_nd:∀j<4,((List.range 97).map λi=>cntF (zcr j).cps.toList (1+i) (1+i)).Nodup:=by decide +kernel
def cnt_ok:∀j<4,∀i<97,1≤(cntF (zcr j).cps.toList (1+i) (1+i)).length∧(cntF (zcr j).cps.toList (1+i) (1+i)).length≤8∧∀c∈cntF (zcr j).cps.toList (1+i) (1+i),97≤c∧c≤122:=by decide +kernel
def cnt_inj{j a b:Nat}(hj:j<4)(ha:a<97)(hb:b<97)(h:cntF (zcr j).cps.toList (1+a) (1+a)=cntF (zcr j).cps.toList (1+b) (1+b)):a=b:=by
 refine(Wn (h₀:=by rw[Qa,Wh];exact ha) (h₁:=by rw[Qa,Wh];exact hb) (cnt_nd j hj)).mp ?_
 rw[Yd,Yd,Jx,Jx]
 exact h
def byS:List Nat:=[1,3,5,7,9,25,27,675]
def by_inj{b f a c:Nat}(hb:b∈byS)(ha:a<40)(hc:c<40)(h:(f+b*a)%676=(f+b*c)%676):a=c:=by
 simp[byS]at hb
 rcases hb with rfl | rfl | rfl | rfl | rfl | rfl | rfl | rfl<;>omega
def by_inj97{b f a c:Nat}(hb:b∈byS)(ha:a<40)(hc:c<40)(h:(f+b*a)%97=(f+b*c)%97):a=c:=by
 simp[byS]at hb
 rcases hb with rfl | rfl | rfl | rfl | rfl | rfl | rfl | rfl<;>omega
def by_inj26{b f a c:Nat}(hb:b∈byS)(ha:a<26)(hc:c<26)(h:(f+b*a)%676%26=(f+b*c)%676%26):a=c:=by
 simp[byS]at hb
 rcases hb with rfl | rfl | rfl | rfl | rfl | rfl | rfl | rfl<;>omega
def nm_inj{way many f b a c:Nat}{tl:List Nat}(hb:b∈byS)(hm:many≤40)(ha:a<many)(hc:c<many)(h:nmF way many f b tl a=nmF way many f b tl c):a=c:=by
 unfold nmF at h
 split at h
 ·rename_i z
  have h:97+(f+b*a)%676%26=97+(f+b*c)%676%26:=by injection h
  exact by_inj26 (f:=f) hb (by omega) (by omega) (by omega)
 ·split at h
  ·exact by_inj97 hb (by omega) (by omega) (cnt_inj (Uq _ (by decide)) (Uq _ (by decide)) (Uq _ (by decide)) h)
  ·rw [Yw,Yw,Yw,Yw] at h
   injection h with h1 h2
   injection h2 with h2 _
   exact by_inj (f:=f) hb (by omega) (by omega) (by omega)
def nm_ok{way many f b k:Nat}{tl:List Nat}(ht:tl.length≤6)(hc:∀c∈tl,97≤c∧c≤122):1≤(nmF way many f b tl k).length∧(nmF way many f b tl k).length≤8∧∀c∈nmF way many f b tl k,97≤c∧c≤122:=by
 unfold nmF
 split
 ·refine ⟨Qd _,by show 1≤8;decide,fun c h=>?_⟩
  rw[Qb.mp h];omega
 ·split
  ·exact cnt_ok _ (Uq _ (by decide)) _ (Uq _ (by decide))
  ·refine ⟨by simp,by simp [Zc];omega,fun c h=>?_⟩
   rw[Yw,Yw,Wq,Qh,Qh]at h
   rcases h with h | h | h
   ·omega
   ·omega
   ·exact hc c (Yp h)
def cnt_not:∀j<4,∀i<97,cntF (zcr j).cps.toList (1+i) (1+i)≠("nobody" : Str).cps.toList:=by decide +kernel
def nm_not{way many f b k:Nat}{tl:List Nat}(ht:∀ c t,tl=c::t→c=110):nmF way many f b tl k≠("nobody" : Str).cps.toList:=by
 have e:("nobody" : Str).cps.toList=[110,111,98,111,100,121]:=rfl
 unfold nmF
 split
 ·rw[e];simp
 ·split
  ·exact cnt_not _ (Uq _ (by decide)) _ (Uq _ (by decide))
  ·rw [e]
   intro h
   rw[Yw,Yw,Wq]at h
   injection h with _ h
   injection h with _ h
   cases tl with
   |nil=>simp at h
   | cons c t =>
    have:=ht c t rfl
    cases hk:(f+k)%((c::t).length+1) with
    |zero=>rw[hk]at h;simp at h
    |succ n =>
     rw[hk,List.take_succ_cons]at h
     injection h with h _
     omega
inductive IspNames(vs:List V)(H:Hp)(Q:VK):Prop
 |mk (p:Nc) (b m:Int) (n:Nat) (h0:vs=[.ref p,iV n]) (h1:Pot H p b m) (h2:n≤40) (h3:∀(l:Nc) (zs:Nj) (b' m':Int) (H':Hp),H' l=some (.lst (zs.map V.str))→zs.length=n→zs.Nodup→(∀z∈zs,zc3 z∧z ≠ "nobody")→Pot H' p b' m'→H l=none→Keep [p] H H'→Q (.ref l) H'):IspNames vs H Q
def spNames:Sp:=λvs H Q _=>IspNames vs H Q
def zct:zap [qP,qM, "_law_letters", "_law_first", "_law_by", "_law_tail", "_law_way", "_law_found", "_law_k", "_law_at", "_law_name"] [qP,qM] (zag sNames):=fsk
def ok_names(F:Fun K "_law_names" "_law_names" sNames f fd)(FT:Fun K qG qG zej ft fdt)(bT:Binds K fdt [qP,qM] [])(mT:mg qG=some (.ref ft))(GT:FnOk P w K mg base CX0 1 ft fdt [qP,qM] zfx)(FC:Fun K "_law_counted" "_law_counted" sCount fc fdc)(bC:Binds K fdc ["_law_number", "_law_letters"] [])(mC:mg "_law_counted" = some (.ref fc))(GC:FnOk P w K mg base CX0 1 fc fdc ["_law_number", "_law_letters"] spCount)(ad:mg "len" = none)(bj:mg "range" = none):FnOk P w K mg base CX0 2 f fd [qP,qM] spNames:=by
 refine F.okL zct (λcdv A outer s H vs Q E hr h=>?_)
 obtain⟨p,b,m,n,rfl,hp,hn,k⟩:=h
 have aT:=sizeLine_eq
 refine⟨_,zae (zau 2 zct.nd zdd)
  (zae (zau 3 zct.nd (zam GT hr rfl mT FT.kp bT .nil za0 (zaa (pv 0) (zaa zai zaf))))
  (zae (zau 4 zct.nd (zbg zat (zbj (zaa zai (zaa zai (zaa zai (zaa zai (zaa zai (zaa zai (zaa zai (zaa zai zaf))))))))) (zam GT hr rfl mT FT.kp bT .nil za0 (zaa (pv 0) (zaa zai zaf))) (λ_ _=>rfl)))
  (zae (zau 5 zct.nd (zbu sl_strP zdd zbz (zb5 (zam GT hr rfl mT FT.kp bT .nil za0 (zaa (pv 0) (zaa zai zaf))))))
  (zae (zau 6 zct.nd (zam GT hr rfl mT FT.kp bT .nil za0 (zaa (pv 0) (zaa zai zaf))))
  (zae (zau 7 zct.nd (zbj zaf))
  (zae (zbq Zq rfl (zci rfl bj (zaa (pv 1) zaf)) (zbf 8 zct.nd)
   (zae (zau 9 zct.nd (zav zcq (zav zb0 (pv 3) (zav zga (pv 4) (pv 8))) zai))
   (zah (zcc (PW.pt (pw_and (za5 op_eq (pv 6) zai (zbt _)) (pw_and1 (za5 op_le (pv 1) zai (zbt _)))))
    (zah (zay (zcj Qy Yb Ya zbc (pv 7) (zaa (zbg ix_str (pv 2) (zav zcq (pv 9) zai) (λ_ _=>rfl)) zaf))))
    (zah (zcc (za5 op_eq (pv 6) zai (zbt _))
     (zah (zay (zcj Qy Yb Ya zbc (pv 7) (zaa (zam GC hr rfl mC FC.kp bC .nil za0 (zaa (zav zb0 zai (zav zcq (zav zb0 (pv 3) (zav zga (pv 4) (pv 8))) zai)) (zaa (zbg zat (zbj (zaa zdd (zaa zdd (zaa zdd (zaa zdd zaf))))) (zav zcq (zaj zcb (by rfl) ad Zz (zaa (pv 5) zaf)) zai) (λ_ _=>rfl)) zaf))) zaf))))
     (zae (zau 10 zct.nd (zav ze1 (zbg ix_str (pv 2) (zav zgc (pv 9) zai) (λ_ _=>rfl)) (zbg ix_str (pv 2) (zav zcq (pv 9) zai) (λ_ _=>rfl))))
     (zah (zay (zcj Qy Yb Ya zbc (pv 7) (zaa (zav ze1 (pv 10) (zbu sl_strP (pv 5) zbz (zb5 (zav zcq (zav zb0 (pv 3) (pv 8)) (zav zb0 (zaj zcb (by rfl) ad Zz (zaa (pv 5) zaf)) zai))))) zaf)))))))))))
  (zah (zbe (pv 7))))))))),?_⟩
 refine⟨_,rfl,p,b,m,676,rfl,hp,by decide,by decide,λd1 b1 m1 H1 dB nj dO pI=>?_⟩
 refine⟨(by show 8≤sizeLine;decide),λq hq=>?_⟩
 have k2:Keep [p] H (upd H1 q (.lst [.int 1,.int 3,.int 5,.int 7,.int 9,.int 25,.int 27,.int 675])):=(za8 pI).trans (Keep.new hq)
 have aS:Pot (upd H1 q (.lst [.int 1,.int 3,.int 5,.int 7,.int 9,.int 25,.int 27,.int 675])) p b1 m1:=dO.keep (xs:=[]) (Keep.new hq) (by simp)
 have cr:(upd H1 q (.lst [.int 1,.int 3,.int 5,.int 7,.int 9,.int 25,.int 27,.int 675])) q=some (.lst [.int 1,.int 3,.int 5,.int 7,.int 9,.int 25,.int 27,.int 675]):=zac
 have nqp:q≠p:=Zn (zab dO.1 hq)
 generalize upd H1 q (.lst [.int 1,.int 3,.int 5,.int 7,.int 9,.int 25,.int 27,.int 675])=H2 at k2 aS cr
 obtain⟨f,rfl⟩:=Zm dB
 refine⟨_,rfl,p,b1,m1,8,rfl,aS,by decide,by decide,λd3 b3 m3 H3 h30 h31 ba nU=>?_⟩
 have hq3:=nU _ _ cr nqp
 have k3:=k2.trans (za8 nU)
 obtain⟨bb,fS,oG⟩:∃bb:Nat,atI [V.int 1,V.int 3,V.int 5,V.int 7,V.int 9,V.int 25,V.int 27,V.int 675] d3=some (iV bb)∧bb∈byS:=by
  obtain⟨jn,rfl⟩:=Zm h30
  have hj:jn<8:=by omega
  have:∀j:Fin 8,∃bb∈byS,[V.int 1,V.int 3,V.int 5,V.int 7,V.int 9,V.int 25,V.int 27,V.int 675][j.1]?=some (iV bb):=by decide
  obtain⟨bb,h1,h2⟩:=this ⟨jn,hj⟩
  exact⟨bb,zax h2,h1⟩
 have hbb2:bb≤675:=by
  have:∀x∈byS,x≤675:=by decide
  exact this bb oG
 refine⟨q,_,_,iV bb,rfl,rfl,SqL.of hq3,fS,?_⟩
 refine⟨_,rfl,p,b3,m3,7,rfl,ba,by decide,by decide,λd4 b4 m4 H4 sV h41 bA ij=>?_⟩
 obtain⟨j4,rfl⟩:=Zm sV
 have k4:=k3.trans (za8 ij)
 refine⟨_,rfl,_,j4,rfl,rfl,rfl,by show j4≤6;omega,by decide,λtl gc=>?_⟩
 have qd:tl.cps.toList.length≤6:=by rw[gc,Zc];omega
 have qc:∀c∈tl.cps.toList,97≤c∧c≤122:=λc hc=>by
  rw[gc]at hc
  have:∀x∈("nqxbkw" : Str).cps.toList,97≤x∧x≤122:=by decide +kernel
  exact this c (Yp hc)
 have qe:∀c t,tl.cps.toList=c::t→c=110:=λc t ht=>by
  rw[gc]at ht
  cases j4 with
  |zero=>cases ht
  |succ j =>
   rw[show("nqxbkw" : Str).cps.toList=110::[113,120,98,107,119] from rfl,List.take_succ_cons]at ht
   injection ht with h _
   exact h.symm
 have ll:=str_len tl
 refine⟨_,rfl,p,b4,m4,3,rfl,bA,by decide,by decide,λd5 b5 m5 H5 sU h51 bf fG=>?_⟩
 obtain⟨wy,rfl⟩:=Zm sU
 have k5:=k4.trans (za8 fG)
 refine⟨(by show 0≤sizeLine;decide),λl hl=>?_⟩
 have k6:Keep [p] H (upd H5 l (.lst [])):=k5.trans (Keep.new hl)
 have nlp:l≠p:=Zn (zab bf.1 hl)
 have flH:H l=none:=zas k5 hl (by simpa using nlp)
 have dN:Pot (upd H5 l (.lst [])) p b5 m5:=bf.keep (xs:=[]) (Keep.new hl) (by simp)
 have ou:(upd H5 l (.lst [])) l=some (.lst (([]:List Str).map V.str)):=zac
 generalize upd H5 l (.lst [])=H6 at k6 dN ou
 refine⟨_,rfl,(n:Int),rfl,by omega,by omega,?_⟩
 rw[Jm]
 refine zcl (lo:=0) (λi σ H'=>Aj4 (Ex3 λx8 x9 cI=>σ=[some (.ref p),some (iV n),some (.str zdm),some (iV f),some (iV bb),some (.str tl),some (iV wy),some (.ref l),x8,x9,cI]) (Keep [p] H H') (Pot H' p b5 m5) (Ex1 λzs:List Str=>Aj2 (H' l=some (.lst (zs.map V.str))) (zs.map (·.cps.toList)=(List.range i).map (nmF wy n f bb tl.cps.toList))))
  ⟨⟨_,_,_,rfl⟩,k6,dN,[],ou,rfl⟩ ?_ ?_
 ·rintro i σ H7 hi ⟨⟨x8,x9,cI,rfl⟩,k7,cc,zs,d7,jW⟩
  have cV:zs.length=i:=by
   have:=congrArg List.length jW
   rwa[Qa,Qa,Wh]at this
  have fin:∀(y8 y9 kI:Option V) (z:Str) (H8:Hp),Keep [] H7 H8→z.cps.toList=nmF wy n f bb tl.cps.toList i→Aj4 (Ex3 λx8 x9 cI=>[some (V.ref p),some (iV n),some (.str zdm),some (iV f),some (iV bb),some (.str tl),some (iV wy),some (.ref l),y8,y9,kI]=[some (V.ref p),some (iV n),some (.str zdm),some (iV f),some (iV bb),some (.str tl),some (iV wy),some (.ref l),x8,x9,cI]) (Keep [p] H (upd H8 l (.lst (zs.map V.str++[.str z])))) (Pot (upd H8 l (.lst (zs.map V.str++[.str z]))) p b5 m5) (Ex1 λcH:List Str=>Aj2 ((upd H8 l (.lst (zs.map V.str++[.str z]))) l=some (.lst (cH.map V.str))) (cH.map (·.cps.toList)=(List.range (i+1)).map (nmF wy n f bb tl.cps.toList))):=λy8 y9 kI z H8 k8 hz =>
   ⟨⟨_,_,_,rfl⟩,λc u ec hc=>by rw[zad (zab ec flH)];exact k8 _ _ (k7 c u ec hc) (by simp),(cc.keep k8 (by simp)).keep (xs:=[l]) (Keep.wr (by simp)) (by simpa using Zn nlp),zs++[z],by rw[zac,Qt];rfl,by rw[Qt,jW,Xt,Qt,Qk,Qk,hz];rfl⟩
  have e9:((f:Int)+(bb:Int)*(0+(i:Int)))%676=(((f+bb*i)%676:Nat):Int):=by rw[Xr,←Int.natCast_mul,←Int.natCast_add];rfl
  have e97:((f:Int)+(bb:Int)*(0+(i:Int)))%97=(((f+bb*i)%97:Nat):Int):=by rw[Xr,←Int.natCast_mul,←Int.natCast_add];rfl
  refine⟨_,rfl,_,rfl,_,rfl,_,_,rfl,rfl,.inl ⟨by omega,by omega⟩,_,_,rfl,rfl,_,_,rfl,rfl,by decide,?_⟩
  rw[e9]
  have hat6:(f+bb*i)%676<676:=Uq _ (by decide)
  have r6:(((f+bb*i)%676:Nat):Int)%26=(((f+bb*i)%676%26:Nat):Int):=rfl
  have gM:atI zdm.cps.toList ((((f+bb*i)%676:Nat):Int)%26)=some (97+(f+bb*i)%676%26):=by
   rw[r6];exact letter_at (by omega) (by omega)
  refine⟨_,rfl,rfl,_,rfl,?_⟩
  have bw:(zs.map V.str).length<sizeLine:=by rw[Qa];omega
  by_cases hA:wy=0∧n≤26
  ·refine zb6 (decide_eq_true (by rw [hA.1];rfl)) ⟨_,rfl,_,_,rfl,rfl,_,rfl,zb6 (decide_eq_true (by omega)) ?_⟩
   refine⟨_,rfl,.inl ⟨rfl,_,SqL.of d7⟩,_,rfl,_,rfl,_,_,rfl,rfl,by decide,_,_,_,rfl,rfl,zd8,gM,l,_,_,rfl,rfl,d7,bw,?_⟩
   exact fin _ _ _ _ H7 Keep.refl (by unfold nmF;rw[if_pos hA])
  have hc:(wy=0∧¬n≤26)∨wy≠0:=by omega
  rcases hc with⟨hw,hn26⟩ | hw
  refine zb6 (decide_eq_true (by rw[hw];rfl)) ⟨_,rfl,_,_,rfl,rfl,_,rfl,zbw (decide_eq_false (by omega)) ?_⟩
  rotate_left
  refine zbw (decide_eq_false (λz=>hw (by injection z;omega))) (iteF ?_)
  all_goals
   refine⟨_,rfl,rfl,_,rfl,?_⟩
   by_cases h1:wy=1
   ·refine zb6 (decide_eq_true (by rw [h1];rfl)) ?_
    refine⟨_,rfl,.inl ⟨rfl,_,SqL.of d7⟩,_,rfl,_,rfl,_,rfl,_,_,rfl,rfl,.inl ⟨by omega,by omega⟩,_,_,rfl,rfl,_,_,rfl,rfl,by decide,_,_,rfl,rfl,(by show 4≤sizeLine;decide),λq8 hq8=>?_⟩
    have rE:tl.length%4<4:=Uq _ (by decide)
    have sH:atI [V.str "ab",V.str "za",V.str "xyz",V.str "qn"] ((tl.length:Int)%4)=some (.str (zcr (tl.length%4))):=by
     rw[show(tl.length:Int)%4=((tl.length%4:Nat):Int) from rfl]
     have:∀j:Fin 4,[V.str "ab",V.str "za",V.str "xyz",V.str "qn"][j.1]?=some (.str (zcr j.1)):=by decide
     exact zax (this ⟨_,rE⟩)
    have gN:∀j<4,2≤(zcr j).length∧(zcr j).length≤1000:=by decide +kernel
    have k8:Keep [] H7 (upd H7 q8 (.lst [.str "ab",.str "za",.str "xyz",.str "qn"])):=Keep.new hq8
    refine⟨_,rfl,tl,rfl,by omega,_,_,rfl,rfl,by decide,q8,_,_,.str (zcr (tl.length%4)),rfl,rfl,SqL.of zac,sH,1+(f+bb*i)%97,zcr (tl.length%4),by rw[e97];rfl,by have:=Uq (f+bb*i) (show 0<97 by decide);omega,(gN _ rE).1,(gN _ rE).2,λz hz=>?_⟩
    refine⟨l,_,_,rfl,rfl,k8 _ _ d7 (by simp),bw,?_⟩
    exact fin _ _ _ z _ k8 (by unfold nmF;rw[if_neg hA,if_pos h1,ll];exact hz)
   ·refine zbw (decide_eq_false (fun z=>h1 (by injection z;omega))) ?_
    have r8:atI zdm.cps.toList ((((f+bb*i)%676:Nat):Int)/26)=some (97+(f+bb*i)%676/26):=by
     rw[show(((f+bb*i)%676:Nat):Int)/26=(((f+bb*i)%676/26:Nat):Int) from rfl];exact letter_at (by omega) (by omega)
    refine⟨_,rfl,_,rfl,_,_,rfl,rfl,⟨by decide,by decide⟩,_,_,_,rfl,rfl,zd8,r8,_,rfl,_,rfl,_,_,rfl,rfl,by decide,_,_,_,rfl,rfl,zd8,gM,_,_,rfl,rfl,by show 1+1≤sizeLine;decide,?_⟩
    have hjm:(f+i)%(tl.length+1)<tl.length+1:=Uq _ (Nat.succ_pos _)
    refine⟨_,rfl,.inl ⟨rfl,_,SqL.of d7⟩,_,rfl,_,rfl,_,rfl,_,rfl,_,_,rfl,rfl,_,rfl,tl,rfl,by omega,_,_,rfl,rfl,_,_,rfl,rfl,by show(0:Int)<(tl.length:Int)+1;omega,_,rfl,tl,(f+i)%(tl.length+1),rfl,rfl,by rw[Xr];rfl,by omega,by omega,λy hy=>?_⟩
    have hyl:y.length≤6:=by rw[←str_len,hy,Zc];omega
    refine⟨_,_,rfl,rfl,by rw[app_len];show 1+1+y.length≤sizeLine;omega,l,_,_,rfl,rfl,d7,bw,?_⟩
    exact fin _ _ _ _ H7 Keep.refl (by unfold nmF;rw[if_neg hA,if_neg h1,zih,zih,hy,ll];rfl)
 ·rintro σ H7 ⟨⟨x8,x9,cI,rfl⟩,k7,cc,zs,d7,jW⟩
  have cV:zs.length=n:=by
   have:=congrArg List.length jW
   rwa[Qa,Qa,Wh]at this
  refine⟨_,rfl,k l zs b5 m5 H7 d7 cV ?_ (λz hz=>?_) cc flH k7⟩
  ·refine nodup_of_map (f:=fun z:Str=>z.cps.toList) ?_
   rw[jW]
   exact zgh λa ha c hc h=>nm_inj oG hn ha hc h
  ·have:z.cps.toList∈(List.range n).map (nmF wy n f bb tl.cps.toList):=by rw [← jW];exact Ql.mpr ⟨z,hz,rfl⟩
   obtain⟨j,_,e⟩:=Ql.mp this
   have:=nm_ok (way:=wy) (many:=n) (f:=f) (b:=bb) (k:=j) qd qc
   rw[e]at this
   have cF:=nm_not (way:=wy) (many:=n) (f:=f) (b:=bb) (k:=j) qe
   rw[e]at cF
   exact⟨⟨by rw[←str_len];exact this.1,by rw[←str_len];exact this.2.1,this.2.2⟩,λz=>cF (by rw[z])⟩
end
end K21
end
section
namespace Wb
section
variable{α β:Type}[DecidableEq α][DecidableEq β]{ns:List α}{r:α→List α}{cs:List (List (α×α))}{f:α→β}{aa:α→α}{ag:β→β}
def cert_mapL(hf:∀ x y,f x=f y→x=y)(C:Cert ns r cs aa){r':β→List β}(hr:∀ x,r' (f x)=(r x).map f)(gf:∀ y,(∀ x,y≠f x)→r' y=[])(hl:∀ x∈ns,ag (f x)=f (aa x)) :
  Cert (ns.map f) r' (cs.map λc=>c.map λs=>(f s.1,f s.2)) ag:=by
 have hm:∀{y z},z∈r' y→∃x w,y=f x∧z=f w∧w∈r x:=λ{y z} h=>by
  by_cases hy:∃x,y=f x
  ·obtain ⟨x,rfl⟩:=hy
   rw[hr]at h
   obtain⟨w,hw,rfl⟩:=Ql.mp h
   exact⟨x,w,rfl,rfl,hw⟩
  ·rw [gf y fun x e=>hy ⟨x,e⟩] at h
   cases h
 have hb:∀{x w},w∈r x→f w∈r' (f x):=λh=>by rw[hr];exact Ql.mpr ⟨_,h,rfl⟩
 have hg:∀s t:α×α,(f s.1,f s.2)=(f t.1,f t.2)→s=t:=λs t e=>Km (hf _ _ (congrArg Prod.fst e)) (hf _ _ (congrArg Prod.snd e))
 have lL:∀{l:List α},l.Nodup→(l.map f).Nodup:=λnd=>Wt.mpr (nd.imp λh e=>h (hf _ _ e))
 have ms:(cs.map λc=>c.map λs=>(f s.1,f s.2)).flatten=cs.flatten.map λs=>(f s.1,f s.2):=List.map_flatten.symm
 refine⟨lL C.nd,λy hy=>?_,λy=>?_,λy h=>?_,λx y h=>?_,?_,λs=>?_,λc hc=>?_,λx hx=>?_,λx y h=>?_,λx hx y hy e=>?_,λx hx=>?_⟩
 ·cases e:r' y with
  |nil=>rfl
  |cons z t =>
   obtain⟨x,w,rfl,_,hw⟩:=hm (y:=y) (z:=z) (by rw[e];exact Qe)
   exact absurd (Ql.mpr ⟨x,C.inn hw,rfl⟩) hy
 ·by_cases hy:∃ x,y=f x
  ·obtain ⟨x,rfl⟩:=hy
   rw[hr];exact lL (C.rn x)
  ·rw[gf y λx e=>hy ⟨x,e⟩];exact Yc
 ·obtain ⟨x,w,e1,e2,hw⟩:=hm h
  have:=hf _ _ (e1.symm.trans e2)
  subst this
  exact C.ir _ hw
 ·obtain ⟨a,w,rfl,rfl,hw⟩:=hm h
  exact hb (C.sy _ _ hw)
 ·rw [ms]
  exact Wt.mpr (C.cf.imp λh e=>h (hg _ _ e))
 ·rw [ms]
  constructor
  ·intro h
   obtain⟨t,ht,rfl⟩:=Ql.mp h
   exact hb ((C.cm t).mp ht)
  ·intro h
   obtain⟨x,w,e1,e2,hw⟩:=hm h
   exact Ql.mpr ⟨(w,x),(C.cm (w,x)).mpr hw,Km e2.symm e1.symm⟩
 ·obtain ⟨c0,hU,rfl⟩:=Ql.mp hc
  obtain⟨s,t,rfl,k⟩:=C.cy c0 hU
  refine⟨(f s.1,f s.2),_,rfl,lk_map (g:=λs:α×α=>(f s.1,f s.2)) (λy _=>?_) k⟩
  show(f y.2,nxt (r' (f y.2)) (f y.1))=(f y.2,f (nxt (r y.2) y.1))
  rw[hr,nxt_map hf]
 ·obtain ⟨x0,gI,rfl⟩:=Ql.mp hx
  rw[hl x0 gI]
  exact Ql.mpr ⟨_,C.ln x0 gI,rfl⟩
 ·obtain ⟨a,w,rfl,rfl,hw⟩:=hm h
  rw[hl w (C.inn' hw),hl a (C.inn hw),C.la a w hw]
 ·obtain ⟨x0,gI,rfl⟩:=Ql.mp hx
  obtain⟨y0,kW,rfl⟩:=Ql.mp hy
  rw[hl x0 gI,hl y0 kW]at e
  have:=C.co x0 gI y0 kW (hf _ _ e)
  clear hy kW e
  induction this with
  |refl=>exact .refl
  |step _ hz ih=>exact .step ih (hb hz)
 ·obtain ⟨x0,gI,rfl⟩:=Ql.mp hx
  rw[hl x0 gI]
  have e1:wt (ns.map f) r' ag (f (aa x0))=wt ns r aa (aa x0):=by
   unfold wt
   rw[Zp]
   refine zdr λx hx=>?_
   show(if ag (f x)=f (aa x0) then _ else _)=_
   rw[hl x hx,hr,Qa]
   by_cases h:aa x=aa x0
   ·rw [if_pos (congrArg f h),if_pos h]
    simp only[List.map_eq_nil_iff]
   ·rw[if_neg (λe=>h (hf _ _ e)),if_neg h]
  have e2:ct (cs.map λc=>c.map λs=>(f s.1,f s.2)) ag (f (aa x0))=ct cs aa (aa x0):=by
   unfold ct
   rw[Zp]
   refine zdr λc hc=>?_
   show(if(List.any (c.map λs=>(f s.1,f s.2)) λs=>decide (ag s.1=f (aa x0)))=true then _ else _)=_
   rw[List.any_map]
   have:(c.any ((λs:β×β=>decide (ag s.1=f (aa x0)))∘λs=>(f s.1,f s.2)))=c.any λs=>decide (aa s.1=aa x0):=by
    rw[Wm,Wf,Wf]
    have aA:∀s∈c,s.1∈ns:=λs hs=>C.inn' ((C.cm s).mp (Wd.mpr ⟨c,hc,hs⟩))
    constructor
    ·rintro ⟨s,hs,e⟩
     have e':=of_decide_eq_true e
     have e':ag (f s.1)=f (aa x0):=e'
     rw[hl _ (aA s hs)]at e'
     exact⟨s,hs,decide_eq_true (hf _ _ e')⟩
    ·rintro ⟨s,hs,e⟩
     have e':=of_decide_eq_true e
     exact⟨s,hs,decide_eq_true (by show ag (f s.1)=_;rw[hl _ (aA s hs),e'])⟩
   rw[this]
  rw[e1,e2]
  exact C.eu x0 gI
end
end Wb
end
section
namespace L2
open PySem PySem.Spec PyProof.Rows
section
variable{X:Cx}
theorem fm_some{β γ:Type}{f:β→Option γ}{g:β→γ}:∀{l:List β},(∀x∈l,f x=some (g x))→l.filterMap f=l.map g
 |[],_=>rfl
 |a::t,h=>by rw[List.filterMap_cons,h a Qe,Qk,fm_some λx hx=>h x (Qg _ hx)]
def pick_rev(a8:Nh):slicePick a8.toArray none none (some (-1))=a8.reverse.toArray:=by
 unfold slicePick sliceBounds
 simp only[Option.getD_some,show ¬((-1:Int)>0) by decide,if_false,Qn]
 congr 1
 unfold sliceRange
 simp only[show ¬((-1:Int)>0) by decide,if_false]
 have hc:(if((a8.length:Int)-1) > -1 then(((a8.length:Int)-1) - -1 - -1-1)/(- -1) else 0).toNat=a8.length:=by
  split
  ·rw[show(- (-1:Int))=1 from rfl,Int.ediv_one];omega
  ·omega
 rw[hc,List.filterMap_map]
 have hk:∀k∈List.range a8.length,((a8.toArray[·]?)∘λ(k:Nat)=>(((a8.length:Int)-1)+-1*(k:Int)).toNat) k=some (a8.reverse.getD k .none):=λk hk=>by
  have hk:=Yq.mp hk
  have e:(((a8.length:Int)-1)+-1*(k:Int)).toNat=a8.length-1-k:=by omega
  show a8.toArray[(((a8.length:Int)-1)+-1*(k:Int)).toNat]?=_
  rw[e,List.getElem?_toArray,Qx,List.getElem?_reverse hk]
  rw[Qc (by omega)]
  rfl
 rw[fm_some hk]
 apply List.ext_getElem
 ·simp
 ·intro i h1 h2
  have h3:i<a8.reverse.length:=h2
  rw[Yd,Jx,Qx,Qc h3]
  rfl
def pe_rev(he:PE X e te):PE X (.Subscript e (.Slice none none (some (.UnaryOp .USub (.Constant (.int 1) k p4) p3)) p2) pos) (λ σ H Q=>te σ H λx H1=>Ex2 λa xs=>Aj3 (x=.ref a) (SqL X.K H1 a xs) (∀p,H1 p=none→Q (.ref p) (upd H1 p (.lst xs.reverse)))):=by
 intro a7 s σ H Q I h
 refine Subscript_ (thn (he a7 s σ H _ I h) λv s1 ⟨x,H1,I1,r1,a,xs,ex,hx,q⟩=>?_)
 subst ex
 cases r1
 refine wpAny_Slice (thn (zbz (X:=X) a7 s1 σ H1 (λo H'=>o=none∧H'=H1) I1 ⟨rfl,rfl⟩) λvl s2 ⟨l,H2,I2,pl,el,eh⟩=>?_)
 subst el;subst eh
 refine thn (zbz (X:=X) a7 s2 σ H2 (λo H'=>o=none∧H'=H2) I2 ⟨rfl,rfl⟩) λvu s3 ⟨l,H3,I3,pu,el,eh⟩=>?_
 subst el;subst eh
 refine thn (zb5 (X:=X) (pe_un un_neg (zai (X:=X))) a7 s3 σ H3 (λo H'=>o=some (-1)∧H'=H3) I3 ⟨_,rfl,_,rfl,rfl,rfl⟩) λvs s4 ⟨l,H4,I4,ps,el,eh⟩=>?_
 subst el;subst eh
 have I5:Inv X a7 σ H4 {s4 with heap:=s4.heap.push {cls:=.type "slice",data:=.fields #[vl,vu,vs]}}:=I4.kept (t':=s4.toks) λb ob q=>Qi _ q
 obtain⟨a8,r,ht,hz⟩:=I5.list hx
 have ad:=r.length
 show wpAny (model X.prog X.w) X.A (subscriptTail e (.Slice none none (some (.UnaryOp .USub (.Constant (.int 1) k p4) p3)) p2) (.ref a) (.ref s4.heap.objs.size)) (EP X a7 σ Q) X.xe {s4 with heap:=s4.heap.push {cls:=.type "slice",data:=.fields #[vl,vu,vs]}}
 refine tail_any (ops:=[.ref a,.ref s4.heap.objs.size]) ht.isList.typeIs slot_list_getitem.lookup ?_ (by with_unfolding_all rfl)
 refine wpAny_getItem_list_slice ht.isList (Heap.IsSliceOf.new ..) pl pu ps (by decide) ?_ (by rw[Qn]<;>exact zd3 ‹_› ‹_›)
 rw[pick_rev]
 refine⟨.ref _,_,I5.laid (t':=s4.toks) (o:=.lst xs.reverse) (λb ob q=>Qi _ q) (Qd _) ?_,rfl,q _ (I5.hok.fresh (Qd _))⟩
 exact⟨by rw[List.length_reverse];exact hz,_,0,r.reverse,Za _ rfl⟩
end
def lc_map{K:Na}{g:TG}{te:TE}{Q:VK}{a:Nc}{τ:St}{H:Hp}{xs:List V}(T:St→Prop)(f:V→V)(ha:SqL K H a xs)(hn:xs.length≤sizeLine)(h0:T τ)(hs:∀x∈xs,∀τ,T τ→∀k:V→St→Hp→Prop,(∀τ2,T τ2→k (f x) τ2 H)→g x τ H λ τ2 H2=>te τ2 H2 λy H4=>k y τ2 H4)(q:∀D,H D=none→Q (.ref D) (upd H D (.lst (xs.map f)))):rLC g tAll te Q (Itl K a) τ H:=by
 refine⟨λi m ys τ H1=>Aj5 (H1=H) (T τ) (m=xs.length-i) (i≤xs.length) (ys=(xs.take i).map f),⟨_,rfl,h0,rfl,Zh _,rfl⟩,?_⟩
 rintro i m ys τ H1 ⟨rfl,ht,rfl,hi,rfl⟩
 by_cases ae:i<xs.length
 ·refine .inr ⟨⟨xs,xs[i],ha,Qc ae⟩,by rw [Qa,Zc];lia,?_⟩
  rintro x H' ⟨rfl,hx⟩
  have c7:=hx xs ha
  rw[Qc ae]at c7
  have iq:xs[i]=x:=Qs c7
  refine hs x (iq▸Qq ae) τ ht (λy τ2 H4=>∃m',m'<xs.length-i∧Aj5 (H4=H') (T τ2) (m'=xs.length-(i+1)) (i+1≤xs.length) ((xs.take i).map f++[y]=(xs.take (i+1)).map f)) λ τ2 h2=>?_
  exact⟨_,by exact zar1 ‹_›,rfl,h2,rfl,ae,by rw[Qo ae,Qt,iq];rfl⟩
 ·have e:i=xs.length:=by exact zar3 ‹_› ‹_›
  subst e
  refine .inl ⟨⟨xs,ha,Qd _⟩,λD hD=>?_⟩
  rw[Qu (Qd _)]
  exact q D hD
end L2
namespace K21
open PySem L2 Wb
def zhe{α β:Type}{R:α→β→Prop}{as:List α}{bs:List β}(h:Paired R as bs):Paired R as.reverse bs.reverse:=by
 induction h with
 |nil=>exact .nil
 |cons h t ih=>rw[Kz,Kz];exact zao ih (.cons h .nil)
end K21
namespace Wb
def zbk(zs:List PySem.Str)(k:Nat):PySem.Str:=zs.getD k ⟨#[200+k]⟩
open K21 in
def nameN_inj{zs:List PySem.Str}(nd:zs.Nodup)(ok:∀ z∈zs,zc3 z)(a b:Nat)(h:zbk zs a=zbk zs b):a=b:=by
 unfold zbk at h
 rw[Qx,Qx]at h
 have bad:∀(i j:Nat) (hi:i<zs.length),zs[i]≠(⟨#[200+j]⟩:PySem.Str):=λi j hi e=>by
  have:=(ok _ (Qq hi)).2.2 (200+j) (by rw[e];exact Qe)
  omega
 by_cases ha:a<zs.length
 ·rw [Qc ha] at h
  by_cases hb:b<zs.length
  ·rw [Qc hb] at h
   exact(Wn nd).mp h
  ·rw [Ut (by omega)] at h
   exact absurd h (bad a b ha)
 ·rw [Ut (by omega)] at h
  by_cases hb:b<zs.length
  ·rw [Qc hb] at h
   exact absurd h.symm (bad b a hb)
  ·rw [Ut (by omega)] at h
   have h:(⟨#[200+a]⟩:PySem.Str)=⟨#[200+b]⟩:=h
   have:200+a=200+b:=by
    have:=congrArg (λz:PySem.Str=>z.cps.toList) h
    have:[200+a]=[200+b]:=this
    injection this
   omega
def nameN_lt{zs:List PySem.Str}{k:Nat}(h:k<zs.length):zbk zs k=zs[k]:=by
 unfold zbk
 rw[Qx,Qc h];rfl
def rsZ(rr:List (List Nat))(zs:List PySem.Str):Rs PySem.Str:=(List.range rr.length).map λk=>(zbk zs k,(rr.getD k []).map (zbk zs))
open K21 in
def good_Z{rr:List (List Nat)}{zs:List PySem.Str}(hG:Good (rsN rr))(nd:zs.Nodup)(ok:∀ z∈zs,zc3 z):∃ cs aa,Cert ((List.range rr.length).map (zbk zs)) (row (rsZ rr zs)) cs aa:=by
 obtain⟨cs,aa,C⟩:=hG
 rw[zdl]at C
 have inj:=nameN_inj nd ok
 have hn:(rsZ rr zs).map (·.1)=(List.range rr.length).map (zbk zs):=by unfold rsZ;rw[List.map_map];rfl
 have aK:((rsZ rr zs).map (·.1)).Nodup:=by
  rw[hn]
  exact Wt.mpr (Xk.imp λh e=>h (inj _ _ e))
 refine⟨_,λy=>zbk zs (aa (((List.range rr.length).find? λk=>decide (zbk zs k=y)).getD 0)),cert_mapL (f:=zbk zs) inj C (λx=>?_) (λy hy=>?_) λx hx=>?_⟩
 ·by_cases hx:x < rr.length
  ·rw [row_N hx]
   refine(zfd aK (p:=(zbk zs x,(rr.getD x []).map (zbk zs))) (Ql.mpr ⟨x,Yq.mpr hx,rfl⟩)).trans ?_
   rw[Qx,Qc hx];rfl
  ·rw [row_No hx]
   refine zcu ?_
   rw[hn]
   intro z
   obtain⟨y,hy,e⟩:=Ql.mp z
   rw[inj _ _ e]at hy
   exact hx (Yq.mp hy)
 ·refine zcu ?_
  rw[hn]
  intro z
  obtain⟨x,_,e⟩:=Ql.mp z
  exact hy x e.symm
 ·show zbk zs (aa _)=_
  have c7:x∈List.range rr.length:=hx
  have:((List.range rr.length).find? λk=>decide (zbk zs k=zbk zs x))=some x:=by
   cases h:(List.range rr.length).find? λk=>decide (zbk zs k=zbk zs x) with
   |none=>exact absurd (decide_eq_true rfl) (List.find?_eq_none.mp h x c7)
   |some k =>
    have:=List.find?_some h
    rw[inj _ _ (of_decide_eq_true this)]
  rw[this];rfl
end Wb
namespace K21
open PySem L2 Wb
abbrev sRows:Stmt:=top 30
abbrev sDrawn:Stmt:=top 31
inductive IspRowsD(vs:List V)(H:Hp)(Q:VK):Prop
 |mk (p l nl:Nc) (b m:Int) (as:Nk) (rr:List (List Nat)) (zs:Nj) (h0:vs=[.ref p,.ref l,.ref nl]) (h1:Pot H p b m) (h2:NAt H l as rr) (h3:Good (rsN rr)) (h4:rr.length≤40) (h5:H nl=some (.lst (zs.map V.str))) (h5':zs.length=rr.length) (h5n:zs.Nodup) (h5k:∀z∈zs,zc3 z∧z ≠ "nobody") (bz:p∉as)
  (h6:∀(t:Nc) (bs:Nk) (es:List Ent) (cs:List (List (Str×Str))) (aa:Nu) (b' m':Int) (H':Hp),RwAt H' t bs es→Cert (es.map (·.1)) (row (rsOf es)) cs aa→es.length≤40→(∀e∈es,zc3 e.1∧e.1 ≠ "nobody")→(∀e∈es,H e.2.2=none)→Pot H' p b' m'→Keep [p] H H'→Q (.ref t) H'):IspRowsD vs H Q
def spRowsD:Sp:=λvs H Q _=>IspRowsD vs H Q
abbrev csW:Scope:=scOf (eOf (bAt (sAt sRows 1) 0))
def csW_k:csW.kind=.function:=by rfl
def csW_c:∀y∈csW.names,y.2≠.cell:=by decide +kernel
def csW_n:∀y∈csW.names,y.2=.local→csW.names.lookup y.1=some .local:=by decide +kernel
def csW_f:∀y∈csW.names,y.2=.free→(zag sRows).names.lookup y.1=some .cell∨(zag sRows).names.lookup y.1=some .free:=by decide +kernel
def csW_l:csW.names.lookup (qN:Str)=some NameKind.free:=by decide +kernel
def ndW:([qO,qN]:List Str).Nodup:=by decide +kernel
abbrev TurnZ(rr:List (List Nat))(zs:Nj):List Ent→List Nat→Prop:=Paired λe k=>e.1=zbk zs k∧∃j,e.2.1=((rr.getD k []).map (zbk zs)).drop j++((rr.getD k []).map (zbk zs)).take j
def names_Z(h:TurnZ rr zs es ks):es.map (·.1)=ks.map (zbk zs):=by
 induction h with
 |nil=>rfl
 |cons h _ ih=>rw[Qk,Qk,ih,h.1]
def cert_Z{rr:List (List Nat)}{zs:Nj}{es:List Ent}{ks:List Nat}(hG:Good (rsN rr))(nd:zs.Nodup)(ok:∀z∈zs,zc3 z)(h:TurnZ rr zs es ks)(hk:ks.Perm (List.range rr.length)):∃cs aa,Cert (es.map (·.1)) (row (rsOf es)) cs aa:=by
 obtain⟨cs,aa,C⟩:=good_Z hG nd ok
 refine⟨cs,aa,zgw C (by rw[names_Z h];exact hk.map _) ?_⟩
 have e:rsZ rr zs=rsOf ((List.range rr.length).map λk=>((zbk zs k,(rr.getD k []).map (zbk zs),0):Ent)):=by unfold rsZ rsOf;rw[List.map_map];rfl
 rw[e]
 refine zey (es2:=ks.map λk=>((zbk zs k,(rr.getD k []).map (zbk zs),0):Ent)) ?_ (hk.map _) ?_
 ·clear hk e
  induction h with
  |nil=>exact .nil
  |cons h _ ih=>exact .cons h ih
 ·rw [Zp]
  exact Wt.mpr (Xk.imp λh e=>h (nameN_inj nd ok _ _ e))
section
variable{P:Ni}{w:Nl}{K:Na}{mg:Nf}{base:Nm}
def zfb:zap [qP,qR,qN, "_law_rows_here", "_law_k", "_law_around", "_law_far"] [qP,qR,qN] (zag sRows):=fsk
def ok_rows(F:Fun K "_law_rows" "_law_rows" sRows f fd)(FT:Fun K qG qG zej ft fdt)(bT:Binds K fdt [qP,qM] [])(mT:mg qG=some (.ref ft))(GT:FnOk P w K mg base CX0 1 ft fdt [qP,qM] zfx)(ad:mg "len" = none)(bj:mg "range" = none):FnOk P w K mg base CX0 2 f fd [qP,qR,qN] spRowsD:=by
 refine F.okL zfb (λcdv A outer s H vs Q E hr h=>?_)
 obtain⟨p,l,nl,b,m,as,rr,zs,rfl,hp,R,hG,aR,on,cV,cU,dH,bz,k⟩:=h
 have hu:=zck hr
 have aT:=sizeLine_eq
 refine⟨_,zae (zau 3 zfb.nd (zbj zaf))
  (zae (zbq Zq rfl (zci rfl bj (zaa (zaj zan (by rfl) ad Zz (zaa (pv 1) zaf)) zaf)) (zbf 4 zfb.nd)
   (zae (ps_lc (i:=5) (M:=[qO,qN]) (ix:=[none,some 2]) zfb.nd rfl rfl ⟨csW_k,csW_c,csW_n,csW_f,rfl,ndW,λj i x h1 h2=>by
      match j,h1,h2 with
      |0,_,h2=>cases h2
      |1,h1,h2=>cases h1;cases h2;exact⟨rfl,csW_l⟩
      |n+2,h1,_=>cases h1⟩ rfl (za7 (zbg zat (pv 1) (pv 4) (λ_ _=>rfl))) (λC a7 ex s H=>zbf 0 ndW)
      (λC a7 ex s H=>zdi) (λC a7 ex s H=>zbg (ix_listK (K:=K) rfl) (pv 1) (pv 0) (λ_ _=>rfl)) rfl)
   (zae (zau 6 zfb.nd (zam GT hr rfl mT FT.kp bT .nil za0 (zaa (pv 0) (zaa (zav zb0 (zaj zan (by rfl) ad Zz (zaa (pv 5) zaf)) zai) zaf))))
   (zah (zay (zcj Qy Yb Ya zbc (pv 3) (zaa (zdj (zaa (zbg zat (pv 2) (pv 4) (λ_ _=>rfl)) (zaa (zav zek (zbu zcs (pv 5) (zb5 (pv 6)) zbz) (zbu zcs (pv 5) zbz (zb5 (pv 6)))) zaf))) zaf)))))))
  (zae (zau 6 zfb.nd (zam GT hr rfl mT FT.kp bT .nil za0 (zaa (pv 0) (zaa (zav zb0 (zaj zan (by rfl) ad Zz (zaa (pv 3) zaf)) zai) zaf))))
  (zae (zau 3 zfb.nd (zav zek (zbu zcs (pv 3) (zb5 (pv 6)) zbz) (zbu zcs (pv 3) zbz (zb5 (pv 6)))))
  (zae (zcc (za5 op_eq (zam GT hr rfl mT FT.kp bT .nil za0 (zaa (pv 0) (zaa zai zaf))) zai (zbt _)) (zah (zau 3 zfb.nd (pe_rev (pv 3)))) zba)
  (zah (zbe (pv 3))))))),?_⟩
 have nlp:=pot_l hp R
 have nnp:nl≠p:=zf3 hp on
 have nap:∀a∈as,a≠p:=λa ha z=>bz (z▸ha)
 have gm:(as.map V.ref).length=rr.length:=by rw[Qa];exact R.len
 refine⟨(by show 0≤sizeLine;decide),λt ht=>?_⟩
 have k1:Keep [p] H (upd H t (.lst [])):=Keep.new ht
 have ntp:t≠p:=Zn (zab hp.1 ht)
 have dO:Pot (upd H t (.lst [])) p b m:=hp.keep (xs:=[]) (Keep.new ht) (by simp)
 have iD:(upd H t (.lst [])) t=some (.lst (([]:List Addr).map V.ref)):=zac
 generalize upd H t (.lst [])=H1 at k1 dO iD
 have R1:∀{H':Hp},Keep [p] H H'→NAt H' l as rr:=λkk=>R.keep kk (by simpa using nlp) λa ha=>by simpa using nap a ha
 have N1:∀{H':Hp},Keep [p] H H'→H' nl=some (.lst (zs.map V.str)):=λkk=>kk _ _ on (by simpa using nnp)
 refine⟨_,rfl,l,_,rfl,.inl (SqL.of (R1 k1).ls),?_⟩
 refine⟨_,rfl,by omega,by omega,?_⟩
 refine zcl (lo:=0) (λi σ H'=>Aj3 (Ex3 λx4 x5 x6=>σ=[some (.ref p),some (.ref l),some (.ref nl),some (.ref t),x4,x5,x6]) (Keep [p] H H') (Ex4 λ(bs:Nk) (es:List Ent) (b' m':Int)=>Aj5 (RwAt H' t bs es) (TurnZ rr zs es (List.range i)) (Pot H' p b' m') (∀e∈es,H e.2.2=none) (∀e∈es,e.2.2≠t)))
  ⟨⟨_,_,_,rfl⟩,k1,[],[],b,m,⟨iD,.nil,λe he=>by cases he⟩,.nil,dO,(λe he=>by cases he),(λe he=>by cases he)⟩ ?_ ?_
 ·rintro i σ H2 hi ⟨⟨x4,x5,x6,rfl⟩,k2,bs,es,b2,m2,W2,T2,aS,gU,iQ⟩
  have hi:i<rr.length:=by omega
  have gQ:i<as.length:=by rw[R.len];exact hi
  have hR2:=R1 k2
  have hN2:=N1 k2
  have aF:=hR2.row gQ hi
  have iE:∀x∈rr[i],x<rr.length:=λx hx=>by
   have:=(zbm.sub _ hG _ (zg4 hi)).2 x hx
   rw[zdl]at this
   exact Yq.mp this
  have iY:(rsN rr).length=rr.length:=by unfold rsN;rw[List.length_map,List.length_range]
  have hrl2:rr[i].length≤900:=by
   have:=zbm.rows hG _ (zg4 hi)
   rw[iY]at this
   exact Zi this (by omega)
  have a1:atI (as.map V.ref) (0+(i:Int))=some (.ref as[i]):=by rw[Xr];exact zax (by rw[Qr,Qc gQ];rfl)
  have z1:∀{x:Nat},x<rr.length→atI (zs.map V.str) (x:Int)=some (.str (zbk zs x)):=λ{x} hx=>zax (by rw[Qr,Qc (by omega),nameN_lt (by omega)];rfl)
  have hg:rr.getD i []=rr[i]:=by rw[Qx,Qc hi];rfl
  refine⟨_,rfl,_,rfl,l,_,_,_,rfl,rfl,SqL.of hR2.ls,a1,as[i],rfl,⟨_,SqL.of aF⟩,lc_map (xs:=rr[i].map iV) (λ τ=>∃x0,τ=[x0,some (.ref nl)]) (λx=>match x with | .int n=>.str (zbk zs n.toNat) | v=>v) (SqL.of aF) (by rw[Qa];omega) ⟨none,rfl⟩ ?_ (λar har=>?_)⟩
  ·rintro x hx τ ⟨x0,rfl⟩ kk hk
   obtain⟨z,hz,rfl⟩:=Ql.mp hx
   exact⟨_,rfl,_,rfl,nl,_,_,_,rfl,rfl,SqL.of hN2,z1 (iE z hz),hk _ ⟨_,rfl⟩⟩
  have emap:(rr[i].map iV).map (λx=>match x with | .int n=>.str (zbk zs n.toNat) | v=>v)=(rr[i].map (zbk zs)).map V.str:=by rw[Zp,Zp];rfl
  rw[emap]
  have oq:(rr[i].map (zbk zs)).length=rr[i].length:=Qa ..
  generalize eu:rr[i].map (zbk zs)=ru at oq
  have k3:Keep [] H2 (upd H2 ar (.lst (ru.map V.str))):=Keep.new har
  have gA:(upd H2 ar (.lst (ru.map V.str))) ar=some (.lst (ru.map V.str)):=zac
  generalize upd H2 ar (.lst (ru.map V.str))=H3 at k3 gA
  have ba:=aS.keep k3 (by simp)
  have cQ:(ru.map V.str).length=ru.length:=Qa ..
  refine⟨_,rfl,_,rfl,ar,_,rfl,.inl (SqL.of gA),_,_,rfl,rfl,p,b2,m2,_,rfl,ba,by omega,by omega,λj4 b4 m4 H4 ji rD bA ij=>?_⟩
  have k4:=za8 ij
  obtain⟨j,rfl⟩:=Zm ji
  have hj:j≤ru.length:=by omega
  have jC:=k4 _ _ gA (by simpa using zf3 ba gA)
  have di:Keep [p] H H4:=(k2.trans (k3.sub (by simp))).trans k4
  have W4:RwAt H4 t bs es:=⟨k4 _ _ (k3 _ _ W2.ls (by simp)) (by simpa using ntp),Paired.imp' (λa e h=>k4 _ _ (k3 _ _ h (by simp)) (by simpa using za3 h aS.1 (by intro z;cases z))) W2.ts,λe he=>k4 _ _ (k3 _ _ (W2.ro e he) (by simp)) (by simpa using zf3 aS (W2.ro e he))⟩
  refine⟨_,rfl,.inl ⟨rfl,_,SqL.of W4.ls⟩,_,rfl,_,rfl,nl,_,_,_,rfl,rfl,SqL.of (N1 di),by rw[Xr];exact z1 hi,_,rfl,_,rfl,_,rfl,ar,_,rfl,SqL.of jC,λq1 h1=>?_⟩
  have n1:ar≠q1:=zab jC h1
  refine⟨_,rfl,_,rfl,_,rfl,ar,_,rfl,SqL.of (by rw[zad n1];exact jC),λq2 h2=>?_⟩
  have dh:q1≠q2:=zab (o:=_) zac h2
  rw[zdy (by rw[cQ];exact hj),zhl (by rw[cQ];exact hj)]at *
  refine⟨q1,q2,_,_,rfl,rfl,(by rw[zad dh];exact zac),zac,by rw[Yj,Zc];omega,λq3 h3=>?_⟩
  rw[←Jk,←Ul,←Qt]at *
  have k5:Keep [] H4 (upd (upd (upd H4 q1 (.lst ((ru.drop j).map V.str))) q2 (.lst ((ru.take j).map V.str))) q3 (.lst ((ru.drop j++ru.take j).map V.str))):=((Keep.new h1).trans (Keep.new h2)).trans (Keep.new h3)
  have fO:(upd (upd (upd H4 q1 (.lst ((ru.drop j).map V.str))) q2 (.lst ((ru.take j).map V.str))) q3 (.lst ((ru.drop j++ru.take j).map V.str))) q3=some (.lst ((ru.drop j++ru.take j).map V.str)):=zac
  have f3:H4 q3=none:=zas ((Keep.new (xs:=[]) h1).trans (Keep.new h2)) h3 (by simp)
  generalize upd (upd (upd H4 q1 (.lst ((ru.drop j).map V.str))) q2 (.lst ((ru.take j).map V.str))) q3 (.lst ((ru.drop j++ru.take j).map V.str))=H5 at k5 fO
  have nq3t:q3≠t:=Zn (zab W4.ls f3)
  have fq3:H q3=none:=zas di f3 (by simpa using Zn (zab bA.1 f3))
  refine⟨(by show 2≤sizeLine;decide),λc hc=>?_⟩
  have k6:Keep [] H4 (upd H5 c (.tup [.str (zbk zs i),.ref q3])):=k5.trans (Keep.new hc)
  have fA:(upd H5 c (.tup [.str (zbk zs i),.ref q3])) c=some (.tup [.str (zbk zs i),.ref q3]):=zac
  have lF:(upd H5 c (.tup [.str (zbk zs i),.ref q3])) q3=some (.lst ((ru.drop j++ru.take j).map V.str)):=by rw[zad (zab fO hc)];exact fO
  generalize upd H5 c (.tup [.str (zbk zs i),.ref q3])=H6 at k6 fA lF
  have W6:=W4.keep k6
  have da:bs.length=i:=by rw[Zt W6.ts,Zt T2,Wh]
  refine⟨t,_,_,rfl,rfl,W6.ls,by rw[Qa];omega,?_⟩
  have tupt:∀{a:Nc} {xs:List V},H6 a=some (.tup xs)→a≠t:=λ{a xs} e=>za3 e W6.ls (by intro z;cases z)
  have kt:Keep [p] H (upd H6 t (.lst (bs.map V.ref++[V.ref c]))):=λa u ea ha=>by
   rw[zad (zab ea ht)];exact k6 _ _ (di a u ea ha) (by simp)
  refine⟨⟨_,_,_,rfl⟩,kt,bs++[c],es++[(zbk zs i,ru.drop j++ru.take j,q3)],b4,m4,⟨by rw[zac,Qt];rfl,?_,λe' he=>?_⟩,?_,(bA.keep k6 (by simp)).keep (xs:=[t]) (Keep.wr (by simp)) (by simpa using Zn ntp),λe' he=>?_,λe' he=>?_⟩
  ·exact zao (Paired.imp' (λa e h=>by rw[zad (tupt h)];exact h) W6.ts) (.cons (by rw[zad (tupt fA)];exact fA) .nil)
  ·rcases Qf.mp he with z | z
   ·rw[zad (iQ e' z)];exact W6.ro e' z
   ·rw[Qb.mp z];exact(zad nq3t).trans lF
  ·rw [Xt]
   exact zao T2 (.cons ⟨rfl,j,by rw[hg,eu]⟩ .nil)
  ·rcases Qf.mp he with z | z
   ·exact gU e' z
   ·rw[Qb.mp z];exact fq3
  ·rcases Qf.mp he with z | z
   ·exact iQ e' z
   ·rw[Qb.mp z];exact nq3t
 ·rintro σ H2 ⟨⟨x4,x5,x6,rfl⟩,k2,bs,es,b2,m2,W2,T2,aS,gU,iQ⟩
  have T2:TurnZ rr zs es (List.range rr.length):=by rw[gm]at T2;exact T2
  have ko:es.length=rr.length:=by rw[Zt T2,Wh]
  have da:bs.length=rr.length:=by rw[Zt W2.ts,ko]
  have cQ:(bs.map V.ref).length=rr.length:=by rw[Qa];exact da
  refine⟨_,rfl,_,rfl,t,_,rfl,.inl (SqL.of W2.ls),_,_,rfl,rfl,p,b2,m2,_,rfl,aS,by omega,by omega,λj4 b4 m4 H4 ji rD bA ij=>?_⟩
  have k4:=za8 ij
  obtain⟨j,rfl⟩:=Zm ji
  have hj:j≤rr.length:=by omega
  have di:Keep [p] H H4:=k2.trans k4
  have W4:RwAt H4 t bs es:=⟨k4 _ _ W2.ls (by simpa using ntp),Paired.imp' (λa e h=>k4 _ _ h (by simpa using za3 h aS.1 (by intro z;cases z))) W2.ts,λe he=>k4 _ _ (W2.ro e he) (by simpa using zf3 aS (W2.ro e he))⟩
  refine⟨_,rfl,_,rfl,_,rfl,t,_,rfl,SqL.of W4.ls,λq1 h1=>?_⟩
  have n1:t≠q1:=zab W4.ls h1
  refine⟨_,rfl,_,rfl,_,rfl,t,_,rfl,SqL.of (by rw[zad n1];exact W4.ls),λq2 h2=>?_⟩
  have dh:q1≠q2:=zab (o:=_) zac h2
  rw[zdy (by rw[cQ];exact hj),zhl (by rw[cQ];exact hj)]at *
  refine⟨q1,q2,_,_,rfl,rfl,(by rw[zad dh];exact zac),zac,by rw[Yj,Zc];omega,λq3 h3=>?_⟩
  rw[←Jk,←Ul,←Qt]at *
  have k5:Keep [] H4 (upd (upd (upd H4 q1 (.lst ((bs.drop j).map V.ref))) q2 (.lst ((bs.take j).map V.ref))) q3 (.lst ((bs.drop j++bs.take j).map V.ref))):=((Keep.new h1).trans (Keep.new h2)).trans (Keep.new h3)
  have fO:(upd (upd (upd H4 q1 (.lst ((bs.drop j).map V.ref))) q2 (.lst ((bs.take j).map V.ref))) q3 (.lst ((bs.drop j++bs.take j).map V.ref))) q3=some (.lst ((bs.drop j++bs.take j).map V.ref)):=zac
  generalize upd (upd (upd H4 q1 (.lst ((bs.drop j).map V.ref))) q2 (.lst ((bs.take j).map V.ref))) q3 (.lst ((bs.drop j++bs.take j).map V.ref))=H5 at k5 fO
  have W5:RwAt H5 q3 (bs.drop j++bs.take j) (es.drop j++es.take j):=⟨fO,by
   have:=(W4.keep k5).ts
   exact zao (zf8 j this) (zf7 j this),λe he=>(W4.keep k5).ro e (by
    rcases Qf.mp he with z | z
    ·exact Yy z
    ·exact Yp z)⟩
  have T5:TurnZ rr zs (es.drop j++es.take j) ((List.range rr.length).drop j++(List.range rr.length).take j):=zao (zf8 j T2) (zf7 j T2)
  have P5:((List.range rr.length).drop j++(List.range rr.length).take j).Perm (List.range rr.length):=Wc.trans (by rw[Zl])
  have f5:∀e∈es.drop j++es.take j,H e.2.2=none:=λe he=>gU e (by
    rcases Qf.mp he with z | z
    ·exact Yy z
    ·exact Yp z)
  have dw:(es.drop j++es.take j).length=rr.length:=by rw[Qm,Yj,Zc];omega
  have bf:=bA.keep k5 (by simp)
  have jS:Keep [p] H H5:=di.trans (k5.sub (by simp))
  generalize es.drop j++es.take j=jG at W5 T5 f5 dw
  generalize bs.drop j++bs.take j=bs5 at W5 fO
  generalize(List.range rr.length).drop j++(List.range rr.length).take j=ks at T5 P5
  have fin:∀(t':Nc) (fV:Nk) (ce:List Ent) (pG:List Nat) (b' m':Int) (H':Hp),RwAt H' t' fV ce→TurnZ rr zs ce pG→pG.Perm (List.range rr.length)→ce.length=rr.length→(∀e∈ce,H e.2.2=none)→Pot H' p b' m'→Keep [p] H H'→Q (.ref t') H':=λt' fV ce pG b' m' H' W' T' P' hl' f' bY k'=>by
   obtain⟨cs,aa,C⟩:=cert_Z hG cU (λz hz=>(dH z hz).1) T' P'
   refine k t' fV ce cs aa b' m' H' W' C (by omega) (λe he=>?_) f' bY k'
   have:e.1∈ce.map (·.1):=Ql.mpr ⟨e,he,rfl⟩
   rw[names_Z T']at this
   obtain⟨x,hx,ex⟩:=Ql.mp this
   have hx:=Yq.mp (P'.mem_iff.mp hx)
   rw[←ex,nameN_lt (by omega)]
   exact dH _ (Qq _)
  refine⟨_,rfl,p,b4,m4,2,rfl,bf,by decide,by decide,λj7 b7 m7 H7 h70 h71 cc nO=>?_⟩
  have k7:=za8 nO
  have n3p:q3≠p:=za3 fO bf.1 (by
   intro z
   have z':bs5.map V.ref=[.int b4,.int m4]:=by injection z
   cases bs5 with
   |nil=>cases z'
   |cons a bv=>rw[Qk]at z';injection z' with z1 _;cases z1)
  have W7:RwAt H7 q3 bs5 jG:=⟨k7 _ _ W5.ls (by simpa using n3p),Paired.imp' (λa e h=>k7 _ _ h (by simpa using za3 h bf.1 (by intro z;cases z))) W5.ts,λe he=>k7 _ _ (W5.ro e he) (by simpa using zf3 bf (W5.ro e he))⟩
  have fZ:=jS.trans k7
  refine⟨rfl,_,rfl,?_⟩
  refine ite2 (λ_=>?_) (λ_=>?_)
  ·refine ⟨_,rfl,q3,_,rfl,SqL.of W7.ls,fun q4 h4=>?_⟩
   have kn:Keep [] H7 (upd H7 q4 (.lst (bs5.map V.ref).reverse)):=Keep.new h4
   exact⟨_,rfl,fin q4 bs5.reverse jG.reverse ks.reverse b7 m7 _ ⟨by rw[zac,List.map_reverse],zhe (W7.keep kn).ts,λe he=>(W7.keep kn).ro e (Xl.mp he)⟩ (zhe T5) ((Uc ks).trans P5) (by rw[List.length_reverse];exact dw) (λe he=>f5 e (Xl.mp he)) (cc.keep kn (by simp)) (fZ.trans (kn.sub (by simp)))⟩
  ·exact⟨_,rfl,fin q3 bs5 jG ks b7 m7 H7 W7 T5 P5 dw f5 cc fZ⟩
end
end K21
end
section
namespace K21
open PySem L2 Wb
inductive IspDrawnD(vs:List V)(H:Hp)(Q:VK):Prop
 |mk (p:Nc) (b m:Int) (h0:vs=[.ref p]) (h1:Pot H p b m)
  (h2:∀(t:Nc) (bs:Nk) (es:List Ent) (cs:List (List (Str×Str))) (aa:Nu) (b' m':Int) (H':Hp),RwAt H' t bs es→Cert (es.map (·.1)) (row (rsOf es)) cs aa→es.length≤40→(∀e∈es,zc3 e.1∧e.1 ≠ "nobody")→Pot H' p b' m'→Keep [p] H H'→Q (.ref t) H'):IspDrawnD vs H Q
def spDrawnD:Sp:=λvs H Q _=>IspDrawnD vs H Q
section
variable{P:Ni}{w:Nl}{K:Na}{mg:Nf}{base:Nm}
def scDrawn:zap [qP,qR] [qP] (zag sDrawn):=fsk
def ok_drawn(F:Fun K "_law_drawn" "_law_drawn" sDrawn f fd)(FT:Fun K qG qG zej ft fdt)(bT:Binds K fdt [qP,qM] [])(mT:mg qG=some (.ref ft))(GT:FnOk P w K mg base CX0 1 ft fdt [qP,qM] zfx)(FR:Fun K "_law_rounds" "_law_rounds" zhz fr fdr)(bR:Binds K fdr [qP, "_law_most"] [])(mR:mg "_law_rounds" = some (.ref fr))(GR:FnOk P w K mg base CX0 4 fr fdr [qP, "_law_most"] spRoundsD)(FW:Fun K "_law_rows" "_law_rows" sRows fw fdw)(bW:Binds K fdw [qP,qR,qN] [])(mW:mg "_law_rows" = some (.ref fw))(GW:FnOk P w K mg base CX0 2 fw fdw [qP,qR,qN] spRowsD)(FN:Fun K "_law_names" "_law_names" sNames fn fdn)(bN:Binds K fdn [qP,qM] [])(mN:mg "_law_names" = some (.ref fn))(GN:FnOk P w K mg base CX0 2 fn fdn [qP,qM] spNames)(ad:mg "len" = none):FnOk P w K mg base CX0 5 f fd [qP] spDrawnD:=by
 refine F.okL scDrawn (λcdv A outer s H vs Q E hr h=>?_)
 obtain⟨p,b,m,rfl,hp,k⟩:=h
 have aI:Room 1 _:=hr.mono (by decide)
 have c9:Room 2 _:=hr.mono (by decide)
 have aT:=sizeLine_eq
 refine⟨_,zae (zau 1 scDrawn.nd (zam GR hr rfl mR FR.kp bR .nil za0 (zaa (pv 0) (zaa (zbg zat (zbj (zaa zai (zaa zai (zaa zai (zaa zai zaf))))) (zam GT aI rfl mT FT.kp bT .nil za0 (zaa (pv 0) (zaa zai zaf))) (λ_ _=>rfl)) zaf))))
  (zah (zbe (zam GW c9 rfl mW FW.kp bW .nil za0 (zaa (pv 0) (zaa (pv 1) (zaa (zam GN c9 rfl mN FN.kp bN .nil za0 (zaa (pv 0) (zaa (zaj zan (by rfl) ad Zz (zaa (pv 1) zaf)) zaf))) zaf)))))),?_⟩
 refine⟨_,rfl,(by show 4≤sizeLine;decide),λq hq=>?_⟩
 have k1:Keep [] H (upd H q (.lst [.int 12,.int 12,.int 16,.int 40])):=Keep.new hq
 have gh:(upd H q (.lst [.int 12,.int 12,.int 16,.int 40])) q=some (.lst [.int 12,.int 12,.int 16,.int 40]):=zac
 generalize upd H q (.lst [.int 12,.int 12,.int 16,.int 40])=H1 at k1 gh
 have dO:=hp.keep k1 (by simp)
 refine⟨_,rfl,p,b,m,4,rfl,dO,by decide,by decide,λj2 b2 m2 H2 h20 h21 aS kR=>?_⟩
 obtain⟨j,rfl⟩:=Zm h20
 have nqp:q≠p:=Zn (zab hp.1 hq)
 have cr:=kR _ _ gh nqp
 have k2:Keep [p] H H2:=(k1.sub (by simp)).trans (za8 kR)
 have hj:j<4:=by omega
 obtain⟨n,hn,fS⟩:∃n:Nat,n≤40∧atI [V.int 12,.int 12,.int 16,.int 40] (j:Int)=some (iV n):=by
  have:∀j:Fin 4,[V.int 12,.int 12,.int 16,.int 40][j.1]?=some (iV ([12,12,16,40].getD j.1 0))∧[12,12,16,40].getD j.1 0≤40:=by decide
  exact⟨_,(this ⟨j,hj⟩).2,zax (this ⟨j,hj⟩).1⟩
 refine⟨q,_,_,_,rfl,rfl,SqL.of cr,fS,p,b2,m2,n,rfl,aS,hn,λl as rr b3 m3 H3 R3 hG aR ba bz _ _ k3=>?_⟩
 have gm:(as.map V.ref).length=rr.length:=by rw[Qa];exact R3.len
 refine⟨_,rfl,_,rfl,_,rfl,_,rfl,l,_,rfl,.inl (SqL.of R3.ls),p,b3,m3,rr.length,by rw[gm];rfl,ba,aR,λnl zs b4 m4 H4 on cV cU dH bA _ k4=>?_⟩
 have nlp:=pot_l ba R3
 have R4:=R3.keep k4 (by simpa using nlp) λa ha z=>bz (by rw[Qb]at z;exact z▸ha)
 exact⟨p,l,nl,b4,m4,as,rr,zs,rfl,bA,R4,hG,aR,on,cV,cU,dH,bz,λt bs es cs aa b5 m5 H5 W C hl ok _ bf k5=>k t bs es cs aa b5 m5 H5 W C hl ok bf (((k2.trans k3).trans k4).trans k5)⟩
end
end K21
end
section
namespace L2
open PySem PySem.Spec PyProof.Rows
section
variable{X:Cx}
def zit:zb3 X (.builtin "isinstance") (λxs H Q=>Ex2 λ(a:Nc) (ys:List V)=>Aj3 (xs=[.ref a,.ty "list"]) (SqL X.K H a ys) (Q (.bl true) H)):=by
 intro a7 s σ H xs us Q I r h
 obtain⟨a,ys,rfl,hq,q⟩:=h
 obtain⟨u,w',rfl,e1,e⟩:=vals2 r
 have e':w'=Value.type "list" := e
 subst e'
 cases e1
 obtain⟨a8,rv,pl,_⟩:=I.list hq
 obtain⟨o,ho,hc,_⟩:=pl.isList
 exact IsiPair.list_list ho hc ⟨.bl true,H,I,rfl,q⟩
def zfh{K:Na}(hK:X.K=K):zb3 X (.builtin "isinstance") (λxs H Q=>Ex5 λ(a C:Nc) (c:V) (u:Value) (b:Bool)=>Aj6 (xs=[.ref a,c]) (H a=some (ExO a (.ref C))) (ExI K C) (∀u',RelV c u'→u'=u) (PySem.W.kitOne K (.ref C) u=some b) (Q (.bl b) H)):=hK▸call_isi_ex
end
section
variable{X:Cx}{K:Na}{o e tg l:Expr}{es:No}{to tl:TE}{t:TA}{name:Str}{apos cpos:Pos}{T id:String}{r:V→List V→Hp→VK→Prop}
end
section
variable{X:Cx}{CX:CXT}{k:Nat}{f C:Nc}{fd:Nr}{ps:Nj}{sp:Sp}{dvs:List V}{ds:Nh}{E:St→XK}{m:Str}{pos apos:Pos}{e o:Expr}{es:No}{ta:TE}{t:TA}
def tMethS(C:Nc)(m:Str)(sp:Sp)(dvs:List V)(E:St→XK)(ta:TE)(t:TA):TE:=λ σ H Q=>ta σ H λx H1=>RMe C m x H1 <|
 t σ H1 λvs H2=>sp (x::(vs++dvs)) H2 Q (E σ)
def pe_methS{pl:Sem Bool}(he:PE X o ta)(c:Cls X.K C)(hm:Meth X.K C m f)(F:FnOk X.prog X.w X.K X.mg X.base CX k f fd ps sp)(hr:Room k X.A)(hb:Binds X.K fd ps ds)(hd:Vals dvs ds)(hx:PassesS CX X E)(ha:PA X (e::es) t)(az:starEach (e::es) X.env=(false,eval e X.env)::starEach es X.env:=by rfl)(cE:(backTo pos (starEach es X.env)).any (·.1)=false:=by rfl)(ht:eval (.Call (.Attribute o m apos) (e::es) [] pos) X.env=(do
   let ov ←eval o X.env
   standAt apos.atName
   let(f,first) ←holding [ov] (getMethod ov m pl)
   callWith pos f first (backTo pos (starEach (e::es) X.env)) (backToKw pos (keywordEach [] X.env))):=by rfl) :
  PE X (.Call (.Attribute o m apos) (e::es) [] pos) (tMethS C m sp dvs E ta t):=by
 intro a7 s σ H Q I h
 refine Kf (pl:=pl) (thn (he a7 s σ H _ I h) λu s1 ⟨x,H1,I1,rx,a,dx,fs,ex,ea,l,q⟩=>?_) ht
 subst ex
 obtain rfl:u=Value.ref a:=rx
 refine zdx I1 ea c hm l ?_
 refine Ku (first:=[.ref a]) (h₀:=X.base) I.ok.mod.kin hm.kp (thn (ha pos a7 s1 σ H1 _ I1 q) λus s2 ⟨vs,H2,I2,r,q2⟩=>⟨I2.kIn,?_⟩) az cE
 exact run_fnS (us:=.ref a::us) (vs:=.ref a::vs) F hr hb hd hx I2 (.cons rfl r) q2
end
end L2
end
section
namespace K21
open PySem L2 Wb PySem.W
abbrev zh2:Stmt:=top 32
abbrev rot(zs:Nj)(j:Nat):List Str:=zs.drop j++zs.take j
def rot_lt{zs:Nj}(hz:zs≠[]){j:Nat}(h:j≤zs.length):∃i,∃hi:i<zs.length,rot zs j=rot zs i∧∃t,rot zs i=zs[i]::t:=by
 have hp:0<zs.length:=Uf.mpr hz
 by_cases hj:j<zs.length
 ·exact⟨j,hj,rfl,zs.drop (j+1)++zs.take j,by unfold rot;rw[List.drop_eq_getElem_cons hj];rfl⟩
 ·have e:j=zs.length:=by omega
  refine⟨0,hp,?_,zs.drop 1,?_⟩
  ·unfold rot;rw[e,List.drop_length,List.take_length];simp
  ·unfold rot;rw[List.drop_eq_getElem_cons hp];simp
def rot_one{zs:Nj}(nd:zs.Nodup){j k:Nat}(hj:j≤zs.length)(hk:k≤zs.length)(h1:Frst (rot zs j))(h2:Frst (rot zs k)):rot zs j=rot zs k:=by
 by_cases hz:zs=[]
 ·rw[hz];unfold rot;simp
 obtain⟨i,hi,e1,t1,q1⟩:=rot_lt hz hj
 obtain⟨i2,aw,e2,t2,q2⟩:=rot_lt hz hk
 have mem:∀m y,y∈zs→y∈rot zs m:=λm y hy=>by
  rw[←Zl m zs]at hy
  exact Qf.mpr (Qf.mp hy).symm
 have a1:leS zs[i] zs[i2]:=h1 _ t1 (e1.trans q1) _ (mem j _ (Qq aw))
 have a2:leS zs[i2] zs[i]:=h2 _ t2 (e2.trans q2) _ (mem k _ (Qq hi))
 have:=(Wn nd).mp (leS_antisymm a1 a2)
 subst this
 rw[e1,e2]
inductive IspLLeast(vs:List V)(H:Hp)(Q:VK):Prop
 |mk (a:Nc) (zs:Nj) (h0:vs=[.ref a]) (h1:H a=some (.lst (zs.map V.str))) (h2:zs.length≤100) (h3:∀(l:Nc) (j:Nat) (H':Hp),j≤zs.length→Frst (rot zs j)→H' l=some (.lst ((rot zs j).map V.str))→H l=none→Keep [] H H'→Q (.ref l) H'):IspLLeast vs H Q
def spLLeast:Sp:=λvs H Q _=>IspLLeast vs H Q
section
variable{P:Ni}{w:Nl}{K:Na}{mg:Nf}{base:Nm}
def scLLeast:zap ["_law_around", "_law_at"] ["_law_around"] (zag zh2):=fsk
def ok_lleast(F:Fun K "_law_from_least" "_law_from_least" zh2 f fd)(cN:mg "min" = none):FnOk P w K mg base CX0 1 f fd ["_law_around"] spLLeast:=by
 refine F.okL scLLeast (λcdv A outer s H vs Q E hr h=>?_)
 obtain⟨a,zs,rfl,ha,hz,k⟩:=h
 have hu:=zck hr
 have dJ:=Ky hu
 have aT:=sizeLine_eq
 refine⟨_,zae (zcc (za5 (op_eq_nil dJ) (pv 0) (zbj zaf) (zbt _)) (zah (zbe (zbj zaf))) zba)
  (zae (zau 1 scLLeast.nd (zcj Qy Jc Jb zel (pv 0) (zaa (zaj (zev rfl) (by rfl) cN Kg (zaa (pv 0) zaf)) zaf)))
  (zah (zbe (zav zek (zbu zcs (pv 0) (zb5 (pv 1)) zbz) (zbu zcs (pv 0) zbz (zb5 (pv 1))))))),?_⟩
 have cQ:(zs.map V.str).length=zs.length:=Qa ..
 refine⟨_,rfl,(by show 0≤sizeLine;decide),λq hq=>?_⟩
 have naq:a≠q:=zab ha hq
 have k1:Keep [] H (upd H q (.lst [])):=Keep.new hq
 have hW:(upd H q (.lst [])) a=some (.lst (zs.map V.str)):=by rw[zad naq];exact ha
 refine⟨a,q,_,rfl,rfl,SqL.of hW,SqL.of zac,_,rfl,?_⟩
 generalize upd H q (.lst [])=H1 at k1 hW
 by_cases gG:zs=[]
 ·subst gG
  refine zb6 rfl ⟨(by show 0≤sizeLine;decide),λl hl=>?_⟩
  exact k l 0 _ (Qd _) (λy t e=>by cases e) zac (zas k1 hl (by simp)) (k1.trans (Keep.new hl))
 refine zbw (by cases zs with
  |nil=>exact absurd rfl gG
  |cons _ _=>rfl) ?_
 refine⟨_,rfl,.inl ⟨rfl,_,SqL.of hW⟩,_,rfl,a,zs,rfl,SqL.of hW,gG,λz bw cV=>?_⟩
 obtain⟨i1,i2⟩:=index_of bw
 have hj:zs.idxOf z≤zs.length:=Zo (zgs bw)
 refine⟨a,_,_,_,rfl,rfl,hW,rfl,zcm _,i1,i2,?_⟩
 refine⟨_,rfl,_,rfl,_,rfl,a,_,rfl,SqL.of hW,λp1 h1=>?_⟩
 have n1:a≠p1:=zab hW h1
 refine⟨_,rfl,_,rfl,_,rfl,a,_,rfl,SqL.of (by rw[zad n1];exact hW),λp2 h2=>?_⟩
 have dh:p1≠p2:=zab (o:=_) zac h2
 rw[zdy (by rw[cQ];exact hj),zhl (by rw[cQ];exact hj)]at *
 refine⟨p1,p2,_,_,rfl,rfl,(by rw[zad dh];exact zac),zac,by rw[Yj,Zc];omega,λp3 h3=>?_⟩
 refine k p3 (zs.idxOf z) _ hj (λy t e w hw=>?_) (by rw[zac,←Jk,←Ul,←Qt]) (zas (xs:=[]) ((k1.trans (Keep.new h1)).trans (Keep.new h2)) h3 (by simp)) (((k1.trans (Keep.new h1)).trans (Keep.new h2)).trans (Keep.new h3))
 have hy:y=z:=by
  unfold rot at e
  rw[We (zgs bw),Jf]at e
  injection e with e _
  exact e.symm
 rw[hy]
 exact cV w (by
  rcases Qf.mp hw with q | q
  ·exact Yy q
  ·exact Yp q)
end
end K21
end
section
namespace L2
open PySem PySem.Spec PyProof.Rows
def pss_no{X:Cx}{l:List Stmt}:PSs X l (λ_ _ _=>False):=λ_ _ _ _ _ _ h=>h.elim
end L2
namespace K21
open PySem L2 Wb PySem.W
abbrev zfn:Stmt:=inClass sWeb 2
abbrev sTied:Stmt:=inClass sWeb 4
abbrev sWord:Stmt:=top 33
inductive zhp(C:Nc)(vs:List V)(H:Hp)(Q:VK):Prop
 |mk (x dx d:Nc) (es:List Ent) (e:Ent) (h0:vs=[.ref x,.str e.1]) (h1:WAt H C x dx d es) (h2:e∈es) (h3:∀l,H l=none→Q (.ref l) (upd H l (.lst (e.2.1.map V.str)))):zhp C vs H Q
def spRoundOf(C:Nc):Sp:=λvs H Q _=>zhp C vs H Q
inductive IspRoundX(C cp:Nc)(vs:List V)(H:Hp)(E:XK):Prop
 |mk (x dx d:Nc) (es:List Ent) (s:Str) (h0:vs=[.ref x,.str s]) (h1:WAt H C x dx d es) (h2:s∉es.map (·.1)) (h3:E (.ref cp) none H):IspRoundX C cp vs H E
def spRoundX(C cp:Nc):Sp:=λvs H _ E=>IspRoundX C cp vs H E
structure Kd(K:Na)(cp he:Nc):Prop where
 ex:ExI K cp
 kh:kitOne K (.ref cp) (.ref he)=some true
 kv:kitOne K (.ref cp) (.type "ValueError")=some true
 em:exmOne K (.ref cp) (.ref cp)=some true
inductive IspWord(C:Nc)(vs:List V)(H:Hp)(Q:VK):Prop
 |mk (x dx d:Nc) (es:List Ent) (s:Str) (h0:vs=[.ref x,.str s]) (h1:WAt H C x dx d es) (h2:s∉es.map (·.1)) (h3:∀l H',H' l=some (.lst ([true,true].map V.bl))→Keep [] H H'→Q (.ref l) H'):IspWord C vs H Q
def spWord(C:Nc):Sp:=λvs H Q _=>IspWord C vs H Q
inductive IspTied(C:Nc)(vs:List V)(H:Hp)(Q:VK):Prop
 |mk (x dx d:Nc) (es:List Ent) (a b:Str) (h0:vs=[.ref x,.str a,.str b]) (h1:WAt H C x dx d es) (h3:∀H',Keep [] H H'→Q (.bl (decide (b∈row (rsOf es) a))) H'):IspTied C vs H Q
def spTied(C:Nc):Sp:=λvs H Q _=>IspTied C vs H Q
section
variable{P:Ni}{w:Nl}{K:Na}{mg:Nf}{base:Nm}
def scRoundOf:zap ["self", "place"] ["self", "place"] (zag zfn):=fsk
def ok_roundof(F:Fun K "round_of" "Web.round_of" zfn f fd)(cW:Cls K C)(nW:zdf K C "rounds")(aV:mg "list" = none):FnOk P w K mg base CX0 1 f fd ["self", "place"] (spRoundOf C):=by
 refine F.okL scRoundOf (λcdv A outer s H vs Q E hr h=>?_)
 obtain⟨x,dx,d,es,e,rfl,wt,he,k⟩:=h
 have hu:=zck hr
 refine⟨_,zae (zcc (zhc (zdk hu (pv 1) (zf6 (pv 0) rfl))) (zah zfi) zba)
  (zah (zbe (zca zdp (by rfl) aV Je (zaa (zh8 hu (zf6 (pv 0) rfl) (pv 1)) zaf)))),?_⟩
 have g:=DGet.k (k:=Sum.inr e.1) wt.ta.dc
 rw[zeb wt.ta.nd he]at g
 refine⟨_,rfl,_,rfl,x,C,dx,_,_,rfl,wt.ob,cW,nW,rfl,d,_,rfl,g,_,rfl,zbw rfl ?_⟩
 exact⟨_,rfl,x,C,dx,_,_,rfl,wt.ob,cW,nW,rfl,_,rfl,d,_,rfl,g,e.2.2,_,rfl,.inr (SqT.of (wt.ta.ro e he)),k⟩
def ok_roundX(F:Fun K "round_of" "Web.round_of" zfn f fd)(cW:Cls K C)(nW:zdf K C "rounds")(cP:Exc K cp)(mP:mg "NoPlace" = some (.ref cp)):FnOk P w K mg base (CXr P w) 1 f fd ["self", "place"] (spRoundX C cp):=by
 refine F.okX scRoundOf (λvs H Q E h=>by cases h;subst_vars;rfl) (λcdv A outer s0 H vs Q E hr h=>?_)
 obtain⟨x,dx,d,es,s,rfl,wt,hs,q⟩:=h
 have hu:=zck hr
 refine⟨_,zae (zcc (zhc (zdk hu (pv 1) (zf6 (pv 0) rfl))) (zah (ps_raise cP rfl mP (zaa zdd zaf))) zba) pss_no,?_⟩
 have g:=DGet.k (k:=Sum.inr s) wt.ta.dc
 rw[zhs hs]at g
 exact⟨_,rfl,_,rfl,x,C,dx,_,_,rfl,wt.ob,cW,nW,rfl,d,_,rfl,g,_,rfl,zb6 rfl ⟨by show 1≤sizeLine;decide,q⟩⟩
def scTied:zap ["self", "one", "other"] ["self", "one", "other"] (zag sTied):=fsk
def ok_tied(F:Fun K "is_tied" "Web.is_tied" sTied f fd)(cW:Cls K C)(nW:zdf K C "rounds"):FnOk P w K mg base CX0 1 f fd ["self", "one", "other"] (spTied C):=by
 refine F.okL scTied (λcdv A outer s H vs Q E hr h=>?_)
 obtain⟨x,dx,d,es,a,b,rfl,wt,k⟩:=h
 have hu:=zck hr
 refine⟨_,zah (zbe (pe_cmpR zgb (pv 2) (pe_dget2 hu (zf6 (pv 0) rfl) (pv 1) (zdj zaf) ⟨rfl,rfl,rfl,rfl⟩) rfl)),?_⟩
 refine⟨_,rfl,_,rfl,x,C,dx,_,_,rfl,wt.ob,cW,nW,rfl,d,rfl,.inl ⟨_,.inl wt.ta.dc⟩,_,rfl,(by show 0≤sizeLine;decide),λq hq=>?_⟩
 have k1:Keep [] H (upd H q (.tup [])):=Keep.new hq
 have gh:(upd H q (.tup [])) q=some (.tup (([]:List Str).map V.str)):=zac
 have fX:WAt (upd H q (.tup [])) C x dx d es:=wt.keep k1 (by simp) (by simp) λ_ _=>by simp
 generalize upd H q (.tup [])=H1 at k1 fX gh
 have key:=k H1 k1
 by_cases ha:a∈es.map (·.1)
 ·obtain ⟨e,he,ea⟩:=Ql.mp ha
  have ea':e.1=a:=ea
  subst ea'
  have g:=DGet.k (k:=Sum.inr e.1) fX.ta.dc
  rw[zeb fX.ta.nd he]at g
  refine⟨_,g,e.2.2,_,rfl,.inr (SqT.of (fX.ta.ro e he)),rfl,zcm _,?_⟩
  rw[zbp fX.ta.nd he]at key
  rw[ze3]
  exact key
 ·have g:=DGet.k (k:=Sum.inr a) fX.ta.dc
  rw[zhs ha]at g
  have gf:row (rsOf es) a=[]:=zcu (by unfold rsOf;rw[List.map_map];exact ha)
  rw[gf]at key
  refine⟨_,g,q,_,rfl,.inr (SqT.of gh),rfl,zcm _,?_⟩
  rw[ze3]
  exact key
def scWord:zap ["_law_web", "_law_name", "_law_told", "e"] ["_law_web", "_law_name"] (zag sWord):=fsk
def ok_word(F:Fun K "_law_word" "_law_word" sWord f fd)(cW:Cls K C)(kd:Kd K cp he)(mP:mg "NoPlace" = some (.ref cp))(mE:mg "HueError" = some (.ref he))(cB:mg "isinstance" = none)(hve:mg "ValueError" = none)(mR:Meth K C "round_of" fr)(bR:Binds K fdr ["self", "place"] [])(GR:FnOk P w K mg base (CXr P w) 1 fr fdr ["self", "place"] (spRoundX C cp)) :
  FnOk P w K mg base CX0 2 f fd ["_law_web", "_law_name"] (spWord C):=by
 refine F.okL scWord (λcdv A outer s0 H vs Q E hr h=>?_)
 obtain⟨x,dx,d,es,s,rfl,wt,hs,kq⟩:=h
 refine⟨_,zae (zau 2 scWord.nd (zbj zaf))
  (zae (ps_try (i:=3) (EX:=fun σ cls dd H'=>Aj3 (Ex1 fun l=>σ=[some (.ref x),some (.str s),l,none]) (cls=.ref cp) (Keep [] H H')) rfl rfl rfl
   (λE' pn hp=>zah (zay (pe_methS (pl:=_) (pv 0) cW mR GR hr bR .nil hp (zaa (pv 1) zaf))))
   (fun a=>zah (zau 2 scWord.nd (zbj (zaa (zaj (zfh (K:=K) rfl) (by rfl) cB Ue (zaa (pv 3) (zaa (pe_glob (v:=.ref he) (by rfl) mE rfl) zaf)))
    (zaa (zaj (zfh (K:=K) rfl) (by rfl) cB Ue (zaa (pv 3) (zaa (pe_tyN (T := "ValueError") rfl hve PyProof.Rows.Boot.«ValueError») zaf))) zaf))))) scWord.nd rfl rfl rfl mP)
  (zah (zbe (pv 2)))),?_⟩
 refine⟨(by show 0≤sizeLine;decide),λtl gc=>?_⟩
 have k1:Keep [] H (upd H tl (.lst [])):=Keep.new gc
 generalize upd H tl (.lst [])=H1 at k1
 have fX:WAt H1 C x dx d es:=wt.keep k1 (by simp) (by simp) λ_ _=>by simp
 refine⟨⟨_,rfl,x,dx,_,rfl,fX.ob,rfl,_,rfl,x,dx,d,es,s,rfl,fX,hs,⟨_,rfl⟩,rfl,k1⟩,?_⟩
 rintro σ' cls H' a hl ⟨⟨l,rfl⟩,rfl,k2⟩ na
 have k4:Keep [] H (upd H' a (ExO a (.ref cp))):=k2.trans (Keep.new na)
 refine⟨kd.em,_,rfl,a,cp,.ref he,.ref he,true,rfl,zac,kd.ex,λ_ h=>h,kd.kh,_,rfl,a,cp,.ty "ValueError",.type "ValueError",true,rfl,zac,kd.ex,λ_ h=>h,kd.kv,(by show 2≤sizeLine;decide),λl hl=>⟨_,rfl,?_⟩⟩
 exact kq l _ zac (k4.trans (Keep.new hl))
end
end K21
end
section
namespace L2
open PySem PySem.Spec PyProof.Rows
def zg7(H:Hp):Nat→V→V→Prop
 |0,x,y=>zdo x=true∧x=y
 |n+1,x,y=>(zdo x=true∧x=y)∨∃a b xs ys,x=.ref a∧y=.ref b∧a≠b∧((H a=some (.lst xs)∧H b=some (.lst ys))∨(H a=some (.tup xs)∧H b=some (.tup ys)))∧Paired (zg7 H n) xs ys
def paired_get{α β:Type}{R:α→β→Prop}{as:List α}{bs:List β}(r:Paired R as bs):∀(j:Nat) (h1:j<as.length) (h2:j<bs.length),R as[j] bs[j]:=by
 induction r with
 |nil=>intro j h1;cases h1
 |cons h t ih =>
  intro j h1 h2
  cases j with
  |zero=>exact h
  |succ j=>exact ih j (Nat.lt_of_succ_lt_succ h1) (Nat.lt_of_succ_lt_succ h2)
section
variable{X:Cx}{a7:Nd}{σ:St}{H:Hp}{s:Ng}
def zdw{R:V→V→Prop}{A:Nn}{xs ys:List V}{a8 ay:Nh}(r:Vals xs a8)(r2:Vals ys ay)(pr:Paired R xs ys)(h:∀x y u v,R x y→RelV x u→RelV y v→SeqAt.EqAt A s u v true) :
  ∀j (h1:j<a8.toArray.size) (h2:j<ay.toArray.size),SeqAt.EqAt A s a8.toArray[j] ay.toArray[j] true:=by
 intro j h1 h2
 rw[Qn]at h1 h2
 have a1:j<xs.length:=by rw[r.length];exact h1
 have a2:j<ys.length:=by rw[r2.length];exact h2
 obtain⟨u1,e1,q1⟩:=r.get (Qc a1)
 obtain⟨u2,e2,q2⟩:=r2.get (Qc a2)
 rw[Uy,Uy,(Zd.mp e1).2,(Zd.mp e2).2]
 exact h _ _ _ _ (paired_get pr j a1 a2) q1 q2
def same_at(I:Inv X a7 σ H s):∀ (n:Nat) (A:Nn) (x y:V) (u v:Value),zg7 H n x y→RelV x u→RelV y v→A.units+n < cLine→SeqAt.EqAt A s u v true:=by
 have fl:∀(A:Nn) (x y:V) (u v:Value),zdo x=true∧x=y→RelV x u→RelV y v→SeqAt.EqAt A s u v true:=λA x y u v ⟨f,e⟩ rx ry=>by
  subst e
  have:=eqAt_V (A:=A) (s:=s) rx ry f f
  rw[eqV_self f]at this
  exact this
 intro n
 induction n with
 |zero=>intro A x y u v h rx ry _;exact fl A x y u v h rx ry
 | succ n ih =>
  intro A x y u v h rx ry hu
  rcases h with h | ⟨a,b,xs,ys,rfl,rfl,ne,hc,pr⟩
  ·exact fl A x y u v h rx ry
  ·cases rx;cases ry
   have dJ:A.in1.units+n<cLine:=by
    have:A.in1.units=A.units+1:=rfl
    omega
   have hu0:A.units<cLine:=by omega
   have hl:=Zt pr
   refine SeqAt.EqAt.of_refs ne ?_
   rcases hc with⟨h1,h2⟩ | ⟨h1,h2⟩
   ·obtain ⟨a8,r,pl,_⟩:=I.list (X:=X) (SqL.of h1)
    obtain⟨ay,r2,dG,_⟩:=I.list (X:=X) (SqL.of h2)
    have l1:=r.length
    have l2:=r2.length
    have:=SeqAt.RcAt.lists (A:=A) (s:=s) (e:=λ_=>true) pl.isList dG.isList (by rw[Qn,Qn];omega) hu0 (zdw r r2 pr λx y u v q1 q2 q3=>ih A.in1 x y u v q1 q2 q3 dJ)
    rw[show(List.range a8.toArray.size).all (λ_=>true)=true by simp]at this
    exact this
   ·obtain ⟨a8,r,pl,_⟩:=I.tuple (X:=X) (SqT.of h1)
    obtain⟨ay,r2,dG,_⟩:=I.tuple (X:=X) (SqT.of h2)
    have l1:=r.length
    have l2:=r2.length
    have:=SeqAt.RcAt.tuples (A:=A) (s:=s) (e:=λ_=>true) pl dG hu0 (zdw r r2 pr λx y u v q1 q2 q3=>ih A.in1 x y u v q1 q2 q3 dJ)
    rw[show((List.range (min a8.toArray.size ay.toArray.size)).all (λ_=>true)&&a8.toArray.size==ay.toArray.size)=true by simp;omega]at this
    exact this
def op_eq_deep(hu:X.A.units+4<cLine):OpR X (compareOp .Eq) (λx y H Q=>Ex4 λa b xs ys=>Aj6 (x=.ref a) (y=.ref b) (H a=some (.lst xs)) (H b=some (.lst ys)) (Paired (zg7 H 3) xs ys) (Q (.bl true) H)):=by
 intro a7 s σ H x y v u Q I rx ry h
 obtain⟨a,b,xs,ys,rfl,rfl,h1,h2,pr,q⟩:=h
 cases rx;cases ry
 obtain⟨a8,r,pl,_⟩:=I.list (X:=X) (SqL.of h1)
 obtain⟨ay,r2,dG,_⟩:=I.list (X:=X) (SqL.of h2)
 have l1:=r.length
 have l2:=r2.length
 have hl:=Zt pr
 have dJ:X.A.in1.units+3<cLine:=by
  have:X.A.in1.units=X.A.units+1:=rfl
  omega
 refine SeqAt.eq_listAt (e:=λ_=>true) pl.isList dG.isList (by rw[Qn,Qn];omega) (by omega) (zdw r r2 pr λx y u v q1 q2 q3=>same_at I 3 X.A.in1 x y u v q1 q2 q3 dJ) ⟨.bl true,H,I,?_,q⟩
 show Value.bool _=Value.bool true
 simp
def op_ne_deep(hu:X.A.units+4<cLine):OpR X (compareOp .NotEq) (λx y H Q=>Ex4 λa b xs ys=>Aj6 (x=.ref a) (y=.ref b) (H a=some (.lst xs)) (H b=some (.lst ys)) (Paired (zg7 H 3) xs ys) (Q (.bl false) H)):=by
 intro a7 s σ H x y v u Q I rx ry h
 obtain⟨a,b,xs,ys,rfl,rfl,h1,h2,pr,q⟩:=h
 cases rx;cases ry
 obtain⟨a8,r,pl,_⟩:=I.list (X:=X) (SqL.of h1)
 obtain⟨ay,r2,dG,_⟩:=I.list (X:=X) (SqL.of h2)
 have l1:=r.length
 have l2:=r2.length
 have hl:=Zt pr
 have dJ:X.A.in1.units+3<cLine:=by
  have:X.A.in1.units=X.A.units+1:=rfl
  omega
 refine SeqAt.RcNeAt.lists (e:=λ_=>true) pl.isList dG.isList (by rw[Qn,Qn];omega) (by omega) (zdw r r2 pr λx y u v q1 q2 q3=>same_at I 3 X.A.in1 x y u v q1 q2 q3 dJ) _ _ _ _ ⟨.bl false,H,I,?_,q⟩
 show Value.bool _=Value.bool false
 simp
end
def ziq{X:Cx}{K:Na}(hK:X.K=K):zb3 X (.type "list") (λxs H Q=>Ex2 λp ys=>Aj3 (xs=[.ref p]) ((SqL K H p ys)∨(SqT K H p ys)) (∀l,H l=none→Q (.ref l) (upd H l (.lst ys)))):=hK▸zdp
end L2
namespace K21
open PySem L2 Wb PySem.W
abbrev sMade:Stmt:=top 34
inductive IspMade(C:Nc)(vs:List V)(H:Hp)(Q:VK):Prop
 |mk (l:Nc) (bs:Nk) (es:List Ent) (cs:List (List (Str×Str))) (aa:Nu) (h0:vs=[.ref l]) (h1:RwAt H l bs es) (h2:es.length≤40) (h3:∀e∈es,zc3 e.1) (h4:Cert (es.map (·.1)) (row (rsOf es)) cs aa)
  (h5:∀(x dx d:Nc) (ts:List Ent) (H':Hp),WAt H' C x dx d ts→(ts.map (·.1)).Perm (es.map (·.1))→(∀y,∃k,row (rsOf ts) y=rot (row (rsOf es) y) k)→(∀e∈ts,Frst e.2.1)→(ts.map (·.1)).Pairwise leS→H x=none→Keep [] H H'→Q (.ref x) H'):IspMade C vs H Q
def spMade(C:Nc):Sp:=λvs H Q _=>IspMade C vs H Q
abbrev csMa:Scope:=scOf (eOf (sAt sMade 0))
def csMa_k:csMa.kind=.function:=by rfl
def csMa_c:∀y∈csMa.names,y.2≠.cell:=by decide +kernel
def csMa_n:∀y∈csMa.names,y.2=.local→csMa.names.lookup y.1=some .local:=by decide +kernel
def csMa_f:∀y∈csMa.names,y.2=.free→(zag sMade).names.lookup y.1=some .cell∨(zag sMade).names.lookup y.1=some .free:=by decide +kernel
def ndMa:(["_law_place", "_law_around"]:List Str).Nodup:=by decide +kernel
abbrev SameR:List Ent→List Ent→Prop:=Paired λe' e=>e'.1=e.1∧e'.2.1=e.2.1
def sameR_rs(h:SameR ce es):rsOf ce=rsOf es:=by
 unfold rsOf
 induction h with
 |nil=>rfl
 |cons h _ ih=>rw[Qk,Qk,ih,h.1,h.2]
def sameR_names(h:SameR ce es):ce.map (·.1)=es.map (·.1):=by
 induction h with
 |nil=>rfl
 |cons h _ ih=>rw[Qk,Qk,ih,h.1]
def sameR_mem(h:SameR ce es)(he:e∈ce):∃e0∈es,e.1=e0.1∧e.2.1=e0.2.1:=by
 induction h with
 |nil=>cases he
 | cons h _ ih =>
  rcases Qh.mp he with z | z
  ·subst z;exact⟨_,Qe,h⟩
  ·obtain ⟨e0,h1,h2⟩:=ih z
   exact⟨e0,Qg _ h1,h2⟩
section
variable{P:Ni}{w:Nl}{K:Na}{mg:Nf}{base:Nm}
def scMade:zap ["_law_rows_here", "_law_handed", "_law_web", "_law_place", "_law_around"] ["_law_rows_here"] (zag sMade):=fsk
def ok_made(F:Fun K "_law_made" "_law_made" sMade f fd)(MW:Mk K C fi)(mW:mg "Web" = some (.ref C))(bI:Binds K fdi ["self", "rows"] [])(GI:FnOk P w K mg base CX0 4 fi fdi ["self", "rows"] (spInit C))(aV:mg "list" = none) :
  FnOk P w K mg base CX0 6 f fd ["_law_rows_here"] (spMade C):=by
 refine F.okL scMade (λcdv A outer s H vs Q E hr h=>?_)
 obtain⟨l,bs,es,cs,aa,rfl,R,bQ,hok,Ct,k⟩:=h
 have hu:=zck hr
 have pZ:(A.deeper (PyProof.Rows.envOfC "_law_made" (zag sMade) s.heap.objs.size f cdv)).units+4<cLine:=Wa (Kp (by decide:4≤64) _) hr.units
 have aT:=sizeLine_eq
 refine⟨_,zae (ps_lc (i:=1) (M:=["_law_place", "_law_around"]) (ix:=[none,none]) scMade.nd rfl rfl (noB (n:=2) csMa_k csMa_c csMa_n csMa_f rfl ndMa) rfl (za7 (pv 0))
    (λC a7 ex s H=>zf4 (K:=K) (n:=2) rfl rfl (za1 (zbf 0 ndMa) (za1 (zbf 1 ndMa) zcv))) (λC a7 ex s H=>zdi)
    (λC a7 ex s H=>zdj (zaa (pv 0) (zaa (zca (ziq (K:=K) rfl) (by rfl) (by exact aV) Je (zaa (pv 1) zaf)) zaf))) rfl)
  (zae (zau 2 scMade.nd (pe_make MW GI hr rfl mW bI .nil za0 (zaa (pv 1) zaf)))
  (zae (zcc (za5 (op_ne_deep pZ) (pv 1) (pv 0) (zbt _)) (zah zfi) zba)
  (zae (zbq Zq rfl (za7 (pv 1)) (zhd rfl (za1 (zbf 3 scMade.nd) (za1 (zbf 4 scMade.nd) zcv)))
   (zah (zay (zcj Qy Yb Ya zbc (pv 4) (zaa (pv 3) zaf)))))
  (zae (zay (pe_bm0 Qy PySem.F.slot_list_clear PySem.F.type_list_clear mt_lclear (pv 1)))
  (zah (zbe (pv 2))))))),?_⟩
 have aK:(es.map (·.1)).Nodup:=Ct.nd
 have aR:∀e∈es,e.2.1.length≤40:=λe he=>by
  have h1:e.2.1.Nodup:=by have:=Ct.rn e.1;rw[zbp aK he]at this;exact this
  have h2:∀y∈e.2.1,y∈es.map (·.1):=λy hy=>Ct.inn' (x:=e.1) (by rw[zbp aK he];exact hy)
  have:=zd1 h1 h2
  rw[Qa]at this
  omega
 have da:bs.length=es.length:=Zt R.ts
 refine⟨_,rfl,l,rfl,⟨_,SqL.of R.ls⟩,λi m ys τ H'=>Ex2 λ(ap:Nk) (es2:List Ent)=>Aj9 (m=es.length-i) (i≤es.length) (ys=ap.map V.ref) (Ex2 λx0 x1=>τ=[x0,x1]) (Paired (λa (e:Ent)=>H' a=some (.tup [.str e.1,.ref e.2.2])∧H a=none) ap es2) (∀e∈es2,H' e.2.2=some (.lst (e.2.1.map V.str))∧H e.2.2=none) (SameR es2 (es.take i)) True (Keep [] H H'),
  ⟨es.length,[],[],rfl,Zh _,rfl,⟨none,none,rfl⟩,.nil,(λe he=>by cases he),.nil,trivial,Keep.refl⟩,?_⟩
 rintro i m ys τ H1 ⟨ap,es2,rfl,hi,rfl,⟨x0,x1,rfl⟩,aQ,bG,cg,-,k1⟩
 have cS:ap.length=i:=by rw[Zt aQ,Zt cg,Zc];omega
 have R1:=R.keep k1
 by_cases ae:i<es.length
 ·have iX:i < bs.length:=by omega
  refine .inr ⟨⟨_,.ref bs[i],SqL.of R1.ls,by rw[Qr,Qc iX];rfl⟩,by rw[Qa];omega,?_⟩
  rintro v H2 ⟨rfl,hv⟩
  have dI:=hv _ (SqL.of R1.ls)
  rw[Qr,Qc iX]at dI
  obtain rfl:V.ref bs[i]=v:=Qs dI
  obtain⟨aw,bp⟩:=zaz R1.ts iX
  have aY:es[i]∈es:=Qq ae
  have tk:es.take (i+1)=es.take i++[es[i]]:=Qo ae
  have dL:=R1.ro _ aY
  generalize es[i]=e at aY tk bp dL
  refine⟨bs[i],_,rfl,SqT.of bp,rfl,_,_,rfl,_,_,rfl,rfl,_,rfl,_,rfl,e.2.2,_,rfl,.inl (SqL.of dL),λq hq=>⟨(by show 2≤sizeLine;decide),λt ht=>?_⟩⟩
  have k2:Keep [] H2 (upd H2 q (.lst (e.2.1.map V.str))):=Keep.new hq
  have cr:(upd H2 q (.lst (e.2.1.map V.str))) q=some (.lst (e.2.1.map V.str)):=zac
  have k3:Keep [] H2 (upd (upd H2 q (.lst (e.2.1.map V.str))) t (.tup [.str e.1,.ref q])):=k2.trans (Keep.new ht)
  have fq:H q=none:=zas k1 hq (by simp)
  have ft:H t=none:=zas (k1.trans k2) ht (by simp)
  refine⟨_,by exact zar1 ‹_›,ap++[t],es2++[(e.1,e.2.1,q)],rfl,ae,by rw[Qt];rfl,⟨_,_,rfl⟩,?_,λe' ax=>?_,?_,trivial,k1.trans k3⟩
  ·exact zao (Paired.imp' (λa e h=>⟨k3 _ _ h.1 (by simp),h.2⟩) aQ) (.cons ⟨zac,ft⟩ .nil)
  ·rcases Qf.mp ax with z | z
   ·exact⟨k3 _ _ (bG e' z).1 (by simp),(bG e' z).2⟩
   ·rw [Qb.mp z]
    exact⟨by rw[zad (zab cr ht)];exact cr,fq⟩
  ·rw[tk];exact zao cg (.cons ⟨rfl,rfl⟩ .nil)
 have gq:i=es.length:=by omega
 subst gq
 rw[Qu (Qd _)]at cg
 refine .inl ⟨⟨_,SqL.of R1.ls,by rw[Qa,da];exact Qd _⟩,λhd gS=>?_⟩
 have k2:Keep [] H1 (upd H1 hd (.lst (ap.map V.ref))):=Keep.new gS
 have gr:(upd H1 hd (.lst (ap.map V.ref))) hd=some (.lst (ap.map V.ref)):=zac
 have fhd:H hd=none:=zas k1 gS (by simp)
 have nlh:l≠hd:=zab R1.ls gS
 generalize upd H1 hd (.lst (ap.map V.ref))=H2 at k2 gr
 have RW2:RwAt H2 hd ap es2:=⟨gr,Paired.imp' (λa e h=>k2 _ _ h.1 (by simp)) aQ,λe he=>k2 _ _ (bG e he).1 (by simp)⟩
 have hrs:=sameR_rs cg
 have om:=sameR_names cg
 have ko:es2.length=es.length:=Zt cg
 refine⟨_,rfl,λx dx hx hdx aW=>?_⟩
 have k3:Keep [] H2 (upd (upd H2 dx (.own x)) x (.ins C dx [])):=λc u ec _=>by
  rw[zad (zab ec hx),zad (zab ec hdx)];exact ec
 have hx3:(upd (upd H2 dx (.own x)) x (.ins C dx [])) x=some (.ins C dx []):=zac
 generalize upd (upd H2 dx (.own x)) x (.ins C dx [])=H3 at k3 hx3
 have fx:H x=none:=zas (k1.trans k2) hx (by simp)
 refine⟨x,dx,hd,ap,es2,cs,aa,rfl,hx3,RW2.keep k3,by omega,λe he=>?_,by rw[om,hrs];exact Ct,λd2 ts es3 H4 wt bA ht4 cR dW k4=>⟨rfl,?_⟩⟩
 ·have:e.1∈es2.map (·.1):=Ql.mpr ⟨e,he,rfl⟩
  rw[om]at this
  obtain⟨e',ax,ee⟩:=Ql.mp this
  have nu:e'.1=e.1:=ee
  rw[←nu];exact hok e' ax
 have nV:Keep [] H2 H4:=λc u ec _=>k4 c u (k3 c u ec (by simp)) (by simpa using zab ec hx)
 have nX:Keep [] H H4:=(k1.trans k2).trans nV
 have nF:=RW2.keep nV
 have R4:=R.keep nX
 have lv:Paired (zg7 H4 3) (ap.map V.ref) (bs.map V.ref):=by
  have key:∀{ap bs:Nk} {es2 es:List Ent},Paired (λa (e:Ent)=>H4 a=some (.tup [.str e.1,.ref e.2.2])∧H a=none) ap es2→(∀e∈es2,H4 e.2.2=some (.lst (e.2.1.map V.str))∧H e.2.2=none)→SameR es2 es→Paired (λa (e:Ent)=>H a=some (.tup [.str e.1,.ref e.2.2])) bs es→(∀e∈es,H e.2.2=some (.lst (e.2.1.map V.str)))→Paired (zg7 H4 3) (ap.map V.ref) (bs.map V.ref):=by
   intro ap bs es2 es r1
   induction r1 generalizing bs es with
   |nil =>
    intro _ r2 r3 _
    cases r2;cases r3;exact .nil
   | @cons a e ap es2 h t ih =>
    intro c9 r2 r3 lD
    cases r2 with
    | @cons _ e' _ ce q2 t2 =>
     cases r3 with
     |@cons b _ bs _ q3 t3 =>
      refine .cons (.inr ⟨a,b,_,_,rfl,rfl,Zn (zab q3 h.2),.inr ⟨h.1,nX _ _ q3 (by simp)⟩,.cons (.inl ⟨rfl,by rw[q2.1]⟩) (.cons (.inr ⟨e.2.2,e'.2.2,_,_,rfl,rfl,Zn (zab (lD e' Qe) (c9 e Qe).2),.inl ⟨(c9 e Qe).1,nX _ _ (lD e' Qe) (by simp)⟩,?_⟩) .nil)⟩) (ih (λe he=>c9 e (Qg _ he)) t2 t3 λe he=>lD e (Qg _ he))
      rw[q2.2]
      generalize e'.2.1=zs
      induction zs with
      |nil=>exact .nil
      |cons z zs ihz=>exact .cons (.inl ⟨rfl,rfl⟩) ihz
  exact key (Paired.imp' (λa e h=>⟨nV _ _ (k2 _ _ h.1 (by simp)) (by simp),h.2⟩) aQ) (λe he=>⟨nV _ _ (k2 _ _ (bG e he).1 (by simp)) (by simp),(bG e he).2⟩) cg R.ts R.ro
 refine⟨_,rfl,_,rfl,hd,l,_,_,rfl,rfl,nF.ls,R4.ls,lv,_,rfl,iteF ?_⟩
 have qU:∀e∈es2,e.2.2≠hd:=λe he=>zab (bG e he).1 gS
 have mV:ap.length=es2.length:=Zt aQ
 have wkeep:∀{H':Hp} {q:Nc} {zs cH:List V},WAt H' C x dx d2 ts→H' q=some (.lst zs)→WAt (upd H' q (.lst cH)) C x dx d2 ts:=λ{H' q zs cH} w' hq=>w'.keep (xs:=[q]) (Keep.wr (by simp)) (by simpa using za3 w'.ob hq (by intro z;cases z)) (by simpa using za3 w'.ta.dc hq (by intro z;cases z)) λe he=>by simpa using za3 (w'.ta.ro e he) hq (by intro z;cases z)
 have kfr:∀{H':Hp} {q:Nc} {o:HO},Keep [] H H'→H q=none→Keep [] H (upd H' q o):=λkk hq c u ec hc=>by rw[zad (zab ec hq)];exact kk c u ec hc
 refine⟨_,rfl,hd,rfl,⟨_,SqL.of nF.ls⟩,zbv (xs:=ap.map V.ref) (λi σ H'=>Aj6 (Ex2 λx3 x4=>σ=[some (.ref l),some (.ref hd),some (.ref x),x3,x4]) (H' hd=some (.lst (ap.map V.ref))) (WAt H' C x dx d2 ts) (Paired (λa (e:Ent)=>H' a=some (.tup [.str e.1,.ref e.2.2])) ap es2) (∀e∈es2,∃zs:List V,H' e.2.2=some (.lst zs)∧zs.length≤100+i) (Keep [] H H'))
  ⟨⟨_,_,rfl⟩,nF.ls,wt,nF.ts,(λe he=>⟨_,nF.ro e he,?_⟩),nX⟩ (λi σ H' _ hh=>SqL.of hh.2) ?_ ?_⟩
 ·obtain ⟨e',ax,_,q1⟩:=sameR_mem cg he
  rw[Qa,q1]
  exact Zi (aR e' ax) (by omega)
 ·rintro i v σ H5 hv ⟨⟨y3,y4,rfl⟩,mf,oV,oZ,pe,k5⟩
  have gQ:i<ap.length:=by
   have:=(Zd.mp hv).1
   rwa[Qa]at this
  have hvz:v=.ref ap[i]:=by
   rw[Qr,Qc gQ]at hv
   exact(Qs hv).symm
  subst hvz
  obtain⟨aw,bp⟩:=zaz oZ gQ
  have aY:es2[i]∈es2:=Qq aw
  generalize es2[i]=e at aY bp
  obtain⟨zs,hz,cV⟩:=pe e aY
  refine⟨ap[i],_,rfl,SqT.of bp,rfl,_,_,rfl,_,_,rfl,rfl,?_⟩
  refine⟨_,rfl,.inl ⟨rfl,_,SqL.of hz⟩,_,rfl,e.2.2,_,_,rfl,rfl,hz,by omega,?_⟩
  refine⟨⟨_,_,rfl⟩,by rw[zad (Zn (qU e aY))];exact mf,wkeep oV hz,Paired.imp' (λa e' h=>by rw[zad (za3 h hz (by intro z;cases z))];exact h) oZ,λe' ax=>?_,kfr k5 (bG e aY).2⟩
  by_cases hq:e'.2.2=e.2.2
  ·rw [hq]
   exact⟨_,zac,by rw[Qm];show zs.length+1≤_;omega⟩
  ·obtain ⟨cH,nY,hzl'⟩:=pe e' ax
   exact⟨cH,by rw[zad hq];exact nY,by omega⟩
 ·rintro σ H5 ⟨⟨y3,y4,rfl⟩,mf,oV,oZ,pe,k5⟩
  refine⟨_,rfl,.inl ⟨rfl,_,SqL.of mf⟩,.l hd _ rfl rfl mf ⟨_,rfl,?_⟩⟩
  refine k x dx d2 ts _ (wkeep oV mf) ?_ (λy=>?_) cR dW fx (kfr k5 fhd)
  ·rw[zb9 ht4,←om];exact bA.map _
  ·have:=zey ht4 bA (by rw [om];exact aK) y
   rw[hrs]at this
   exact this
end
end K21
end
section
namespace K21
open PySem L2 Wb PySem.W
abbrev zfz:Stmt:=top 35
abbrev zf0:Stmt:=top 36
structure RF(H:Hp)(d:Nc)(es:List Ent):Prop where
 dc:Rd H d (.dK (eV es))
 nd:(es.map (·.1)).Nodup
 ro:∀e∈es,H e.2.2=some (.lst (e.2.1.map V.str))
def RF.get(R:RF H d es)(he:e∈es):DGet H d (.str e.1) (some (.ref e.2.2)):=.inl ⟨_,Sum.inr e.1,R.dc,rfl,(zeb R.nd he).symm⟩
def RF.out(R:RF H d es)(h:y∉es.map (·.1)):DGet H d (.str y) none:=.inl ⟨_,Sum.inr y,R.dc,rfl,(zhs h).symm⟩
def RF.keep(R:RF H d es)(k:Keep [] H H'):RF H' d es :=
 ⟨R.dc.imp (λe=>k _ _ e (by simp)) λ⟨o,e⟩=>⟨o,k _ _ e (by simp)⟩,R.nd,λe he=>k _ _ (R.ro e he) (by simp)⟩
inductive IspIsList(vs:List V)(H:Hp)(Q:VK):Prop
 |mk (a b:Nc) (xs ys:List V) (h0:vs=[.ref a,.ref b]) (h1:H a=some (.lst xs)) (h2:H b=some (.lst ys)) (h3:Paired (zg7 H 3) xs ys) (h4:Q (.bl true) H):IspIsList vs H Q
def spIsList:Sp:=λvs H Q _=>IspIsList vs H Q
inductive IspLTies(vs:List V)(H:Hp)(Q:VK):Prop
 |mk (d:Nc) (es:List Ent) (h0:vs=[.ref d]) (h1:RF H d es) (h2:es.length≤40) (h3:∀e∈es,e.2.1.length≤60)
  (h4:∀(l:Nc) (as:Nk) (qs:Np) (H':Hp),H' l=some (.lst (as.map V.ref))→zar H' as qs→qs.Perm (pairsOf (rsOf es))→qs.Pairwise leP→H l=none→(∀a∈as,H a=none)→Keep [] H H'→Q (.ref l) H'):IspLTies vs H Q
def spLTies:Sp:=λvs H Q _=>IspLTies vs H Q
abbrev csLt:Scope:=scOf (aOf 0 (match(bAt (sAt zfz 1) 0) with | .Expr e _=>e | _=>.Name "" ⟨0,0,0,0⟩))
def csLt_k:csLt.kind=.function:=by rfl
def csLt_c:∀y∈csLt.names,y.2≠.cell:=by decide +kernel
def csLt_n:∀y∈csLt.names,y.2=.local→csLt.names.lookup y.1=some .local:=by decide +kernel
def csLt_f:∀y∈csLt.names,y.2=.free→(zag zfz).names.lookup y.1=some .cell∨(zag zfz).names.lookup y.1=some .free:=by decide +kernel
def csLt_l:csLt.names.lookup ("_law_one" : Str)=some NameKind.free:=by decide +kernel
def ndLt:([qO, "_law_one"]:List Str).Nodup:=by decide +kernel
def prs_perm{l:Rs Str}{es:List Ent}(nd:(es.map (·.1)).Nodup)(h1:(l.map (·.1)).Perm (es.map (·.1)))(h2:∀ p∈l,p.2.Perm (row (rsOf es) p.1)):(pairsOf l).Perm (pairsOf (rsOf es)):=by
 have a:(pairsOf l).Perm ((l.map (·.1)).flatMap λy=>((row (rsOf es) y).filter λx=>ltS y x).map λx=>(y,x)):=by
  clear h1
  induction l with
  |nil=>exact .refl _
  |cons p t ih =>
   unfold pairsOf at ih ⊢
   rw[Uz,Qk,Uz]
   exact(((h2 p Qe).filter _).map _).append (ih λq hq=>h2 q (Qg _ hq))
 have b:((es.map (·.1)).flatMap λy=>((row (rsOf es) y).filter λx=>ltS y x).map λx=>(y,x))=pairsOf (rsOf es):=by
  have key:∀fs:List Ent,(∀e∈fs,e∈es)→((fs.map (·.1)).flatMap λy=>((row (rsOf es) y).filter λx=>ltS y x).map λx=>(y,x))=pairsOf (rsOf fs):=by
   intro fs
   induction fs with
   |nil=>intro _;rfl
   |cons e t ih =>
    intro h
    have:=ih λe' ax=>h e' (Qg _ ax)
    unfold pairsOf rsOf at this ⊢
    rw[Qk,Uz,Qk,Uz,this]
    have hr:=zbp nd (h e Qe)
    unfold rsOf at hr
    rw[hr]
  exact key es λ_ h=>h
 exact a.trans (by rw[←b];exact h1.flatMap_right _)
section
variable{P:Ni}{w:Nl}{K:Na}{mg:Nf}{base:Nm}
def scIsList:zap ["_law_found", "_law_due"] ["_law_found", "_law_due"] (zag zf0):=fsk
def ok_islist(F:Fun K "_law_is_list" "_law_is_list" zf0 f fd)(cB:mg "isinstance" = none)(aV:mg "list" = none):FnOk P w K mg base CX0 1 f fd ["_law_found", "_law_due"] spIsList:=by
 refine F.okL scIsList (λcdv A outer s H vs Q E hr h=>?_)
 obtain⟨a,b,xs,ys,rfl,h1,h2,pr,q⟩:=h
 have pZ:(A.deeper (PyProof.Rows.envOfC "_law_is_list" (zag zf0) s.heap.objs.size f cdv)).units+4<cLine:=Wa (Kp (by decide:4≤64) _) hr.units
 refine⟨_,zah (zbe (pe_and (zaj zit (by rfl) cB Ue (zaa (pv 0) (zaa (pe_tyN (T := "list") rfl aV Je) zaf))) (pe_one (pe_cmpR (op_eq_deep pZ) (pv 0) (pv 1) (zbt _))))),?_⟩
 exact⟨_,rfl,a,xs,rfl,SqL.of h1,true,rfl,iteT ⟨_,rfl,_,rfl,a,b,xs,ys,rfl,rfl,h1,h2,pr,q⟩⟩
def scLTies:zap ["_law_due", "_law_found", "_law_one"] ["_law_due"] (zag zfz):=fsk
def ok_lties(F:Fun K "_law_ties" "_law_ties" zfz f fd)(aE:mg "sorted" = none):FnOk P w K mg base CX0 1 f fd ["_law_due"] spLTies:=by
 refine F.okL scLTies (λcdv A outer s H vs Q E hr h=>?_)
 obtain⟨d,es,rfl,R,bQ,aR,k⟩:=h
 have hu:=zck hr
 have aT:=sizeLine_eq
 refine⟨_,zae (zau 1 scLTies.nd (zbj zaf))
  (zae (zbq Zq rfl (za7 (zaj (zbl rfl) (by rfl) aE Yn (zaa (pv 0) zaf))) (zf5 (i:=2) scLTies.nd rfl (Or.inr rfl))
   (zah (zay (zcj Qy PySem.F.slot_list_extend PySem.F.type_list_extend mt_extend (pv 1) (zaa (pe_lc (M:=[qO, "_law_one"]) (ix:=[none,some 2]) ⟨csLt_k,csLt_c,csLt_n,csLt_f,rfl,ndLt,λj i x h1 h2=>by
       match j,h1,h2 with
       |0,_,h2=>cases h2
       |1,h1,h2=>cases h1;cases h2;exact⟨rfl,csLt_l⟩
       |n+2,h1,_=>cases h1⟩ rfl (za7 (zaj zfj (by rfl) aE Yn (zaa (zh8 hu (pv 0) (pv 2)) zaf))) (λC a7 ex s H=>zbf 0 ndLt)
       (λC a7 ex s H=>zh5 (za5 op_lt_str (pv 1) (pv 0) (zbt _))) (λC a7 ex s H=>zdj (zaa (pv 1) (zaa (pv 0) zaf)))) zaf)))))
  (zah (zbe (pv 1)))),?_⟩
 have kfr:∀{H':Hp} {q:Nc} {o:HO},Keep [] H H'→H q=none→Keep [] H (upd H' q o):=λkk hq c u ec hc=>by rw[zad (zab ec hq)];exact kk c u ec hc
 refine⟨(by show 0≤sizeLine;decide),λfo gv=>?_⟩
 have k1:Keep [] H (upd H fo (.lst [])):=Keep.new gv
 have mt:(upd H fo (.lst [])) fo=some (.lst (([]:List Addr).map V.ref)):=zac
 generalize upd H fo (.lst [])=H1 at k1 mt
 refine⟨_,rfl,d,_,es.map (·.1),rfl,(R.keep k1).dc,by rw[Zp,Zp];rfl,λls S hls hZ sP=>?_⟩
 have k2:Keep [] H (upd H1 ls (.lst (S.map V.str))):=k1.trans (Keep.new hls)
 have iU:(upd H1 ls (.lst (S.map V.str))) ls=some (.lst (S.map V.str)):=zac
 have nfl:fo≠ls:=zab mt hls
 have gU:(upd H1 ls (.lst (S.map V.str))) fo=some (.lst (([]:List Addr).map V.ref)):=by rw[zad nfl];exact mt
 generalize upd H1 ls (.lst (S.map V.str))=H2 at k2 iU gU
 have hSl:S.length=es.length:=by rw[hZ.length_eq,Qa]
 have hSn:S.Nodup:=hZ.nodup_iff.mpr R.nd
 refine⟨ls,rfl,⟨_,SqL.of iU⟩,zig (zs:=S) (λi σ H'=>Ex2 λ(as:Nk) (lp:Rs Str)=>Aj9 (Ex1 λx2=>σ=[some (.ref d),some (.ref fo),x2]) (H' fo=some (.lst (as.map V.ref))) (H' ls=some (.lst (S.map V.str))) (zar H' as (pairsOf lp)) (lp.map (·.1)=S.take i) (∀p∈lp,p.2.Pairwise leS∧p.2.Perm (row (rsOf es) p.1)) (as.length≤60*i) (∀a∈as,H a=none) (Keep [] H H'))
  ⟨[],[],⟨_,rfl⟩,gU,iU,.nil,rfl,(λp hp=>by cases hp),Zh _,(λa ha=>by cases ha),k2⟩ (λi σ H' _ hh=>by obtain⟨_,_,h⟩:=hh;exact SqL.of h.h2) ?_ ?_⟩
 ·rintro i hi σ H3 ⟨as,lp,⟨x2,rfl⟩,kj,lN,jQ,ka,ba,sL,jo,k3⟩
  have oJ:S[i]∈S:=Qq hi
  have tk:S.take (i+1)=S.take i++[S[i]]:=Qo hi
  generalize S[i]=one at oJ tk
  obtain⟨en,bU,ss⟩:=Ql.mp (hZ.mem_iff.mp oJ)
  have gW:en.1=one:=ss
  have fM:row (rsOf es) one=en.2.1:=by rw[←gW];exact zbp R.nd bU
  have R3:=R.keep k3
  have g:=R3.get bU
  rw[gW]at g
  have lC:=aR en bU
  refine⟨_,rfl,.inl ⟨rfl,_,SqL.of kj⟩,_,rfl,_,rfl,d,_,rfl,g,en.2.2,en.2.1,rfl,SqL.of (R3.ro en bU),λl4 Z jb hZp hZs=>?_⟩
  have k4:Keep [] H3 (upd H3 l4 (.lst (Z.map V.str))):=Keep.new jb
  have ja:(upd H3 l4 (.lst (Z.map V.str))) l4=some (.lst (Z.map V.str)):=zac
  generalize upd H3 l4 (.lst (Z.map V.str))=H4 at k4 ja
  have hZl:Z.length≤60:=by rw[hZp.length_eq];exact lC
  refine⟨l4,rfl,⟨_,SqL.of ja⟩,λj m ys τ H'=>Ex1 λ(bs:Nk)=>Aj8 (m=Z.length-j) (j≤Z.length) (ys=bs.map V.ref) (Ex1 λx0=>τ=[x0,some (.str one)]) (zar H' bs (((Z.take j).filter λx=>ltS one x).map λx=>(one,x))) (bs.length≤j) (∀a∈bs,H3 a=none) (Keep [] H4 H'),
   ⟨_,[],rfl,Zh _,rfl,⟨_,rfl⟩,.nil,Zh _,(λa ha=>by cases ha),Keep.refl⟩,?_⟩
  rintro j m ys τ H5 ⟨bs,rfl,hj,rfl,⟨x0,rfl⟩,fF,da,rQ,k5⟩
  have j8:=k5 _ _ ja (by simp)
  by_cases ae:j<Z.length
  ·refine .inr ⟨⟨_,.str Z[j],SqL.of j8,by rw [Qr,Qc ae];rfl⟩,by rw [Qa];omega,?_⟩
   rintro y H6 ⟨rfl,hy⟩
   have bq:=hy _ (SqL.of j8)
   rw[Qr,Qc ae]at bq
   obtain rfl:V.str Z[j]=y:=Qs bq
   have aQ:Z.take (j+1)=Z.take j++[Z[j]]:=Qo ae
   generalize Z[j]=z at aQ
   refine⟨_,rfl,_,rfl,_,_,rfl,rfl,_,rfl,?_⟩
   cases hl:ltS one z with
   |false =>
    refine zbw hl ⟨_,by exact zar1 ‹_›,bs,rfl,ae,rfl,⟨_,rfl⟩,?_,by omega,rQ,k5⟩
    rw[aQ,Wr,Ym (by rw[hl];decide),Ux,Zs];exact fF
   | true =>
    refine zb6 hl ⟨_,rfl,_,rfl,(by show 2≤sizeLine;decide),λt ht=>⟨_,by exact zar1 ‹_›,bs++[t],rfl,ae,by rw[Qt];rfl,⟨_,rfl⟩,?_,by rw[Qm];show _+1≤_;omega,λa ha=>?_,k5.trans (Keep.new ht)⟩⟩
    ·rw [aQ,Wr,Yl (by rw [hl]),Ux,Qt]
     refine zar.snoc (zar.keep fF λb x y eb=>?_) zac
     rw[zad (zab eb ht)];exact eb
    ·rcases Qf.mp ha with q | q
     ·exact rQ a q
     ·rw[Qb.mp q];exact zas (k4.trans k5) ht (by simp)
  ·have ej:j=Z.length:=by omega
   subst ej
   rw[Qu (Qd _)]at fF
   refine .inl ⟨⟨_,SqL.of j8,by rw[Qa];exact Qd _⟩,λD hD=>?_⟩
   have k6:Keep [] H3 (upd H5 D (.lst (bs.map V.ref))):=(k4.trans k5).trans (Keep.new hD)
   have jF:(upd H5 D (.lst (bs.map V.ref))) D=some (.lst (bs.map V.ref)):=zac
   have jP:zar (upd H5 D (.lst (bs.map V.ref))) bs ((Z.filter λx=>ltS one x).map λx=>(one,x)):=zar.keep fF λb x y eb=>by rw[zad (zab eb hD)];exact eb
   generalize upd H5 D (.lst (bs.map V.ref))=H6 at k6 jF jP
   have oC:=k6 _ _ kj (by simp)
   refine⟨fo,D,_,_,rfl,rfl,oC,jF,by rw[Qa,Qa];omega,?_⟩
   have nt:∀{b:Nc} {x y:V} {zs:List V},H6 b=some (.tup [x,y])→(upd H6 fo (.lst zs)) b=some (.tup [x,y]):=λ{b x y zs} eb=>by rw[zad (za3 eb oC (by intro z;cases z))];exact eb
   refine⟨as++bs,lp++[(one,Z)],⟨_,rfl⟩,by rw[zac,Qt],by rw[zad (Zn nfl)];exact k6 _ _ lN (by simp),?_,by rw[Qt,ka,tk];rfl,λp hp=>?_,by rw[Qm];omega,λa ha=>?_,kfr (k3.trans k6) gv⟩
   ·have e:pairsOf (lp++[(one,Z)])=pairsOf lp++(Z.filter fun x=>ltS one x).map fun x=>(one,x):=by unfold pairsOf;rw [List.flatMap_append];simp
    rw[e]
    exact zao (zar.keep (zar.keep jQ λb x y eb=>k6 _ _ eb (by simp)) λb x y eb=>nt eb) (zar.keep jP λb x y eb=>nt eb)
   ·rcases Qf.mp hp with q | q
    ·exact ba p q
    ·rw [Qb.mp q]
     exact⟨hZs (by omega),by rw[fM];exact hZp⟩
   ·rcases Qf.mp ha with q | q
    ·exact jo a q
    ·exact zas k3 (rQ a q) (by simp)
 ·rintro σ H3 ⟨as,lp,⟨x2,rfl⟩,kj,lN,jQ,ka,ba,sL,jo,k3⟩
  rw[Qa,Qu (Qd _)]at ka
  refine⟨_,rfl,k fo as (pairsOf lp) H3 kj jQ (prs_perm R.nd (by rw[ka];exact hZ) λp hp=>(ba p hp).2) (flat_sorted (by rw[ka];exact sP (by rw[Qa];omega)) (by rw[ka];exact hSn) λp hp=>(ba p hp).1) gv jo k3⟩
end
end K21
end
section
namespace L2
open PySem PySem.Spec PyProof.Rows
def call_isi_bb{X:Cx}:zb3 X (.builtin "isinstance") (λxs H Q=>Ex1 λ(b:Bool)=>Aj2 (xs=[.bl b,.ty "bool"]) (Q (.bl true) H)):=by
 intro a7 s σ H xs us Q I r h
 obtain⟨b,rfl,q⟩:=h
 obtain⟨u,w',rfl,e1,e⟩:=vals2 r
 have e':w'=Value.type "bool" := e
 subst e'
 cases e1
 exact IsiPair.bool_bool ⟨.bl true,H,I,rfl,q⟩
end L2
namespace K21
open PySem L2 Wb PySem.W
abbrev sRight:Stmt:=top 37
inductive IspTiesO(C:Nc)(vs:List V)(H:Hp)(Q:VK):Prop
 |mk (x dx d:Nc) (es:List Ent) (h0:vs=[.ref x]) (h1:WAt H C x dx d es) (h2:es.length≤60) (h3:(∀e∈es,e.2.1.length≤100)) (h4:∀(l:Nc) (as:Nk) (qs:Np) (H':Hp),H' l=some (.lst (as.map V.ref))→zar H' as qs→qs.Perm (pairsOf (rsOf es))→qs.Pairwise leP→H l=none→(∀a∈as,H a=none)→Keep [] H H'→Q (.ref l) H'):IspTiesO C vs H Q
def spTiesO(C:Nc):Sp:=λvs H Q _=>IspTiesO C vs H Q
inductive IspRight(C:Nc)(vs:List V)(H:Hp)(Q:VK):Prop
 |mk (p x dx d u:Nc) (b m:Int) (ts fs:List Ent) (h0:vs=[.ref p,.ref x,.ref u]) (h1:Pot H p b m) (h2:WAt H C x dx d ts) (h3:RF H u fs) (h4:(ts.map (·.1)).Perm (fs.map (·.1))) (h5:∀y,row (rsOf ts) y=row (rsOf fs) y) (h6:(ts.map (·.1)).Pairwise leS) (h7:ts.length≤40) (h8:∀e∈fs,e.2.1.length≤60) (h9:("nobody" : Str)∉fs.map (·.1))
  (dB:∀H',Keep [p] H H'→Q (.bl true) H'):IspRight C vs H Q
def spRight(C:Nc):Sp:=λvs H Q _=>IspRight C vs H Q
def zgd{α:Type}{le:α→α→Prop}(anti:∀ a b,le a b→le b a→a=b):∀ {l m:List α},l.Perm m→l.Pairwise le→m.Pairwise le→l=m:=by
 intro l
 induction l with
 |nil=>intro m h _ _;exact h.nil_eq
 | cons a t ih =>
  intro m h h1 h2
  cases m with
  |nil=>exact absurd h.symm.nil_eq (by simp)
  | cons b r =>
   rw[Ua]at h1 h2
   have e:a=b:=by
    rcases Qh.mp (h.mem_iff.mp Qe) with q | q
    ·exact q
    ·rcases Qh.mp (h.mem_iff.mpr Qe) with q' | q'
     ·exact q'.symm
     ·exact anti _ _ (h1.1 b q') (h2.1 a q)
   subst e
   rw[ih ((List.perm_cons a).mp h) h1.2 h2.2]
def same_strs{H:Hp}{n:Nat}:∀zs:List Str,Paired (zg7 H n) (zs.map V.str) (zs.map V.str):=by
 intro zs
 induction zs with
 |nil=>exact .nil
 |cons z zs ih =>
  refine .cons ?_ ih
  cases n with
  |zero=>exact⟨rfl,rfl⟩
  |succ n=>exact .inl ⟨rfl,rfl⟩
section
variable{P:Ni}{w:Nl}{K:Na}{mg:Nf}{base:Nm}
def zch:zap [qP, "_law_web", "_law_due",qN, "_law_k", "_law_places", "_law_ties_here", "_law_name", "_law_around", "_law_one",qO, "_law_found"] [qP, "_law_web", "_law_due"] (zag sRight):=fsk
def ok_right(F:Fun K "_law_right" "_law_right" sRight f fd)(cW:Cls K C)(FT:Fun K qG qG zej ft fdt)(bT:Binds K fdt [qP,qM] [])(mT:mg qG=some (.ref ft))(GT:FnOk P w K mg base CX0 1 ft fdt [qP,qM] zfx)(mPl:Meth K C "places" fp)(bPl:Binds K fdp ["self"] [])(GPl:FnOk P w K mg base CX0 1 fp fdp ["self"] (spPlaces C))(mTi:Meth K C "ties" fti)(bTi:Binds K fdti ["self"] [])(GTi:FnOk P w K mg base CX0 1 fti fdti ["self"] (spTiesO C))(mRo:Meth K C "round_of" fro)(bRo:Binds K fdro ["self", "place"] [])(GRo:FnOk P w K mg base CX0 1 fro fdro ["self", "place"] (spRoundOf C))(mTd:Meth K C "is_tied" ftd)(bTd:Binds K fdtd ["self", "one", "other"] [])(GTd:FnOk P w K mg base CX0 1 ftd fdtd ["self", "one", "other"] (spTied C))(FL:Fun K "_law_is_list" "_law_is_list" zf0 fl fdl)(bL:Binds K fdl ["_law_found", "_law_due"] [])(mL:mg "_law_is_list" = some (.ref fl))(GL:FnOk P w K mg base CX0 1 fl fdl ["_law_found", "_law_due"] spIsList)(FS:Fun K "_law_ties" "_law_ties" zfz oO fds)(bS:Binds K fds ["_law_due"] [])(mS:mg "_law_ties" = some (.ref oO))(GS:FnOk P w K mg base CX0 1 oO fds ["_law_due"] spLTies)(FW:Fun K "_law_word" "_law_word" sWord fw fdw)(bW:Binds K fdw ["_law_web", "_law_name"] [])(mWo:mg "_law_word" = some (.ref fw))(GW:FnOk P w K mg base CX0 2 fw fdw ["_law_web", "_law_name"] (spWord C))(aE:mg "sorted" = none)(bj:mg "range" = none)(ad:mg "len" = none)(cB:mg "isinstance" = none)(mJ:mg "bool" = none) :
  FnOk P w K mg base CX0 3 f fd [qP, "_law_web", "_law_due"] (spRight C):=by
 refine F.okL zch (λcdv A outer s H vs Q E hr h=>?_)
 obtain⟨p,x,dx,d,u,b,m,ts,fs,rfl,hp,wt,R,cb,gJ,dW,gc,aR,hnob,k⟩:=h
 have hu:=zck hr
 have dJ:=Ky hu
 have aI:Room 1 _:=hr.mono (by decide)
 have aT:=sizeLine_eq
 refine⟨_,zae (zau 3 zch.nd (zav zek (zaj (zbl rfl) (by rfl) aE Yn (zaa (pv 2) zaf)) (zbj (zaa zdd zaf))))
  (zae (zbq Zq rfl (zci rfl bj (zaa zai zaf)) (zbf 4 zch.nd)
   (zae (zau 5 zch.nd (pe_meth0 (pl:=_) (pv 1) cW mPl GPl aI bPl .nil za0))
   (zae (zau 6 zch.nd (pe_meth0 (pl:=_) (pv 1) cW mTi GTi aI bTi .nil za0))
   (zae (zcc (PW.pt (pw_or (zfe (zf2 (zam GL aI rfl mL FL.kp bL .nil za0 (zaa (pv 5) (zaa (zaj (zbl rfl) (by rfl) aE Yn (zaa (pv 2) zaf)) zaf))))) (pw_or1 (zfe (zf2 (zam GL aI rfl mL FL.kp bL .nil za0 (zaa (pv 6) (zaa (zam GS aI rfl mS FS.kp bS .nil za0 (zaa (pv 2) zaf)) zaf)))))))) (zah zfi) zba)
   (zae (zay (zcj Qy Yb Ya zbc (pv 5) (zaa zdd zaf)))
   (zae (zay (pe_bm0 Qy PySem.F.slot_list_clear PySem.F.type_list_clear mt_lclear (pv 6)))
   (zah (zbq Zq rfl (za7 (pv 3)) (zbf 7 zch.nd)
    (zah (zcc (zhc (pc_din hu (pv 7) (pv 2)))
     (zae (zau 8 zch.nd (pe_meth (pl:=_) (pv 1) cW mRo GRo aI bRo .nil za0 (zaa (pv 7) zaf)))
     (zae (zcc (zfe (zf2 (zam GL aI rfl mL FL.kp bL .nil za0 (zaa (pv 8) (zaa (zh8 hu (pv 2) (pv 7)) zaf))))) (zah zfi) zba)
     (zah (zay (zcj Qy Yb Ya zbc (pv 8) (zaa (pv 7) zaf))))))
     (zah (zcc (za5 (op_ne_bools dJ) (zam GW hr rfl mWo FW.kp bW .nil za0 (zaa (pv 1) (zaa (pv 7) zaf))) (zbj (zaa pe_bl (zaa pe_bl zaf))) (zbt _)) (zah zfi) zba))))))))))))
  (zae (zbq Zq rfl (zci rfl bj (zaa zai zaf)) (zbf 4 zch.nd)
   (zae (zau 9 zch.nd (zbg zat (pv 3) (zam GT aI rfl mT FT.kp bT .nil za0 (zaa (pv 0) (zaa (zaj zan (by rfl) ad Zz (zaa (pv 3) zaf)) zaf))) (λ_ _=>rfl)))
   (zae (zau 10 zch.nd (zbg zat (pv 3) (zam GT aI rfl mT FT.kp bT .nil za0 (zaa (pv 0) (zaa (zaj zan (by rfl) ad Zz (zaa (pv 3) zaf)) zaf))) (λ_ _=>rfl)))
   (zae (zau 11 zch.nd (pe_meth (pl:=_) (pv 1) cW mTd GTd aI bTd .nil za0 (zaa (pv 9) (zaa (pv 10) zaf))))
   (zah (zcc (PW.pt (pw_or (zfe (zf2 (zaj call_isi_bb (by rfl) cB Ue (zaa (pv 11) (zaa (pe_tyN (T := "bool") rfl mJ PyProof.Rows.boot_bool) zaf))))) (pw_or1 (za5 op_ne (pv 11) (pe_and (pe_cmp (pc_din hu (pv 9) (pv 2))) (pe_one (pe_cmpR zgb (pv 10) (zh8 hu (pv 2) (pv 9)) rfl))) (zbt _))))) (zah zfi) zba))))))
  (zah (zbe pe_bl)))),?_⟩
 have kfr:∀{H':Hp} {q:Nc} {o:HO},Keep [] H H'→H q=none→Keep [] H (upd H' q o):=λkk hq c u ec hc=>by rw[zad (zab ec hq)];exact kk c u ec hc
 have ms:fs.length=ts.length:=by have:=cb.length_eq;rw[Qa,Qa]at this;exact this.symm
 have Wk:∀{H':Hp},Keep [] H H'→WAt H' C x dx d ts:=λkk=>wt.keep kk (by simp) (by simp) λ_ _=>by simp
 have ekv:((eV fs).map λp=>kV p.1)=(fs.map (·.1)).map V.str:=by rw[Zp,Zp];rfl
 have aF:∀e∈ts,∀e'∈fs,e.1=e'.1→e.2.1=e'.2.1:=λe he e' ax h=>by
  have:=gJ e.1
  rw[zbp wt.ta.nd he,h,zbp R.nd ax]at this
  exact this
 refine⟨_,rfl,u,_,fs.map (·.1),rfl,R.dc,ekv,λl1 S cG hZ sP=>⟨(by show 1≤sizeLine;decide),λl2 aJ=>?_⟩⟩
 have dh:l1≠l2:=zab (o:=_) zac aJ
 have hSl:S.length=fs.length:=by rw[hZ.length_eq,Qa]
 refine⟨l1,l2,_,_,rfl,rfl,by rw[zad dh];exact zac,zac,by rw[Qa];show S.length+1≤sizeLine;omega,λl3 gO=>?_⟩
 have eN:S.map V.str++[V.str "nobody"]=(S++[("nobody" : Str)]).map V.str:=by rw[Qt];rfl
 rw[eN]
 have hSo:S=ts.map (·.1):=zgd zdv (hZ.trans cb.symm) (sP (by rw[Qa];omega)) dW
 have k1:Keep [] H (upd (upd (upd H l1 (.lst (S.map V.str))) l2 (.lst [V.str "nobody"])) l3 (.lst ((S++[("nobody" : Str)]).map V.str))):=((Keep.new cG).trans (Keep.new aJ)).trans (Keep.new gO)
 have jd:(upd (upd (upd H l1 (.lst (S.map V.str))) l2 (.lst [V.str "nobody"])) l3 (.lst ((S++[("nobody" : Str)]).map V.str))) l3=some (.lst ((S++[("nobody" : Str)]).map V.str)):=zac
 have fl3:H l3=none:=zas (xs:=[]) ((Keep.new cG).trans (Keep.new aJ)) gO (by simp)
 generalize upd (upd (upd H l1 (.lst (S.map V.str))) l2 (.lst [V.str "nobody"])) l3 (.lst ((S++[("nobody" : Str)]).map V.str))=H1 at k1 jd
 have hNl:(S++[("nobody" : Str)]).length≤41:=by rw[Qm];show S.length+1≤41;omega
 have hNm:∀y∈S++[("nobody" : Str)],y∈fs.map (·.1)∨y = "nobody" := λy hy=>(Qf.mp hy).imp hZ.mem_iff.mp Qb.mp
 have hN0:0<(S++[("nobody" : Str)]).length:=by rw[Qm];exact Nat.succ_pos _
 generalize S++[("nobody" : Str)]=NS at jd hNl hNm hN0
 refine⟨(2:Int),rfl,by decide,by omega,zcl (lo:=0) (λi σ H'=>Aj3 (Ex8 λx4 x5 x6 x7 x8 x9 cI fW=>σ=[some (.ref p),some (.ref x),some (.ref u),some (.ref l3),x4,x5,x6,x7,x8,x9,cI,fW]) (H' l3=some (.lst (NS.map V.str))) (Keep [] H H'))
  ⟨⟨_,_,_,_,_,_,_,_,rfl⟩,jd,k1⟩ ?_ ?_⟩
 ·rintro i σ H2 hi ⟨⟨x4,x5,x6,x7,x8,x9,cI,fW,rfl⟩,cA,k2⟩
  refine⟨_,rfl,x,dx,_,rfl,(Wk k2).ob,rfl,x,dx,d,ts,rfl,Wk k2,λlp rf=>?_⟩
  have k3:Keep [] H2 (upd H2 lp (.lst ((ts.map (·.1)).map V.str))):=Keep.new rf
  have gp:(upd H2 lp (.lst ((ts.map (·.1)).map V.str))) lp=some (.lst ((ts.map (·.1)).map V.str)):=zac
  have flp:H lp=none:=zas k2 rf (by simp)
  generalize upd H2 lp (.lst ((ts.map (·.1)).map V.str))=H3 at k3 gp
  have jT:=k2.trans k3
  refine⟨_,rfl,x,dx,_,rfl,(Wk jT).ob,rfl,x,dx,d,ts,rfl,Wk jT,by omega,λe he=>?_,λlt as qs H4 ae pa4 pm4 po4 flt fas k4=>?_⟩
  ·obtain ⟨e',ax,ee⟩:=Ql.mp (cb.mem_iff.mp (Ql.mpr ⟨e,he,rfl⟩))
   rw[aF e he e' ax (Eq.symm ee)]
   exact Zi (aR e' ax) (by decide)
  have di:=jT.trans k4
  have sX:H lt=none:=zas jT flt (by simp)
  refine⟨_,rfl,_,rfl,u,_,fs.map (·.1),rfl,(R.keep di).dc,ekv,λl5 S5 dw hS5 sQ=>?_⟩
  have k5:Keep [] H4 (upd H4 l5 (.lst (S5.map V.str))):=Keep.new dw
  have iZ:(upd H4 l5 (.lst (S5.map V.str))) l5=some (.lst (S5.map V.str)):=zac
  generalize upd H4 l5 (.lst (S5.map V.str))=H5 at k5 iZ
  have jS:=di.trans k5
  have e5:S5=ts.map (·.1):=zgd zdv (hS5.trans cb.symm) (sQ (by rw[Qa];omega)) dW
  rw[e5]at iZ
  refine⟨lp,l5,_,_,rfl,k5 _ _ (k4 _ _ gp (by simp)) (by simp),iZ,same_strs _,true,rfl,iteF ?_⟩
  refine⟨_,rfl,_,rfl,u,fs,rfl,R.keep jS,by omega,aR,λl6 i6 qs6 H6 ou jP pm6 po6 fl6 sY k6=>?_⟩
  have kS:=jS.trans k6
  have eq6:qs=qs6:=by
   refine zgd leP_anti ?_ po4 po6
   refine pm4.trans ((prs_perm (l:=rsOf ts) R.nd ?_ λq hq=>?_).trans pm6.symm)
   ·unfold rsOf;rw[List.map_map];exact cb
   ·unfold rsOf at hq
    obtain⟨e,he,rfl⟩:=Ql.mp hq
    rw[←gJ]
    show e.2.1.Perm (row (rsOf ts) e.1)
    rw[zbp wt.ta.nd he]
  subst eq6
  have sm:Paired (zg7 H6 3) (as.map V.ref) (i6.map V.ref):=by
   have key:∀{as i6:Nk} {qs:Np},zar H4 as qs→zar H6 i6 qs→(∀a∈i6,H5 a=none)→Paired (zg7 H6 3) (as.map V.ref) (i6.map V.ref):=by
    intro as i6 qs r1
    induction r1 generalizing i6 with
    |nil=>intro r2 _;cases r2;exact .nil
    | @cons a q as qs h t ih =>
     intro r2 hf
     cases r2 with
     |@cons a6 _ i6 _ h6 t6 =>
      have h5:=k5 _ _ h (by simp)
      exact .cons (.inr ⟨a,a6,_,_,rfl,rfl,zab h5 (hf a6 Qe),.inr ⟨k6 _ _ h5 (by simp),h6⟩,.cons (.inl ⟨rfl,rfl⟩) (.cons (.inl ⟨rfl,rfl⟩) .nil)⟩) (ih t6 λb hb=>hf b (Qg _ hb))
   exact key pa4 jP sY
  have lM:=k6 _ _ (k5 _ _ ae (by simp)) (by simp)
  refine⟨lt,l6,_,_,rfl,lM,ou,sm,true,rfl,iteF ?_⟩
  have lO:=k6 _ _ (k5 _ _ (k4 _ _ gp (by simp)) (by simp)) (by simp)
  have nlt:lp≠lt:=zab gp flt
  refine⟨_,rfl,.inl ⟨rfl,_,SqL.of lO⟩,lp,_,_,rfl,rfl,lO,by rw[Qa,Qa];omega,?_⟩
  have iT:(upd H6 lp (.lst ((ts.map (·.1)).map V.str++[V.str "z"]))) lt=some (.lst (as.map V.ref)):=by rw[zad (Zn nlt)];exact lM
  have fZ:Keep [] H (upd H6 lp (.lst ((ts.map (·.1)).map V.str++[V.str "z"]))):=kfr kS flp
  have nl3:l3≠lp:=zab cA rf
  have lR:(upd H6 lp (.lst ((ts.map (·.1)).map V.str++[V.str "z"]))) l3=some (.lst (NS.map V.str)):=by rw[zad nl3];exact k6 _ _ (k5 _ _ (k4 _ _ (k3 _ _ cA (by simp)) (by simp)) (by simp)) (by simp)
  generalize upd H6 lp (.lst ((ts.map (·.1)).map V.str++[V.str "z"]))=H7 at iT fZ lR
  refine⟨_,rfl,.inl ⟨rfl,_,SqL.of iT⟩,.l lt _ rfl rfl iT ?_⟩
  have nl3t:l3≠lt:=zab (k3 _ _ cA (by simp)) flt
  have kk8:Keep [] H (upd H7 lt (.lst [])):=kfr fZ sX
  have jc:(upd H7 lt (.lst [])) l3=some (.lst (NS.map V.str)):=by rw[zad nl3t];exact lR
  generalize upd H7 lt (.lst [])=H8 at kk8 jc
  refine⟨_,rfl,l3,rfl,⟨_,SqL.of jc⟩,zig (zs:=NS) (λj σ H'=>Aj3 (Ex5 λx7 x8 x9 cI fW=>σ=[some (.ref p),some (.ref x),some (.ref u),some (.ref l3),some (.int (0+(i:Int))),some (.ref lp),some (.ref lt),x7,x8,x9,cI,fW]) (H' l3=some (.lst (NS.map V.str))) (Keep [] H H'))
   ⟨⟨_,_,_,_,_,rfl⟩,jc,kk8⟩ (λj σ H' _ hh=>SqL.of hh.2) ?_ ?_⟩
  ·rintro j hj σ H9 ⟨⟨y7,y8,y9,kI,y11,rfl⟩,eJ,k9⟩
   have hNj:=hNm _ (Qq hj)
   generalize NS[j]=nm at hNj
   by_cases aA:nm∈fs.map (·.1)
   ·obtain ⟨e',ax,nu⟩:=Ql.mp aA
    have tf:e'.1=nm:=nu
    subst tf
    obtain⟨e,he,ee⟩:=Ql.mp (cb.mem_iff.mpr aA)
    have t8:e.1=e'.1:=ee
    have g:=(R.keep k9).get ax
    refine⟨_,rfl,_,rfl,u,_,rfl,g,_,rfl,zb6 rfl ?_⟩
    refine⟨_,rfl,x,dx,_,rfl,(Wk k9).ob,rfl,_,rfl,x,dx,d,ts,e,by rw[t8];rfl,Wk k9,he,λlr r9=>?_⟩
    have flr:H lr=none:=zas k9 r9 (by simp)
    have fH:Keep [] H9 (upd H9 lr (.lst (e.2.1.map V.str))):=Keep.new r9
    have cZ:(upd H9 lr (.lst (e.2.1.map V.str))) lr=some (.lst (e.2.1.map V.str)):=zac
    generalize upd H9 lr (.lst (e.2.1.map V.str))=dF at fH cZ
    have R10:=R.keep (k9.trans fH)
    have bG:=R10.ro e' ax
    refine⟨_,rfl,_,rfl,_,rfl,u,_,rfl,R10.get ax,lr,e'.2.2,_,_,rfl,cZ,bG,by rw[aF e he e' ax t8];exact same_strs _,true,rfl,iteF ?_⟩
    have lT:=fH _ _ eJ (by simp)
    have n3r:l3≠lr:=zab eJ r9
    have ad:e.2.1.length≤60:=by rw[aF e he e' ax t8];exact aR e' ax
    exact⟨_,rfl,.inl ⟨rfl,_,SqL.of cZ⟩,_,rfl,lr,_,_,rfl,rfl,cZ,by rw[Qa];omega,⟨_,_,_,_,_,rfl⟩,by rw[zad n3r];exact lT,kfr (k9.trans fH) flr⟩
   ·have e0:nm = "nobody" := hNj.resolve_left aA
    have hnt:nm∉ts.map (·.1):=λz=>aA (cb.mem_iff.mp z)
    refine⟨_,rfl,_,rfl,u,_,rfl,(R.keep k9).out aA,_,rfl,zbw rfl ?_⟩
    refine⟨_,rfl,_,rfl,x,dx,d,ts,nm,rfl,Wk k9,hnt,λl10 dF lV fH=>⟨(by show 2≤sizeLine;decide),λpF lU=>?_⟩⟩
    have n1:l10≠pF:=zab lV lU
    have k11:Keep [] H9 (upd dF pF (.lst [.bl true,.bl true])):=fH.trans (Keep.new lU)
    exact⟨l10,pF,[true,true],rfl,rfl,SqL.of (by rw[zad n1];exact lV),SqL.of zac,_,rfl,iteF ⟨⟨_,_,_,_,_,rfl⟩,k11 _ _ eJ (by simp),k9.trans k11⟩⟩
  ·rintro σ H9 ⟨⟨y7,y8,y9,kI,y11,rfl⟩,eJ,k9⟩
   exact⟨⟨_,_,_,_,_,_,_,_,rfl⟩,eJ,k9⟩
 ·rintro σ H2 ⟨⟨x4,x5,x6,x7,x8,x9,cI,fW,rfl⟩,cA,k2⟩
  have aS:=hp.keep k2 (by simp)
  have gm:(NS.map V.str).length=NS.length:=Qa ..
  have n3p:l3≠p:=zf3 aS cA
  have Wk2:∀{H':Hp},Keep [p] H2 H'→WAt H' C x dx d ts:=λkk=>(Wk k2).pot aS kk
  have Rk2:∀{H':Hp},Keep [p] H2 H'→RF H' u fs:=λkk=>by
   have R2:=R.keep k2
   refine⟨?_,R.nd,λe he=>kk _ _ (R2.ro e he) (by simpa using zf3 aS (R2.ro e he))⟩
   rcases R2.dc with q | ⟨o,q⟩
   ·exact .inl (kk _ _ q (by simpa using za3 q aS.1 (by intro z;cases z)))
   ·exact .inr ⟨o,kk _ _ q (by simpa using za3 q aS.1 (by intro z;cases z))⟩
  have atN:∀{j:Nat} (h:j<NS.length),atI (NS.map V.str) (j:Int)=some (.str NS[j]):=λh=>zax (by rw[Qr,Qc h];rfl)
  refine⟨(40:Int),rfl,by decide,by omega,zcl (lo:=0) (λi σ H'=>Aj3 (Ex8 λx4 x5 x6 x7 x8 x9 cI fW=>σ=[some (.ref p),some (.ref x),some (.ref u),some (.ref l3),x4,x5,x6,x7,x8,x9,cI,fW]) (Ex2 λb' m'=>Pot H' p b' m') (Keep [p] H2 H'))
   ⟨⟨_,_,_,_,_,_,_,_,rfl⟩,⟨_,_,aS⟩,Keep.refl⟩ ?_ (λ σ H' hh=>by obtain⟨_,_,k9⟩:=hh;exact k H' ((k2.sub (by simp)).trans k9))⟩
  rintro i σ H3 hi ⟨⟨y4,y5,y6,y7,y8,y9,kI,y11,rfl⟩,⟨b3,m3,ba⟩,k3⟩
  have rj:=k3 _ _ cA (by simpa using n3p)
  refine⟨_,rfl,_,rfl,_,rfl,l3,_,rfl,.inl (SqL.of rj),p,b3,m3,_,rfl,ba,by omega,by omega,λj4 b4 m4 H4 sV h41 bA ij=>?_⟩
  obtain⟨j1,rfl⟩:=Zm sV
  have hj1:j1<NS.length:=by omega
  have k4:Keep [p] H2 H4:=k3.trans (za8 ij)
  have lS:=k4 _ _ cA (by simpa using n3p)
  refine⟨l3,_,_,_,rfl,rfl,SqL.of lS,atN hj1,?_⟩
  refine⟨_,rfl,_,rfl,_,rfl,l3,_,rfl,.inl (SqL.of lS),p,b4,m4,_,rfl,bA,by omega,by omega,λj5 b5 m5 H5 sU h51 bf fG=>?_⟩
  obtain⟨j2,rfl⟩:=Zm sU
  have bH:j2<NS.length:=by omega
  have k5:Keep [p] H2 H5:=k4.trans (za8 fG)
  have rh:=k5 _ _ cA (by simpa using n3p)
  refine⟨l3,_,_,_,rfl,rfl,SqL.of rh,atN bH,?_⟩
  generalize NS[j1]=one
  generalize NS[j2]=oth
  refine⟨_,rfl,x,dx,_,rfl,(Wk2 k5).ob,rfl,_,rfl,_,rfl,x,dx,d,ts,one,oth,rfl,Wk2 k5,λH6 k6=>?_⟩
  have k6':Keep [p] H2 H6:=k5.trans (k6.sub (by simp))
  have dN:=bf.keep k6 (by simp)
  have fin:Aj3 (Ex8 λx4 x5 x6 x7 x8 x9 cI fW=>[some (V.ref p),some (V.ref x),some (V.ref u),some (V.ref l3),some (V.int (0+(i:Int))),y5,y6,y7,y8,some (V.str one),some (V.str oth),some (V.bl (decide (oth∈row (rsOf ts) one)))]=[some (V.ref p),some (V.ref x),some (V.ref u),some (V.ref l3),x4,x5,x6,x7,x8,x9,cI,fW]) (Ex2 λb' m'=>Pot H6 p b' m') (Keep [p] H2 H6):=⟨⟨_,_,_,_,_,_,_,_,rfl⟩,⟨_,_,dN⟩,k6'⟩
  refine⟨_,rfl,_,rfl,true,rfl,iteF ?_⟩
  have R6:=Rk2 k6'
  by_cases aA:one∈fs.map (·.1)
  ·obtain ⟨e',ax,nu⟩:=Ql.mp aA
   have tf:e'.1=one:=nu
   subst tf
   refine⟨_,rfl,_,rfl,_,rfl,u,_,rfl,R6.get ax,_,rfl,zb6 rfl ⟨_,rfl,_,rfl,_,rfl,u,_,rfl,R6.get ax,e'.2.2,_,rfl,.inl (SqL.of (R6.ro e' ax)),rfl,zcm _,?_⟩⟩
   have er:row (rsOf ts) e'.1=e'.2.1:=by rw[gJ];exact zbp R.nd ax
   have ev:(if false=true then !inV (V.str oth) (e'.2.1.map V.str) else inV (V.str oth) (e'.2.1.map V.str))=decide (oth∈row (rsOf ts) e'.1):=by rw[if_neg (by decide),ze3,er]
   rw[ev]
   refine⟨rfl,_,rfl,?_⟩
   rw[decide_eq_true rfl]
   exact iteF fin
  ·refine ⟨_,rfl,_,rfl,_,rfl,u,_,rfl,R6.out aA,_,rfl,zbw rfl ?_⟩
   have er:row (rsOf ts) one=[]:=by rw[gJ];exact zcu (by unfold rsOf;rw[List.map_map];exact aA)
   have ev:decide (oth∈row (rsOf ts) one)=false:=decide_eq_false (by rw[er];simp)
   rw[ev]at fin ⊢
   refine⟨rfl,_,rfl,?_⟩
   rw[decide_eq_true rfl]
   exact iteF fin
end
end K21
end
section
namespace K21
open PySem L2 Wb PySem.W
abbrev sLaw:Stmt:=top 38
inductive IspLaw(K:Na)(vs:List V)(H:Hp)(Q:VK):Prop
 |mk (a:Nc) (ns:List Int) (h0:vs=[.ref a]) (h1:SqL K H a (ns.map V.int)) (h2:ns.length≤63) (h3:∀H',Q (.bl true) H'):IspLaw K vs H Q
def spLaw(K:Na):Sp:=λvs H Q _=>IspLaw K vs H Q
abbrev csLw:Scope:=scOf (aOf 0 (eOf (bAt (sAt sLaw 0) 2)))
def csLw_k:csLw.kind=.function:=by rfl
def csLw_c:∀y∈csLw.names,y.2≠.cell:=by decide +kernel
def csLw_n:∀y∈csLw.names,y.2=.local→csLw.names.lookup y.1=some .local:=by decide +kernel
def csLw_f:∀y∈csLw.names,y.2=.free→(zag sLaw).names.lookup y.1=some .cell∨(zag sLaw).names.lookup y.1=some .free:=by decide +kernel
abbrev Led:List Ent→List Ent→Prop:=Paired λf e=>f.1=e.1∧∃j,j≤e.2.1.length∧f.2.1=rot e.2.1 j∧Frst f.2.1
def zdn(h:Led fs es):fs.map (·.1)=es.map (·.1):=by
 induction h with
 |nil=>rfl
 |cons h _ ih=>rw[Qk,Qk,ih,h.1]
def led_mem(h:Led fs es)(hf:f∈fs):∃e∈es,f.1=e.1∧∃j,j≤e.2.1.length∧f.2.1=rot e.2.1 j∧Frst f.2.1:=by
 induction h with
 |nil=>cases hf
 | cons h _ ih =>
  rcases Qh.mp hf with z | z
  ·subst z;exact⟨_,Qe,h⟩
  ·obtain ⟨e0,h1,h2⟩:=ih z
   exact⟨e0,Qg _ h1,h2⟩
def led_row{ts fs es:List Ent}(nde:(es.map (·.1)).Nodup)(hn:∀e∈es,e.2.1.Nodup)(L:Led fs es)(ndt:(ts.map (·.1)).Nodup)(hp:(ts.map (·.1)).Perm (es.map (·.1)))(hr:∀y,∃k,row (rsOf ts) y=rot (row (rsOf es) y) k)(hf:∀e∈ts,Frst e.2.1)(y:Str):row (rsOf ts) y=row (rsOf fs) y:=by
 have ndf:(fs.map (·.1)).Nodup:=by rw[zdn L];exact nde
 by_cases hy:y∈ts.map (·.1)
 ·obtain ⟨t,ht,rfl⟩:=Ql.mp hy
  have pP:t.1∈fs.map (·.1):=by rw[zdn L];exact hp.mem_iff.mp hy
  obtain⟨f,hff,ef⟩:=Ql.mp pP
  have ef':f.1=t.1:=ef
  obtain⟨e,he,e1,j,hj,e2,e3⟩:=led_mem L hff
  obtain⟨k,ek⟩:=hr t.1
  rw[zbp ndt ht]at ek ⊢
  rw[←ef',zbp ndf hff]
  rw[←ef',e1,zbp nde he]at ek
  have h1:=hf t ht
  rw[ek]at h1 ⊢
  rw[e2]at e3 ⊢
  by_cases hk:k≤e.2.1.length
  ·exact rot_one (hn e he) hk hj h1 e3
  ·have e0:rot e.2.1 k=rot e.2.1 0:=by unfold rot;rw [List.drop_of_length_le (by omega),List.take_of_length_le (by omega)];simp
   rw[e0]at h1 ⊢
   exact rot_one (hn e he) (Zh _) hj h1 e3
 ·have pP:y∉fs.map (·.1):=by rw [zdn L];exact fun z=>hy (hp.mem_iff.mpr z)
  rw[zcu (by unfold rsOf;rw[List.map_map];exact hy),zcu (by unfold rsOf;rw[List.map_map];exact pP)]
section
variable{P:Ni}{w:Nl}{K:Na}{mg:Nf}{base:Nm}
def scLaw:zap [qS, "_law_k",qP, "_law_rows_here", "_law_due", "_law_web"] [qS] (zag sLaw):=fsk
def ok_law(F:Fun K "law" "law" sLaw f fd)(FP:Fun K "_law_pot" "_law_pot" sPot fp fdp)(bP:Binds K fdp [qS, "_law_k"] [])(mP:mg "_law_pot" = some (.ref fp))(GP:FnOk P w K mg base CX0 1 fp fdp [qS, "_law_k"] (spPot K))(FD:Fun K "_law_drawn" "_law_drawn" sDrawn fd' fdd)(bD:Binds K fdd [qP] [])(mD:mg "_law_drawn" = some (.ref fd'))(GD:FnOk P w K mg base CX0 5 fd' fdd [qP] spDrawnD)(FL:Fun K "_law_from_least" "_law_from_least" zh2 fl fdl)(bL:Binds K fdl ["_law_around"] [])(mL:mg "_law_from_least" = some (.ref fl))(GL:FnOk P w K mg base CX0 1 fl fdl ["_law_around"] spLLeast)(FM:Fun K "_law_made" "_law_made" sMade fm fdm)(bM:Binds K fdm ["_law_rows_here"] [])(mM:mg "_law_made" = some (.ref fm))(GM:FnOk P w K mg base CX0 6 fm fdm ["_law_rows_here"] (spMade C))(FR:Fun K "_law_right" "_law_right" sRight fr fdr)(bR:Binds K fdr [qP, "_law_web", "_law_due"] [])(mR:mg "_law_right" = some (.ref fr))(GR:FnOk P w K mg base CX0 3 fr fdr [qP, "_law_web", "_law_due"] (spRight C))(fj:mg "dict" = none)(bj:mg "range" = none)(ad:mg "len" = none)(cN:mg "min" = none)(iS:mg "max" = none):FnOk P w K mg base CX0 7 f fd [qS] (spLaw K):=by
 refine F.okL scLaw (λcdv A outer s0 H vs Q E hr h=>?_)
 obtain⟨a,ns,rfl,ha,oi,kq⟩:=h
 have aI:Room 1 _:=hr.mono (by decide)
 have lD:Room 3 _:=hr.mono (by decide)
 have hr5:Room 5 _:=hr.mono (by decide)
 have aT:=sizeLine_eq
 refine⟨_,zae (zbq Zq rfl (zci rfl bj (zaa (zaj (call_max2 rfl) (by rfl) iS PyProof.Rows.boot_max (zaa zai (zaa (zaj (call_min2 rfl) (by rfl) cN Kg (zaa (zaj zan (by rfl) ad Zz (zaa (pv 0) zaf)) (zaa zai zaf))) zaf))) zaf)) (zbf 1 scLaw.nd)
   (zae (zau 2 scLaw.nd (zam GP aI rfl mP FP.kp bP .nil za0 (zaa (pv 0) (zaa (pv 1) zaf))))
   (zae (zau 3 scLaw.nd (zam GD hr5 rfl mD FD.kp bD .nil za0 (zaa (pv 2) zaf)))
   (zae (zau 4 scLaw.nd (zca (zd2 rfl) (by rfl) fj PyProof.Rows.boot_dict (zaa (pe_lc (M:=["_law_place", "_law_around"]) (ix:=[none,none]) (noB (n:=2) csLw_k csLw_c csLw_n csLw_f rfl ndMa) rfl (za7 (pv 3))
     (λC a7 ex s H=>zf4 (K:=K) (n:=2) rfl rfl (za1 (zbf 0 ndMa) (za1 (zbf 1 ndMa) zcv))) (λC a7 ex s H=>zdi)
     (λC a7 ex s H=>zdj (zaa (pv 0) (zaa (zam GL (by exact aI) rfl (by exact mL) FL.kp bL .nil za0 (zaa (pv 1) zaf)) zaf)))) zaf)))
   (zae (zau 5 scLaw.nd (zam GM hr rfl mM FM.kp bM .nil za0 (zaa (pv 3) zaf)))
   (zah (zcc (PW.pt (pw_or (za5 op_isN (pv 5) pe_non (zbt _)) (pw_or1 (zfe (zf2 (zam GR lD rfl mR FR.kp bR .nil za0 (zaa (pv 2) (zaa (pv 5) (zaa (pv 4) zaf))))))))) (zah zfi) zba)))))))
  (zah (zbe pe_bl)),?_⟩
 refine⟨_,rfl,a,_,rfl,.inl ha,_,_,rfl,_,_,rfl,_,rfl,?_,?_,?_⟩
 ·split<;>split<;>omega
 ·rw[Qa];split<;>split<;>omega
 refine zcl (lo:=0) (λi σ H'=>Aj2 (Keep [] H H') (Ex5 λx1 x2 x3 x4 x5=>σ=[some (.ref a),x1,x2,x3,x4,x5])) ⟨Keep.refl,_,_,_,_,_,rfl⟩ ?_ (λ σ H' hh=>kq _)
 rintro i σ H1 hi ⟨k1,x1,x2,x3,x4,x5,rfl⟩
 have hi8:i≤1000:=by
  rw[Qa]at hi
  split at hi<;>split at hi<;>omega
 have ei:(0:Int)+(i:Int)=(i:Int):=by omega
 rw[ei]
 refine⟨_,rfl,_,rfl,a,ns,i,rfl,sq_keep ha k1,hi8,by omega,λp b2 m2 H2 hpf aS k2=>?_⟩
 have fpH:H p=none:=zas k1 hpf (by simp)
 refine⟨_,rfl,p,b2,m2,rfl,aS,λl bs es cs aa b3 m3 H3 R Ct bQ hok ba k3=>?_⟩
 have jT:Keep [] H H3:=λc u ec _=>k3 c u (k2 _ _ (k1 c u ec (by simp)) (by simp)) (by simpa using zab ec fpH)
 have aK:(es.map (·.1)).Nodup:=Ct.nd
 have lB:∀e∈es,e.2.1.Nodup:=λe he=>by have:=Ct.rn e.1;rw[zbp aK he]at this;exact this
 have aR:∀e∈es,e.2.1.length≤40:=λe he=>by
  have h2:∀y∈e.2.1,y∈es.map (·.1):=λy hy=>Ct.inn' (x:=e.1) (by rw[zbp aK he];exact hy)
  have:=zd1 (lB e he) h2
  rw[Qa]at this
  omega
 have da:bs.length=es.length:=Zt R.ts
 refine⟨_,rfl,l,rfl,⟨_,SqL.of R.ls⟩,λi m ys τ H'=>Ex2 λ(ap:Nk) (es2:List Ent)=>Aj8 (m=es.length-i) (i≤es.length) (ys=ap.map V.ref) (Ex2 λx0 x1=>τ=[x0,x1]) (Paired (λa (e:Ent)=>H' a=some (.tup [.str e.1,.ref e.2.2])) ap es2) (∀e∈es2,H' e.2.2=some (.lst (e.2.1.map V.str))) (Led es2 (es.take i)) (Keep [] H3 H'),
  ⟨es.length,[],[],rfl,Zh _,rfl,⟨none,none,rfl⟩,.nil,(λe he=>by cases he),.nil,Keep.refl⟩,?_⟩
 rintro j m ys τ H4 ⟨ap,es2,rfl,hj,rfl,⟨x0,x1,rfl⟩,aQ,bG,cg,k4⟩
 have cS:ap.length=j:=by rw[Zt aQ,Zt cg,Zc];omega
 have R4:=R.keep k4
 by_cases ae:j<es.length
 ·have iX:j < bs.length:=by omega
  refine .inr ⟨⟨_,.ref bs[j],SqL.of R4.ls,by rw[Qr,Qc iX];rfl⟩,by rw[Qa];omega,?_⟩
  rintro v H5 ⟨rfl,hv⟩
  have dI:=hv _ (SqL.of R4.ls)
  rw[Qr,Qc iX]at dI
  obtain rfl:V.ref bs[j]=v:=Qs dI
  obtain⟨aw,bp⟩:=zaz R4.ts iX
  have aY:es[j]∈es:=Qq ae
  have tk:es.take (j+1)=es.take j++[es[j]]:=Qo ae
  have dL:=R4.ro _ aY
  generalize es[j]=e at aY tk bp dL
  refine⟨bs[j],_,rfl,SqT.of bp,rfl,_,_,rfl,_,_,rfl,rfl,_,rfl,_,rfl,e.2.2,e.2.1,rfl,dL,Zi (aR e aY) (by decide),λq r H6 gf cR hq _ k6=>⟨(by show 2≤sizeLine;decide),λt ht=>?_⟩⟩
  have k7:Keep [] H5 (upd H6 t (.tup [.str e.1,.ref q])):=k6.trans (Keep.new ht)
  refine⟨_,by exact zar1 ‹_›,ap++[t],es2++[(e.1,rot e.2.1 r,q)],rfl,ae,by rw[Qt];rfl,⟨_,_,rfl⟩,?_,λe' ax=>?_,?_,k4.trans k7⟩
  ·exact zao (Paired.imp' (λa e h=>k7 _ _ h (by simp)) aQ) (.cons zac .nil)
  ·rcases Qf.mp ax with z | z
   ·exact k7 _ _ (bG e' z) (by simp)
   ·rw [Qb.mp z]
    show(upd H6 t (.tup [.str e.1,.ref q])) q=some (.lst ((rot e.2.1 r).map V.str))
    rw[zad (zab hq ht)];exact hq
  ·rw[tk];exact zao cg (.cons ⟨rfl,r,gf,rfl,cR⟩ .nil)
 have gq:j=es.length:=by omega
 subst gq
 rw[Qu (Qd _)]at cg
 refine .inl ⟨⟨_,SqL.of R4.ls,by rw[Qa,da];exact Qd _⟩,λhd gS=>?_⟩
 have k5:Keep [] H4 (upd H4 hd (.lst (ap.map V.ref))):=Keep.new gS
 have md:(upd H4 hd (.lst (ap.map V.ref))) hd=some (.lst (ap.map V.ref)):=zac
 generalize upd H4 hd (.lst (ap.map V.ref))=H5 at k5 md
 have qb:Paired (λa (e:Ent)=>H5 a=some (.tup [.str e.1,.ref e.2.2])) ap es2:=Paired.imp' (λa e h=>k5 _ _ h (by simp)) aQ
 have og:(es2.map λe:Ent=>(e.1,V.ref e.2.2)).map (·.1)=es.map (·.1):=by rw[Zp];exact zdn cg
 refine⟨hd,ap,es2.map λe=>(e.1,V.ref e.2.2),rfl,md,zhf qb,by rw[og];exact aK,λd fk=>?_⟩
 have qE:((es2.map λe:Ent=>(e.1,V.ref e.2.2)).map λp=>((Sum.inr p.1:Key),p.2))=eV es2:=by rw[Zp];rfl
 rw[qE]
 have k6:Keep [] H5 (upd H5 d (.dK (eV es2))):=Keep.new fk
 have my:(upd H5 d (.dK (eV es2))) d=some (.dK (eV es2)):=zac
 generalize upd H5 d (.dK (eV es2))=H6 at k6 my
 have jU:Keep [] H3 H6:=(k4.trans k5).trans k6
 refine⟨_,rfl,l,bs,es,cs,aa,rfl,R.keep jU,bQ,λe he=>(hok e he).1,Ct,λx dx dd ts H7 wt cb hrt cR dW _ k7=>?_⟩
 have k37:=jU.trans k7
 refine⟨_,rfl,rfl,_,rfl,zbw rfl ?_⟩
 have bg:=zdn cg
 have ko:es2.length=es.length:=Zt cg
 have gc:ts.length=es.length:=by have:=cb.length_eq;rwa[Qa,Qa]at this
 refine⟨_,rfl,_,rfl,_,rfl,p,x,dx,dd,d,b3,m3,ts,es2,rfl,ba.keep k37 (by simp),wt,⟨.inl (k7 _ _ my (by simp)),by rw[bg];exact aK,λe he=>k7 _ _ (k6 _ _ (k5 _ _ (bG e he) (by simp)) (by simp)) (by simp)⟩,by rw[bg];exact cb,led_row aK lB cg wt.ta.nd cb hrt cR,dW,by omega,λf hf=>?_,?_,λH8 k8=>⟨true,rfl,iteF ⟨?_,_,_,_,_,_,rfl⟩⟩⟩
 ·obtain ⟨e,he,_,r,_,e2,_⟩:=led_mem cg hf
  have:=aR e he
  rw[e2]
  unfold rot
  rw[Qm,Yj,Zc]
  omega
 ·rw [bg]
  intro z
  obtain⟨e,he,ee⟩:=Ql.mp z
  exact(hok e he).2 ee
 ·exact λc u ec _=>k8 c u (k37 _ _ (jT c u ec (by simp)) (by simp)) (by simpa using zab ec fpH)
end
end K21
end
section
namespace Tim
open PySem PyProof.Rows
def zgu:Bool→Keyed→Array Keyed→Nat→Nat→Nat→StateT SortSt Sem (Option Nat):=sortPriv% PySem.Builtin.gallop
def zem:Array Keyed→Array Keyed→StateT SortSt Sem (Array Keyed):=sortPriv% PySem.Builtin.mergeLo
def zen:Array Keyed→Array Keyed→StateT SortSt Sem (Array Keyed):=sortPriv% PySem.Builtin.mergeHi
section
variable{prog:Ni}{w:Nl}{A:Nn}{E:Nb}{s:Ng}{kd:SortKind}{O:KeyOrd}{key:Keyed→O.α}{a₀:Array Keyed}
def Cmp(prog:Ni)(w:Nl)(A:Nn)(E:Nb)(s:Ng)(kd:SortKind)(O:KeyOrd)(key:Keyed→O.α)(a₀:Array Keyed):Prop :=
 ∀(x y:Keyed) (st:SortSt) (Q:Option Bool→SortSt→Prop),x∈a₀.toList→y∈a₀.toList→kindOf st=kd→Q (some (O.blt (key x) (key y))) st→wpS (model prog w) A E s (lt' x y) Q st
def gk(O:KeyOrd)(key:Keyed→O.α)(xs:Array Keyed)(i:Nat):O.α:=match xs[i]? with
 |some p=>key p
 |none=>key (.none,.none)
def ze4{xs:Array Keyed}{i:Nat}{p:Keyed}(h:xs[i]?=some p):gk O key xs i=key p:=by unfold gk;rw[h]
def zeq{xs ys:Array Keyed}{i j:Nat}(h:xs[i]?=ys[j]?):gk O key xs i=gk O key ys j:=by unfold gk;rw[h]
def Of(a₀ xs:Array Keyed):Prop:=∀(i:Nat) (p:Keyed),xs[i]?=some p→p∈a₀.toList
def zaw(O:KeyOrd)(key:Keyed→O.α)(left:Bool)(ky:Keyed)(arr:Array Keyed)(i:Nat):Bool:=if left=true then O.blt (gk O key arr i) (key ky) else !(O.blt (key ky) (gk O key arr i))
def zak{arr:Array Keyed}{i:Nat}{p:Keyed}{Q:Keyed→SortSt→Prop}{st:SortSt}(h:arr[i]?=some p)(q:Q p st):wpS (model prog w) A E s (elem' arr i) Q st:=by
 rw[elem'_eq,h];exact wpS_pure q
def zea(left:Bool)(ky:Keyed)(arr:Array Keyed)(i:Nat):StateT SortSt Sem (Option Bool):=do
 let x ←elem' arr i
 if left=true then lt' x ky else do
  let r ←lt' ky x
  pure (r.map λz=>!z)
def zex{left:Bool}{ky:Keyed}{arr:Array Keyed}{i:Nat}{Q:Option Bool→SortSt→Prop}{st:SortSt}(C:Cmp prog w A E s kd O key a₀)(hk:kindOf st=kd)(hO:Of a₀ arr)(hy:ky∈a₀.toList)(hi:i<arr.size)(q:Q (some (zaw O key left ky arr i)) st):wpS (model prog w) A E s (zea left ky arr i) Q st:=by
 have e:=getElem?_pos arr i hi
 unfold zea
 refine wpS_bind (zak e ?_)
 have m:=hO _ _ e
 unfold zaw at q
 rw[ze4 e]at q
 cases left with
 |true=>exact C _ _ _ _ m hy hk q
 |false=>exact wpS_bind (C _ _ _ _ hy m hk (wpS_pure q))
def za6{left:Bool}{ky:Keyed}{arr:Array Keyed}{base n hint:Nat}{Q:Option Nat→SortSt→Prop}{st:SortSt}(C:Cmp prog w A E s kd O key a₀)(hk:kindOf st=kd)(hO:Of a₀ arr)(hy:ky∈a₀.toList)(hb:base+n≤arr.size)(hh:hint<n)(mono:∀i j,i≤j→j<n→zaw O key left ky arr (base+j)=true→zaw O key left ky arr (base+i)=true)(h:∀k,k≤n→(∀i,i<k→zaw O key left ky arr (base+i)=true)→(∀i,k≤i→i<n→zaw O key left ky arr (base+i)=false)→Q (some k) st) :
  wpS (model prog w) A E s (zgu left ky arr base n hint) Q st:=by
 generalize hP:(λi=>zaw O key left ky arr (base+i))=P
 have eP:∀i,zaw O key left ky arr (base+i)=P i:=λi=>by rw[←hP]
 simp only[eP]at mono h
 have ask:∀{i:Nat} {Q':Option Bool→SortSt→Prop},i<n→Q' (some (P i)) st→wpS (model prog w) A E s (zea left ky arr (base+i)) Q' st:=λ{i Q'} hi q=>zex C hk hO hy (by exact zar2 ‹_› ‹_›) (by rw[eP];exact q)
 have anti:∀i j,i≤j→j<n→P i=false→P j=false:=λi j aX hj hi=>by
  cases e:P j with
  |false=>rfl
  |true=>rw[mono i j aX hj e]at hi;exact hi
 have last:∀(f:Nat→(Option (Option Nat)×Nat×Nat)→StateT SortSt Sem (ForInStep (Option (Option Nat)×Nat×Nat))) (lo hi:Nat),lo≤hi→hi≤n→(∀i,i<lo→P i=true)→(∀i,hi≤i→i<n→P i=false) →
   (∀x l r Q',l≥r→Q' (ForInStep.done (none,l,r)) st→wpS (model prog w) A E s (f x (none,l,r)) Q' st) →
   (∀x l r Q',¬l≥r→r≤n→(P (l+(r-l)/2)=true→Q' (ForInStep.yield (none,l+(r-l)/2+1,r)) st)→(P (l+(r-l)/2)=false→Q' (ForInStep.yield (none,l,l+(r-l)/2)) st)→wpS (model prog w) A E s (f x (none,l,r)) Q' st) →
   wpS (model prog w) A E s (forIn [:n] (none,lo,hi) f) (λc a9=>a9=st∧∃k,c=(none,k,k)∧k≤n∧(∀i,i<k→P i=true)∧(∀i,k≤i→i<n→P i=false)) st:=by
  intro f lo hi h1 h2 h3 h4 f1 f2
  refine wpS_forRange
   (I:=λx c a9=>Aj2 (a9=st) (Ex2 λl r=>Aj6 (c=(none,l,r)) (l≤r) (r≤n) (r-l≤n-x) (∀i,i<l→P i=true) (∀i,r≤i→i<n→P i=false))) ?step ?fin ?init
  case init=>exact⟨rfl,lo,hi,rfl,h1,h2,by omega,h3,h4⟩
  case fin =>
   rintro c a9 ⟨rfl,l,r,rfl,a1,a2,a3,a4,a5⟩
   have:l=r:=by omega
   subst this
   exact⟨rfl,l,rfl,a2,a4,a5⟩
  case step =>
   rintro x c a9 _ hx ⟨rfl,l,r,rfl,a1,a2,a3,a4,a5⟩
   by_cases aL:l≥r
   ·refine f1 x l r _ aL ?_
    have:l=r:=by exact Ji ‹_› ‹_›
    subst this
    exact⟨rfl,l,rfl,a2,a4,a5⟩
   ·refine f2 x l r _ aL a2 (fun e=>?_) fun e=>?_
    ·exact⟨rfl,_,_,rfl,by omega,by assumption,by omega,λi hi=>mono i _ (by omega) (by omega) e,a5⟩
    ·exact⟨rfl,_,_,rfl,by exact Zy _ _,by omega,by omega,a4,λi g1 g2=>anti _ i g1 g2 e⟩
 unfold zgu
 refine wpS_bind (ask (i:=hint) hh ?_)
 cases e0:P hint with
 | true =>
  refine wpS_bind (wpS_mono (wpS_forRange
   (I:=λx c a9=>Aj2 (a9=st) (Ex2 λla of=>Aj5 (c=(none,la,of)) (P (hint+la)=true) (hint+la<n) (la<of) (x<of)))
   (Q:=λc a9=>Aj2 (a9=st) (Ex2 λla of=>Aj5 (c=(none,la,of)) (P (hint+la)=true) (hint+la<n) (la<of) ((n-hint≤of)∨(Aj2 (of<n-hint) (P (hint+of)=false))))) ?step ?fin ?init) ?post)
  case init=>exact⟨rfl,0,1,rfl,e0,hh,by exact Qd _,by exact Qd _⟩
  case fin =>
   rintro c a9 ⟨rfl,la,of,rfl,a1,a2,a3,a4⟩
   exact⟨rfl,la,of,rfl,a1,a2,a3,.inl (by omega)⟩
  case step =>
   rintro x c a9 _ hx ⟨rfl,la,of,rfl,a1,a2,a3,a4⟩
   dsimp only
   by_cases aL:of≥n-hint
   ·rw [if_pos aL]
    exact wpS_pure ⟨rfl,la,of,rfl,a1,a2,a3,.inl aL⟩
   ·rw [if_neg aL]
    refine wpS_bind (ask (i:=hint+of) (by omega) ?_)
    cases e:P (hint+of) with
    |true=>exact wpS_pure ⟨rfl,of,2*of+1,rfl,e,by omega,by omega,by omega⟩
    |false=>exact wpS_pure ⟨rfl,la,of,rfl,a1,a2,a3,.inr ⟨by omega,e⟩⟩
  case post =>
   rintro c a9 ⟨rfl,la,of,rfl,a1,a2,a3,a4⟩
   refine wpS_bind (wpS_mono (last _ (hint+la+1) (hint+min of (n-hint)) (by omega) (by omega) (λi hi=>mono i _ (by omega) a2 a1) ?_ ?_ ?_) ?_)
   ·intro i g1 g2
    rcases a4 with a4 | ⟨a4,a5⟩
    ·omega
    ·exact anti _ i (by omega) g2 a5
   ·intro x l r Q' aL q
    dsimp only
    rw[if_pos aL]
    exact wpS_pure q
   ·intro x l r Q' aL hr q1 q2
    dsimp only
    rw[if_neg aL]
    refine wpS_bind (ask (i:=l+(r-l)/2) (by omega) ?_)
    cases e:P (l+(r-l)/2) with
    |true=>exact wpS_pure (q1 e)
    |false=>exact wpS_pure (q2 e)
   ·rintro c a9 ⟨rfl,k,rfl,b1,b2,b3⟩
    exact wpS_pure (h k b1 b2 b3)
 | false =>
  refine wpS_bind (wpS_mono (wpS_forRange
   (I:=λx c a9=>Aj2 (a9=st) (Ex2 λla of=>Aj5 (c=(none,la,of)) (P (hint-la)=false) (la≤hint) (la<of) (x<of)))
   (Q:=λc a9=>Aj2 (a9=st) (Ex2 λla of=>Aj5 (c=(none,la,of)) (P (hint-la)=false) (la≤hint) (la<of) ((hint+1≤of)∨(Aj2 (of<hint+1) (P (hint-of)=true))))) ?step ?fin ?init) ?post)
  case init=>exact⟨rfl,0,1,rfl,e0,by exact Zh _,by exact Qd _,by exact Qd _⟩
  case fin =>
   rintro c a9 ⟨rfl,la,of,rfl,a1,a2,a3,a4⟩
   exact⟨rfl,la,of,rfl,a1,a2,a3,.inl (by omega)⟩
  case step =>
   rintro x c a9 _ hx ⟨rfl,la,of,rfl,a1,a2,a3,a4⟩
   dsimp only
   by_cases aL:of≥hint+1
   ·rw [if_pos aL]
    exact wpS_pure ⟨rfl,la,of,rfl,a1,a2,a3,.inl aL⟩
   ·rw [if_neg aL]
    refine wpS_bind (ask (i:=hint-of) (by omega) ?_)
    cases e:P (hint-of) with
    |true=>exact wpS_pure ⟨rfl,la,of,rfl,a1,a2,a3,.inr ⟨by omega,e⟩⟩
    |false=>exact wpS_pure ⟨rfl,of,2*of+1,rfl,e,by omega,by omega,by omega⟩
  case post =>
   rintro c a9 ⟨rfl,la,of,rfl,a1,a2,a3,a4⟩
   refine wpS_bind (wpS_mono (last _ (hint+1-min of (hint+1)) (hint-la) (by omega) (by omega) ?_ (λi g1 g2=>anti _ i g1 g2 a1) ?_ ?_) ?_)
   ·intro i hi
    rcases a4 with a4 | ⟨a4,a5⟩
    ·omega
    ·exact mono i _ (by omega) (by omega) a5
   ·intro x l r Q' aL q
    dsimp only
    rw[if_pos aL]
    exact wpS_pure q
   ·intro x l r Q' aL hr q1 q2
    dsimp only
    rw[if_neg aL]
    refine wpS_bind (ask (i:=l+(r-l)/2) (by omega) ?_)
    cases e:P (l+(r-l)/2) with
    |true=>exact wpS_pure (q1 e)
    |false=>exact wpS_pure (q2 e)
   ·rintro c a9 ⟨rfl,k,rfl,b1,b2,b3⟩
    exact wpS_pure (h k b1 b2 b3)
end
section
variable{σ α β:Type}{M:Model}{A:Nn}{E:Nb}{s:Ng}{Q:α→σ→Prop}{st:σ}{c:Prop}[Decidable c]
def zb8{m:StateT σ Sem α}(h:∀Q0:α→σ→Prop,(∀r a9,Q r a9→Q0 r a9)→wpS M A E s m Q0 st):wpS M A E s m Q st:=h Q λ_ _ z=>z
def jp_if{f:Unit→β→StateT σ Sem α}{x y:β}(h:∀z,wpS M A E s (f () z) Q st):wpS M A E s (if c then f () x else f () y) Q st:=by
 split
 ·exact h _
 ·exact h _
def zal{x y:StateT σ Sem α}(h1:c→wpS M A E s x Q st)(h2:¬c→wpS M A E s y Q st):wpS M A E s (if c then x else y) Q st:=by
 split
 next z=>exact h1 z
 next z=>exact h2 z
end
section
variable{prog:Ni}{w:Nl}{A:Nn}{E:Nb}{s:Ng}{kd:SortKind}{O:KeyOrd}{key:Keyed→O.α}{a₀:Array Keyed}
def le(O:KeyOrd)(key:Keyed→O.α)(x y:Keyed):Prop:=O.kle (key x) (key y)
structure Jn(O:KeyOrd)(key:Keyed→O.α)(all out ra rb:List Keyed):Prop where
 perm:(out++ra++rb).Perm all
 so:out.Pairwise (le O key)
 lo:∀x∈out,∀y,(y∈ra∨y∈rb)→le O key x y
 sa:ra.Pairwise (le O key)
 sb:rb.Pairwise (le O key)
variable{all out ra rb seg:List Keyed}
def Jn.appA(j:Jn O key all out (seg++ra) rb)(h:∀x∈seg,∀y∈rb,le O key x y):Jn O key all (out++seg) ra rb:=by
 obtain⟨s1,s2,s3⟩:=Zv.mp j.sa
 refine⟨?_,Zv.mpr ⟨j.so,s1,λx hx y hy=>j.lo x hx y (.inl (Qv _ hy))⟩,λx hx y hy=>?_,s2,j.sb⟩
 ·have:=j.perm;simpa[Qp] using this
 ·rcases Qf.mp hx with q | q
  ·rcases hy with z | z
   ·exact j.lo x q y (.inl (Qj _ z))
   ·exact j.lo x q y (.inr z)
  ·rcases hy with z | z
   ·exact s3 x q y z
   ·exact h x q y z
def Jn.appB(j:Jn O key all out ra (seg++rb))(h:∀x∈seg,∀y∈ra,le O key x y):Jn O key all (out++seg) ra rb:=by
 obtain⟨s1,s2,s3⟩:=Zv.mp j.sb
 refine⟨?_,Zv.mpr ⟨j.so,s1,λx hx y hy=>j.lo x hx y (.inr (Qv _ hy))⟩,λx hx y hy=>?_,j.sa,s2⟩
 ·have p1:(out++seg++ra++rb).Perm (out++ra++(seg++rb)):=by
   rw[Qp out seg,Qp out,Qp,Qp]
   refine Zx out ?_
   rw[←Qp,←Qp]
   exact Jg rb Wc
  exact p1.trans j.perm
 ·rcases Qf.mp hx with q | q
  ·rcases hy with z | z
   ·exact j.lo x q y (.inl z)
   ·exact j.lo x q y (.inr (Qj _ z))
  ·rcases hy with z | z
   ·exact h x q y z
   ·exact s3 x q y z
def Mg(O:KeyOrd)(key:Keyed→O.α)(all res:List Keyed):Prop:=res.Perm all∧res.Pairwise (le O key)
def Jn.finA(j:Jn O key all out ra []):Mg O key all (out++ra) :=
 ⟨by have:=j.perm;rwa[Zs]at this,Zv.mpr ⟨j.so,j.sa,λx hx y hy=>j.lo x hx y (.inl hy)⟩⟩
def Jn.finB(j:Jn O key all out [] rb):Mg O key all (out++rb) :=
 ⟨by have:=j.perm;rwa[Zs]at this,Zv.mpr ⟨j.so,j.sb,λx hx y hy=>j.lo x hx y (.inr hy)⟩⟩
def Jn.finL(j:Jn O key all out ra rb)(h:∀x∈rb,∀y∈ra,le O key x y):Mg O key all (out++rb++ra):=by
 refine⟨List.Perm.trans ?_ j.perm,Zv.mpr ⟨Zv.mpr ⟨j.so,j.sb,λx hx y hy=>j.lo x hx y (.inr hy)⟩,j.sa,λx hx y hy=>?_⟩⟩
 ·rw [Qp,Qp]
  exact Zx out Wc
 ·rcases Qf.mp hx with q | q
  ·exact j.lo x q y (.inl hy)
  ·exact h x q y hy
def zbr{a:Array Keyed}{i:Nat}(h:i<a.size):a.toList.drop i=a[i]::a.toList.drop (i+1):=by
 rw[We (by simpa using h)];simp
def za9{a:Array Keyed}{i:Nat}:(a.extract i a.size).toList=a.toList.drop i:=by
 have:(a.extract i a.size).toList=(a.toList.drop i).take (a.size-i):=by simp
 rw[this]
 exact Qu (by simp)
def zcn{a:Array Keyed}{i k:Nat}(h:i+k≤a.size):(a.extract i (i+k)).toList++a.toList.drop (i+k)=a.toList.drop i:=by
 have e:(a.extract i (i+k)).toList=(a.toList.drop i).take k:=by simp[List.take_drop]
 rw[e,←List.drop_drop]
 exact Zl _ _
def zbi{x y z:Keyed}(h1:le O key x y)(h2:le O key y z):le O key x z:=Yu h1 h2
def zc9{x y:Keyed}{l:List Keyed}(p:(x::l).Pairwise (le O key))(h:y∈x::l):le O key x y:=by
 rcases Qh.mp h with e | e
 ·rw[e];exact Yx _
 ·exact(Ua.mp p).1 y e
def Jn.pushB{a b:Array Keyed}{o:Array Keyed}{ia ib:Nat}(j:Jn O key all o.toList (a.toList.drop ia) (b.toList.drop ib))(h1:ia<a.size)(h2:ib<b.size)(h:le O key b[ib] a[ia]) :
  Jn O key all (o.push b[ib]).toList (a.toList.drop ia) (b.toList.drop (ib+1)):=by
 rw[Wp]
 rw[zbr h2]at j
 refine j.appB (seg:=[b[ib]]) λx hx y hy=>?_
 rw[Qb.mp hx]
 have p:=j.sa
 rw[zbr h1]at p hy
 exact zbi h (zc9 p hy)
def Jn.pushA{a b:Array Keyed}{o:Array Keyed}{ia ib:Nat}(j:Jn O key all o.toList (a.toList.drop ia) (b.toList.drop ib))(h1:ia<a.size)(h2:ib<b.size)(h:le O key a[ia] b[ib]) :
  Jn O key all (o.push a[ia]).toList (a.toList.drop (ia+1)) (b.toList.drop ib):=by
 rw[Wp]
 rw[zbr h1]at j
 refine j.appA (seg:=[a[ia]]) λx hx y hy=>?_
 rw[Qb.mp hx]
 have p:=j.sb
 rw[zbr h2]at p hy
 exact zbi h (zc9 p hy)
def zgk{a:Array Keyed}{i k:Nat}{x:Keyed}(h:i+k≤a.size)(hx:x∈(a.extract i (i+k)).toList):∃m,∃(hm:i+m<a.size),m<k∧x=a[i+m]:=by
 obtain⟨m,hm,e⟩:=Zf hx
 have hz:(a.extract i (i+k)).toList.length=k:=by simp;lia
 refine⟨m,by lia,by exact zar7 ‹_› ‹_›,?_⟩
 rw[←e]
 simp
def Jn.runA{a b:Array Keyed}{o:Array Keyed}{ia ib k:Nat}(j:Jn O key all o.toList (a.toList.drop ia) (b.toList.drop ib))(h1:ia+k≤a.size)(h2:ib<b.size)(h:∀m (hm:ia+m<a.size),m<k→le O key a[ia+m] b[ib]) :
  Jn O key all (o++a.extract ia (ia+k)).toList (a.toList.drop (ia+k)) (b.toList.drop ib):=by
 rw[Ze]
 rw[←zcn h1]at j
 refine j.appA λx hx y hy=>?_
 obtain⟨m,hm,iR,rfl⟩:=zgk h1 hx
 have p:=j.sb
 rw[zbr h2]at p hy
 exact zbi (h m hm iR) (zc9 p hy)
def Jn.runB{a b:Array Keyed}{o:Array Keyed}{ia ib k:Nat}(j:Jn O key all o.toList (a.toList.drop ia) (b.toList.drop ib))(h1:ib+k≤b.size)(h2:ia<a.size)(h:∀m (hm:ib+m<b.size),m<k→le O key b[ib+m] a[ia]) :
  Jn O key all (o++b.extract ib (ib+k)).toList (a.toList.drop ia) (b.toList.drop (ib+k)):=by
 rw[Ze]
 rw[←zcn h1]at j
 refine j.appB λx hx y hy=>?_
 obtain⟨m,hm,iR,rfl⟩:=zgk h1 hx
 have p:=j.sa
 rw[zbr h2]at p hy
 exact zbi (h m hm iR) (zc9 p hy)
def gk_at{xs:Array Keyed}{i:Nat}(h:i<xs.size):gk O key xs i=key xs[i]:=ze4 (getElem?_pos xs i h)
def srt_get{xs:Array Keyed}(p:xs.toList.Pairwise (le O key)){i j:Nat}(aX:i≤j)(hj:j<xs.size):le O key (xs[i]'(Wa aX hj)) xs[j]:=by
 rcases Nat.lt_or_ge i j with h | h
 ·have:=Wy.mp p i j (by simpa using Wa aX hj) (by simpa using hj) h
  simpa using this
 ·have e:i=j:=by exact Ji ‹_› ‹_›
  subst e;exact Yx _
def zc2{ky:Keyed}{xs:Array Keyed}{base n:Nat}(p:xs.toList.Pairwise (le O key))(hb:base+n≤xs.size):∀i j,i≤j→j<n→zaw O key false ky xs (base+j)=true→zaw O key false ky xs (base+i)=true:=by
 intro i j aX hj h
 unfold zaw at h ⊢
 rw[gk_at (by lia)]at h ⊢
 simp only[Wj,if_false,Wu]at h ⊢
 exact Yu (srt_get p (show base+i≤base+j by lia) (by exact zar2 ‹_› ‹_›)) (show O.kle _ _ from h)
def zde{ky:Keyed}{xs:Array Keyed}{base n:Nat}(p:xs.toList.Pairwise (le O key))(hb:base+n≤xs.size):∀i j,i≤j→j<n→zaw O key true ky xs (base+j)=true→zaw O key true ky xs (base+i)=true:=by
 intro i j aX hj h
 unfold zaw at h ⊢
 rw[gk_at (by lia)]at h ⊢
 simp only[if_true]at h ⊢
 exact KeyOrd.klt_of_kle_of_klt (srt_get p (show base+i≤base+j by lia) (by exact zar2 ‹_› ‹_›)) h
def right_le{ky:Keyed}{xs:Array Keyed}{i:Nat}(h:i<xs.size)(e:zaw O key false ky xs i=true):le O key xs[i] ky:=by
 unfold zaw at e
 rw[gk_at h]at e
 simp only[Wj,if_false,Wu]at e
 exact e
def right_lt{ky:Keyed}{xs:Array Keyed}{i:Nat}(h:i<xs.size)(e:zaw O key false ky xs i=false):O.klt (key ky) (key xs[i]):=by
 unfold zaw at e
 rw[gk_at h]at e
 simp only[Wj,if_false,Jz]at e
 exact e
def left_lt{ky:Keyed}{xs:Array Keyed}{i:Nat}(h:i<xs.size)(e:zaw O key true ky xs i=true):O.klt (key xs[i]) (key ky):=by
 unfold zaw at e
 rw[gk_at h]at e
 simp only[if_true]at e
 exact e
def left_le{ky:Keyed}{xs:Array Keyed}{i:Nat}(h:i<xs.size)(e:zaw O key true ky xs i=false):le O key ky xs[i]:=by
 unfold zaw at e
 rw[gk_at h]at e
 simp only[if_true]at e
 exact e
def SG(st a9:SortSt):Prop:=∃g,a9=SortSt.mk' (kindOf st) (arrOf st) (pendingOf st) g (failedOf st)
def zd4{a b:Array Keyed}{Q:Array Keyed→SortSt→Prop}{st:SortSt}(C:Cmp prog w A E s kd O key a₀)(hk:kindOf st=kd)(oa:Of a₀ a)(ob:Of a₀ b)(sa:a.toList.Pairwise (le O key))(sb:b.toList.Pairwise (le O key))(ha:0<a.size)(hb:0<b.size)(h0:O.klt (key b[0]) (key a[0]))(hl:∀y∈b.toList,le O key y a[a.size-1])(h:∀(res:Array Keyed) (a9:SortSt),Mg O key (a.toList++b.toList) res.toList→SG st a9→Q res a9):wpS (model prog w) A E s (zem a b) Q st:=by
 have ia_:∀i (hi:i<a.size),a[i]∈a₀.toList:=λi hi=>oa i _ (getElem?_pos a i hi)
 have ib_:∀i (hi:i<b.size),b[i]∈a₀.toList:=λi hi=>ob i _ (getElem?_pos b i hi)
 have ea:∀i (hi:i<a.size),a[i]?=some a[i]:=λi hi=>getElem?_pos a i hi
 have eb:∀i (hi:i<b.size),b[i]?=some b[i]:=λi hi=>getElem?_pos b i hi
 have sgk:∀{a9},SG st a9→kindOf a9=kd:=λ⟨g,e⟩=>by rw[e];exact hk
 have endB:∀{o:Array Keyed} {i k:Nat},Jn O key (a.toList++b.toList) o.toList (a.toList.drop i) (b.toList.drop k)→k=b.size→Mg O key (a.toList++b.toList) (o++a.extract i++b.extract k).toList:=λ{o i k} j e=>by
  rw[Ze,Ze,za9,za9]
  have z:b.toList.drop k=[]:=by rw[e];simp
  rw[z]at j ⊢
  rw[Zs]
  exact j.finA
 have endA:∀{o:Array Keyed} {i k:Nat},Jn O key (a.toList++b.toList) o.toList (a.toList.drop i) (b.toList.drop k)→i=a.size→Mg O key (a.toList++b.toList) (o++a.extract i++b.extract k).toList:=λ{o i k} j e=>by
  rw[Ze,Ze,za9,za9]
  have z:a.toList.drop i=[]:=by rw[e];simp
  rw[z]at j ⊢
  rw[Zs]
  exact j.finB
 have endL:∀{o:Array Keyed} {i k:Nat},Jn O key (a.toList++b.toList) o.toList (a.toList.drop i) (b.toList.drop k)→i+1=a.size→Mg O key (a.toList++b.toList) (o++b.extract k++a.extract i).toList:=λ{o i k} j e=>by
  rw[Ze,Ze,za9,za9]
  refine j.finL λx hx y hy=>?_
  rw[zbr (by lia)]at hy
  have z:a.toList.drop (i+1)=[]:=by rw[e];simp
  rw[z]at hy
  rw[Qb.mp hy]
  have:=hl x (Yy hx)
  have e2:a.size-1=i:=by lia
  simp only[e2]at this
  exact this
 unfold zem
 refine wpS_bind (wpS_lift (wpAny_rule ⟨rfl,?_⟩))
 refine wpS_bind (zak (eb 0 hb) ?_)
 have j0:Jn O key (a.toList++b.toList) (#[b[0]]:Array Keyed).toList (a.toList.drop 0) (b.toList.drop 1):=by
  have j:Jn O key (a.toList++b.toList) (#[]:Array Keyed).toList (a.toList.drop 0) (b.toList.drop 0):=⟨by simp,List.Pairwise.nil,λx hx=>by simp at hx,sa,sb⟩
  exact j.pushB ha hb (Yf h0)
 by_cases c1:b.size=1
 ·rw [if_pos (by simp [c1])]
  exact wpS_pure (h _ _ (endB j0 c1.symm) ⟨_,rfl⟩)
 rw[if_neg (by simp;lia)]
 by_cases c2:a.size=1
 ·rw [if_pos (by simp [c2])]
  exact wpS_pure (h _ _ (endL j0 (by lia)) ⟨_,rfl⟩)
 rw[if_neg (by simp;lia)]
 refine wpS_bind (wpS_get ?_)
 refine wpS_bind (wpS_mono (wpS_forRange
  (I:=λx c a9=>Aj2 (SG st a9) (Ex4 λo i k g=>Aj5 (c=(none,o,i,k,g)) (i+1<a.size) (k<b.size) (Jn O key (a.toList++b.toList) o.toList (a.toList.drop i) (b.toList.drop k)) (x≤i+k)))
  (Q:=λc a9=>Aj2 (SG st a9) (Ex2 λres r=>Aj2 (c=(some res,r)) (Mg O key (a.toList++b.toList) res.toList))) ?step ?fin ?init) ?post)
 case init=>exact⟨⟨_,rfl⟩,_,0,1,_,rfl,by lia,by lia,j0,by exact Zh _⟩
 case fin =>
  rintro c a9 ⟨_,o,i,k,g,rfl,a1,a2,a3,a4⟩
  exfalso;lia
 case post =>
  rintro c a9 ⟨g,res,r,rfl,m⟩
  exact wpS_pure (h res a9 m g)
 case step =>
  rintro x c ak _ hx ⟨g1,o1,i1,k1,mg,rfl,a1,a2,a3,a4⟩
  dsimp -zeta only
  refine wpS_bind (wpS_mono (wpS_forRange
   (I:=λy c a9=>Aj2 (a9=ak) (Ex5 λo i k ac bc=>Aj5 (c=(none,o,i,k,ac,bc)) (i+1<a.size) (k<b.size) (Jn O key (a.toList++b.toList) o.toList (a.toList.drop i) (b.toList.drop k)) (i1+k1+y≤i+k)))
   (Q:=λc a9=>Aj2 (a9=ak) ((Ex2 λres r=>Aj2 (c=(some res,r)) (Mg O key (a.toList++b.toList) res.toList))∨(Ex5 λo i k ac bc=>Aj5 (c=(none,o,i,k,ac,bc)) (i+1<a.size) (k<b.size) (Jn O key (a.toList++b.toList) o.toList (a.toList.drop i) (b.toList.drop k)) (i1+k1<i+k)))) ?step1 ?fin1 ?init1) ?post1)
  case init1=>exact⟨rfl,o1,i1,k1,0,0,rfl,a1,a2,a3,by exact Qd _⟩
  case fin1 =>
   rintro c a9 ⟨_,o,i,k,ac,bc,rfl,b1,b2,b3,b4⟩
   exfalso;lia
  case step1 =>
   rintro y c aq _ hy ⟨rfl,o,i,k,ac,bc,rfl,b1,b2,b3,b4⟩
   dsimp -zeta only
   refine wpS_bind (zak (eb k b2) (wpS_bind (zak (ea i (by exact Zo ‹_›)) (wpS_bind (C _ _ _ _ (ib_ k b2) (ia_ i (by exact Zo ‹_›)) (sgk g1) ?_)))))
   cases e:O.blt (key b[k]) (key (a[i]'(by exact Zo ‹_›))) with
   | true =>
    dsimp -zeta only
    rw[if_pos rfl]
    refine wpS_bind (zak (eb k b2) ?_)
    have j:=b3.pushB (by exact Zo ‹_›) b2 (Yf (show O.klt _ _ from e))
    by_cases d1:k+1=b.size
    ·rw [if_pos (by simp [d1])]
     exact wpS_pure ⟨rfl,.inl ⟨_,_,rfl,endB j d1⟩⟩
    ·rw [if_neg (by simp [d1])]
     by_cases d2:bc+1≥mg
     ·rw [if_pos d2]
      exact wpS_pure ⟨rfl,.inr ⟨_,i,k+1,_,_,rfl,b1,by exact zar5 ‹_› ‹_›,j,by lia⟩⟩
     ·rw [if_neg d2]
      exact wpS_pure ⟨rfl,_,i,k+1,_,_,rfl,b1,by exact zar5 ‹_› ‹_›,j,by exact zar4 ‹_›⟩
   | false =>
    dsimp -zeta only
    rw[if_neg (by simp)]
    refine wpS_bind (zak (ea i (by exact Zo ‹_›)) ?_)
    have j:=b3.pushA (by exact Zo ‹_›) b2 (show le O key _ _ from e)
    by_cases d1:i+1+1=a.size
    ·rw [if_pos (by simp [d1])]
     exact wpS_pure ⟨rfl,.inl ⟨_,_,rfl,endL j d1⟩⟩
    ·rw [if_neg (by simp [d1])]
     by_cases d2:ac+1≥mg
     ·rw [if_pos d2]
      exact wpS_pure ⟨rfl,.inr ⟨_,i+1,k,_,_,rfl,by exact zar5 ‹_› ‹_›,b2,j,by lia⟩⟩
     ·rw [if_neg d2]
      exact wpS_pure ⟨rfl,_,i+1,k,_,_,rfl,by exact zar5 ‹_› ‹_›,b2,j,by lia⟩
  case post1 =>
   rintro c aq ⟨rfl,⟨res,r,rfl,m⟩ | ⟨o2,i2,k2,tS,tw,rfl,b1,b2,b3,b4⟩⟩
   ·exact wpS_pure ⟨g1,res,_,rfl,m⟩
   dsimp -zeta only
   refine wpS_bind (wpS_lift (wpAny_rule ⟨rfl,?_⟩))
   refine wpS_bind (wpS_mono (wpS_forRange
    (I:=λy c a9=>Aj2 (SG st a9) (Ex6 λo i k g ac bc=>Aj5 (c=(none,o,i,k,g,ac,bc)) (i+1<a.size) (k<b.size) (Jn O key (a.toList++b.toList) o.toList (a.toList.drop i) (b.toList.drop k)) (i2+k2≤i+k)))
    (Q:=λc a9=>Aj2 (SG st a9) ((Ex2 λres r=>Aj2 (c=(some res,r)) (Mg O key (a.toList++b.toList) res.toList))∨(Ex6 λo i k g ac bc=>Aj5 (c=(none,o,i,k,g,ac,bc)) (i+1<a.size) (k<b.size) (Jn O key (a.toList++b.toList) o.toList (a.toList.drop i) (b.toList.drop k)) (i2+k2≤i+k)))) ?step2 ?fin2 ?init2) ?post2)
   case init2=>exact⟨g1,o2,i2,k2,_,_,_,rfl,b1,b2,b3,Qd _⟩
   case fin2 =>
    rintro c a9 ⟨g,o,i,k,g',ac,bc,rfl,c1,c2,c3,c4⟩
    exact⟨g,.inr ⟨o,i,k,g',ac,bc,rfl,c1,c2,c3,c4⟩⟩
   case post2 =>
    rintro c ai ⟨g3,⟨res,r,rfl,m⟩ | ⟨o3,i3,k3,g',jL,jJ,rfl,c1,c2,c3,c4⟩⟩
    ·exact wpS_pure ⟨g3,res,_,rfl,m⟩
    dsimp -zeta only
    refine wpS_bind (wpS_modify ?_)
    obtain⟨gg,e3⟩:=g3
    exact wpS_pure ⟨⟨_,by rw[e3]⟩,o3,i3,k3,_,rfl,c1,c2,c3,by lia⟩
   case step2 =>
    rintro y c ai _ hy ⟨g3,o3,i3,k3,pE,jL,jJ,rfl,c1,c2,c3,c4⟩
    refine zb8 λQ0 aD=>?_
    dsimp -zeta only
    have sgm:∀g',SG st (SortSt.mk' (kindOf ai) (arrOf ai) (pendingOf ai) g' (failedOf ai)):=λg'=>by
     obtain⟨g,e⟩:=g3
     exact⟨g',by rw[e]⟩
    extract_lets -underBinder +onlyGivenNames s1 out s2 ia s3 ib s4 mn s5 ac bc jp
    refine jp_if (f:=jp) λm'=>?_
    refine wpS_bind (wpS_modify ?_)
    refine wpS_bind (zak (eb k3 c2) ?_)
    refine wpS_bind (za6 (base:=i3) (n:=a.size-i3) (hint:=0) C (sgk (sgm _)) oa (ib_ k3 c2) (by lia) (by lia) (zc2 sa (by lia)) λk q1 q2 q3=>?_)
    dsimp -zeta only
    have kN:∀hi:i3+k<a.size,O.klt (key b[k3]) (key a[i3+k]):=λhi=>right_lt hi (q3 k (Qd _) (by lia))
    have jr:=c3.runA (k:=k) (by lia) c2 λm hm iR=>right_le hm (q2 m iR)
    extract_lets -underBinder +onlyGivenNames ac' jp2
    have h2:∀(n':Nat) (o':Array Keyed) (f1:n'+1<a.size),i3≤n'→Jn O key (a.toList++b.toList) o'.toList (a.toList.drop n') (b.toList.drop k3)→O.klt (key b[k3]) (key (a[n']'(by exact Zo ‹_›)))→wpS (model prog w) A E s (jp2 () o' n') Q0 (SortSt.mk' (kindOf ai) (arrOf ai) (pendingOf ai) m' (failedOf ai)):=by
     intro n' o' f1 f2 fJ fl
     have f0:n'<a.size:=by exact Zo ‹_›
     refine wpS_bind (zak (eb k3 c2) ?_)
     have fK:=fJ.pushB f0 c2 (Yf fl)
     refine zal (λd=>?_) (λd=>?_)
     ·exact wpS_pure (aD _ _ ⟨sgm _,.inl ⟨_,_,rfl,endB fK (beq_iff_eq.mp d)⟩⟩)
     have d':¬k3+1=b.size:=λz=>d (beq_iff_eq.mpr z)
     refine wpS_bind (zak (ea n' f0) ?_)
     refine wpS_bind (za6 (base:=k3+1) (n:=b.size-(k3+1)) (hint:=0) C (sgk (sgm _)) ob (ia_ n' f0) (by lia) (by lia) (zde sb (by lia)) λk' r1 r2 r3=>?_)
     dsimp -zeta only
     have js:=fK.runB (k:=k') (by lia) f0 λm hm iR=>Yf (left_lt hm (r2 m iR))
     have kO:=λhi:k3+1+k'<b.size=>left_le hi (r3 k' (Qd _) (by lia))
     extract_lets -underBinder +onlyGivenNames bc' jp3
     have h3:∀(m2:Nat) (o2:Array Keyed) (p1:m2<b.size),k3+1≤m2→Jn O key (a.toList++b.toList) o2.toList (a.toList.drop n') (b.toList.drop m2)→le O key a[n'] b[m2]→wpS (model prog w) A E s (jp3 () o2 m2) Q0 (SortSt.mk' (kindOf ai) (arrOf ai) (pendingOf ai) m' (failedOf ai)):=by
      intro m2 o2 p1 p2 pJ pl
      refine wpS_bind (zak (ea n' f0) ?_)
      have pK:=pJ.pushA f0 p1 pl
      refine zal (λd=>?_) (λd=>?_)
      ·exact wpS_pure (aD _ _ ⟨sgm _,.inl ⟨_,_,rfl,endL pK (beq_iff_eq.mp d)⟩⟩)
      have d2:¬n'+1+1=a.size:=λz=>d (beq_iff_eq.mpr z)
      refine zal (λ_=>?_) (λ_=>?_)
      ·exact wpS_pure (aD _ _ ⟨sgm _,.inr ⟨_,n'+1,m2,_,_,_,rfl,by exact zar5 ‹_› ‹_›,p1,pK,by lia⟩⟩)
      ·exact wpS_pure (aD _ _ ⟨sgm _,_,n'+1,m2,_,_,_,rfl,by exact zar5 ‹_› ‹_›,p1,pK,by lia⟩)
     refine zal (λkz=>?_) (λkz=>?_)
     ·refine zal (fun d4=>?_) (fun d4=>?_)
      ·exact wpS_pure (aD _ _ ⟨sgm _,.inl ⟨_,_,rfl,endB js (beq_iff_eq.mp d4)⟩⟩)
      have tt:¬k3+1+k'=b.size:=λz=>d4 (beq_iff_eq.mpr z)
      have p1:k3+1+k'<b.size:=by lia
      exact h3 (k3+1+k') _ p1 (Zy _ _) js (kO p1)
     ·have kQ:k'=0:=Nat.eq_zero_of_not_pos kz
      have p1:k3+1<b.size:=by exact zar5 ‹_› ‹_›
      subst kQ
      exact h3 (k3+1) _ p1 (Qd _) fK (kO p1)
    refine zal (λkz=>?_) (λkz=>?_)
    ·refine zal (fun d=>?_) (fun d=>?_)
     ·exact wpS_pure (aD _ _ ⟨sgm _,.inl ⟨_,_,rfl,endL jr (beq_iff_eq.mp d)⟩⟩)
     refine zal (λe=>?_) (λe=>?_)
     ·exact wpS_pure (aD _ _ ⟨sgm _,.inl ⟨_,_,rfl,endA jr (beq_iff_eq.mp e)⟩⟩)
     have d':¬i3+k+1=a.size:=λz=>d (beq_iff_eq.mpr z)
     have e':¬i3+k=a.size:=λz=>e (beq_iff_eq.mpr z)
     have f1:i3+k+1<a.size:=by lia
     exact h2 (i3+k) _ f1 (Zy _ _) jr (kN (by exact Zo ‹_›))
    ·have kQ:k=0:=Nat.eq_zero_of_not_pos kz
     subst kQ
     exact h2 i3 _ c1 (Qd _) c3 (kN (by exact Zo ‹_›))
end
def opp(O:KeyOrd):KeyOrd where
 α:=O.α
 blt:=λa b=>O.blt b a
 irrefl:=O.irrefl
 trans:=λa b c h1 h2=>O.trans c b a h2 h1
 negTrans:=λa b c h=>(O.negTrans c b a h).symm
 total:=λa b h1 h2=>O.total a b h2 h1
section
variable{prog:Ni}{w:Nl}{A:Nn}{E:Nb}{s:Ng}{kd:SortKind}{O:KeyOrd}{key:Keyed→O.α}{a₀:Array Keyed}{all out ra rb:List Keyed}
def Jn.finM(j:Jn O key all out ra rb)(h:∀x∈ra,∀y∈rb,le O key x y):Mg O key all (out++ra++rb) :=
 ⟨j.perm,Zv.mpr ⟨Zv.mpr ⟨j.so,j.sa,fun x hx y hy=>j.lo x hx y (.inl hy)⟩,j.sb,fun x hx y hy=>by
  rcases Qf.mp hx with q | q
  ·exact j.lo x q y (.inr hy)
  ·exact h x q y hy⟩⟩
abbrev Jh(O:KeyOrd)(key:Keyed→O.α)(all:List Keyed)(o a b:Array Keyed)(na nb:Nat):Prop:=Jn (opp O) key all o.toList (a.toList.take na).reverse (b.toList.take nb).reverse
def Mg.flip{res:List Keyed}(m:Mg (opp O) key all res):Mg O key all res.reverse :=
 ⟨(Uc res).trans m.1,Xy.mpr (m.2.imp λh=>h)⟩
def zc5{a:Array Keyed}{n:Nat}(h:n<a.size):(a.toList.take (n+1)).reverse=a[n]::(a.toList.take n).reverse:=by
 rw[List.take_add_one]
 have e:a.toList[n]?=some a[n]:=by simp[h]
 rw[e]
 simp
def rev_seg{a:Array Keyed}{i n:Nat}(hi:i≤n)(h:n≤a.size):(a.extract i n).toList.reverse++(a.toList.take i).reverse=(a.toList.take n).reverse:=by
 rw[←List.reverse_append]
 congr 1
 have e:(a.extract i n).toList=(a.toList.take n).drop i:=by simp[List.drop_take]
 rw[e]
 have e2:a.toList.take i=(a.toList.take n).take i:=by rw[List.take_take];congr 1;lia
 rw[e2]
 exact Zl _ _
def zb1{a:Array Keyed}{n:Nat}:(a.extract 0 n).toList=a.toList.take n:=by simp
variable{a b o:Array Keyed}{na nb:Nat}
def Jh.pushA(j:Jh O key all o a b (na+1) (nb+1))(h1:na<a.size)(h2:nb<b.size)(h:le O key b[nb] a[na]):Jh O key all (o.push a[na]) a b na (nb+1):=by
 show Jn _ _ _ _ _ _
 rw[Wp]
 have j':Jn (opp O) key all o.toList (a.toList.take (na+1)).reverse (b.toList.take (nb+1)).reverse:=j
 rw[zc5 h1]at j'
 refine Jn.appA (seg:=[a[na]]) j' λx hx y hy=>?_
 rw[Qb.mp hx]
 have p:=j'.sb
 rw[zc5 h2]at p hy
 exact zbi (O:=opp O) h (zc9 p hy)
def Jh.pushB(j:Jh O key all o a b (na+1) (nb+1))(h1:na<a.size)(h2:nb<b.size)(h:le O key a[na] b[nb]):Jh O key all (o.push b[nb]) a b (na+1) nb:=by
 show Jn _ _ _ _ _ _
 rw[Wp]
 have j':Jn (opp O) key all o.toList (a.toList.take (na+1)).reverse (b.toList.take (nb+1)).reverse:=j
 rw[zc5 h2]at j'
 refine Jn.appB (seg:=[b[nb]]) j' λx hx y hy=>?_
 rw[Qb.mp hx]
 have p:=j'.sa
 rw[zc5 h1]at p hy
 exact zbi (O:=opp O) h (zc9 p hy)
def mem_ext{a:Array Keyed}{i n:Nat}{x:Keyed}(h:n≤a.size)(hx:x∈(a.extract i n).toList.reverse):∃m,∃(hm:m<a.size),i≤m∧m<n∧x=a[m]:=by
 obtain⟨m,hm,e⟩:=Zf (Xl.mp hx)
 have hz:(a.extract i n).toList.length=n-i:=by simp;lia
 refine⟨i+m,by lia,by exact Zy _ _,by lia,?_⟩
 rw[←e]
 simp
def Jh.runA{at_:Nat}(j:Jh O key all o a b na (nb+1))(hi:at_≤na)(h1:na≤a.size)(h2:nb<b.size)(h:∀m (hm:m<a.size),at_≤m→m<na→le O key b[nb] a[m]):Jh O key all (o++(a.extract at_ na).reverse) a b at_ (nb+1):=by
 show Jn _ _ _ _ _ _
 rw[Ze,Wl]
 have j':Jn (opp O) key all o.toList (a.toList.take na).reverse (b.toList.take (nb+1)).reverse:=j
 rw[←rev_seg hi h1]at j'
 refine Jn.appA j' λx hx y hy=>?_
 obtain⟨m,hm,m1,m2,rfl⟩:=mem_ext h1 hx
 have p:=j'.sb
 rw[zc5 h2]at p hy
 exact zbi (O:=opp O) (h m hm m1 m2) (zc9 p hy)
def Jh.runB{at_:Nat}(j:Jh O key all o a b (na+1) nb)(hi:at_≤nb)(h1:nb≤b.size)(h2:na<a.size)(h:∀m (hm:m<b.size),at_≤m→m<nb→le O key a[na] b[m]):Jh O key all (o++(b.extract at_ nb).reverse) a b (na+1) at_:=by
 show Jn _ _ _ _ _ _
 rw[Ze,Wl]
 have j':Jn (opp O) key all o.toList (a.toList.take (na+1)).reverse (b.toList.take nb).reverse:=j
 rw[←rev_seg hi h1]at j'
 refine Jn.appB j' λx hx y hy=>?_
 obtain⟨m,hm,m1,m2,rfl⟩:=mem_ext h1 hx
 have p:=j'.sa
 rw[zc5 h2]at p hy
 exact zbi (O:=opp O) (h m hm m1 m2) (zc9 p hy)
def zd5{Q:Array Keyed→SortSt→Prop}{st:SortSt}(C:Cmp prog w A E s kd O key a₀)(hk:kindOf st=kd)(oa:Of a₀ a)(ob:Of a₀ b)(sa:a.toList.Pairwise (le O key))(sb:b.toList.Pairwise (le O key))(ha:0<a.size)(hb:0<b.size)(h0:O.klt (key b[0]) (key a[0]))(hl:∀y∈b.toList,le O key y a[a.size-1])(h:∀(res:Array Keyed) (a9:SortSt),Mg O key (a.toList++b.toList) res.toList→SG st a9→Q res a9):wpS (model prog w) A E s (zen a b) Q st:=by
 have ia_:∀i (hi:i<a.size),a[i]∈a₀.toList:=λi hi=>oa i _ (getElem?_pos a i hi)
 have ib_:∀i (hi:i<b.size),b[i]∈a₀.toList:=λi hi=>ob i _ (getElem?_pos b i hi)
 have ea:∀i (hi:i<a.size),a[i]?=some a[i]:=λi hi=>getElem?_pos a i hi
 have eb:∀i (hi:i<b.size),b[i]?=some b[i]:=λi hi=>getElem?_pos b i hi
 have sgk:∀{a9},SG st a9→kindOf a9=kd:=λ⟨g,e⟩=>by rw[e];exact hk
 have endA:∀{o:Array Keyed} {i k:Nat},Jh O key (a.toList++b.toList) o a b i k→i=0→Mg O key (a.toList++b.toList) (a.extract 0 i++b.extract 0 k++o.reverse).toList:=λ{o i k} j e=>by
  subst e
  have j':Jn (opp O) key (a.toList++b.toList) o.toList [] (b.toList.take k).reverse:=j
  have m:=j'.finB.flip
  rw[Ze,Ze,Wl,zb1,zb1]
  simpa using m
 have endB:∀{o:Array Keyed} {i k:Nat},Jh O key (a.toList++b.toList) o a b i k→k=0→Mg O key (a.toList++b.toList) (a.extract 0 i++b.extract 0 k++o.reverse).toList:=λ{o i k} j e=>by
  subst e
  have j':Jn (opp O) key (a.toList++b.toList) o.toList (a.toList.take i).reverse []:=j
  have m:=j'.finA.flip
  rw[Ze,Ze,Wl,zb1,zb1]
  simpa using m
 have endL:∀{o:Array Keyed} {i k:Nat},Jh O key (a.toList++b.toList) o a b i k→k=1→Mg O key (a.toList++b.toList) (b.extract 0 k++a.extract 0 i++o.reverse).toList:=λ{o i k} j e=>by
  subst e
  have m:=(Jn.finM j λx hx y hy=>?_).flip
  ·rw [Ze,Ze,Wl,zb1,zb1]
   simpa using m
  ·rw [zc5 hb] at hy
   simp only[List.take_zero,List.reverse_nil,Qb]at hy
   rw[hy]
   have c7:x∈a.toList:=Yp (Xl.mp hx)
   have e0:a.toList=a[0]::a.toList.drop 1:=by have:=zbr (a:=a) ha;simpa using this
   rw[e0]at c7 sa
   exact Yu (O:=O) (Yf h0) (zc9 sa c7)
 obtain⟨n0,hn0⟩:∃n0,a.size=n0+1:=⟨a.size-1,by lia⟩
 obtain⟨m0,gL⟩:∃m0,b.size=m0+1:=⟨b.size-1,by lia⟩
 have eF:n0<a.size:=by lia
 have gK:m0<b.size:=by lia
 have j0:Jh O key (a.toList++b.toList) (#[a[n0]]:Array Keyed) a b n0 b.size:=by
  have j:Jh O key (a.toList++b.toList) (#[]:Array Keyed) a b (n0+1) (m0+1):=by
   have e1:a.toList.take (n0+1)=a.toList:=Qu (by simp;lia)
   have e2:b.toList.take (m0+1)=b.toList:=Qu (by simp;lia)
   show Jn _ _ _ _ _ _
   rw[e1,e2]
   exact⟨by simpa using List.Perm.append (Uc _) (Uc _),List.Pairwise.nil,λx hx=>by simp at hx,Xy.mpr (sa.imp λh=>h),Xy.mpr (sb.imp λh=>h)⟩
  rw[gL]
  refine j.pushA eF gK ?_
  have:=hl b[m0] (by simp)
  have e2:a.size-1=n0:=by lia
  simp only[e2]at this
  exact this
 unfold zen
 refine wpS_bind (wpS_lift (wpAny_rule ⟨rfl,?_⟩))
 have e2:a.size-1=n0:=by lia
 simp -zeta only [e2]
 refine wpS_bind (zak (ea n0 eF) ?_)
 by_cases c1:n0=0
 ·rw [if_pos (by simp [c1])]
  exact wpS_pure (h _ _ (endA j0 c1) ⟨_,rfl⟩)
 rw[if_neg (by simp[c1])]
 by_cases c2:b.size=1
 ·rw [if_pos (by simp [c2])]
  exact wpS_pure (h _ _ (endL j0 c2) ⟨_,rfl⟩)
 rw[if_neg (by simp[c2])]
 refine wpS_bind (wpS_get ?_)
 obtain⟨n1,rfl⟩:∃n1,n0=n1+1:=⟨n0-1,by exact zar14 ‹_›⟩
 obtain⟨m1,bh⟩:∃m1,b.size=m1+1+1:=⟨b.size-2,by lia⟩
 rw[show b.size=m1+1+1 from bh]at j0
 refine wpS_bind (wpS_mono (wpS_forRange
  (I:=λx c a9=>Aj2 (SG st a9) (Ex4 λo i k g=>Aj5 (c=(none,i+1,k+1+1,o,g)) (i<a.size) (k+1<b.size) (Jh O key (a.toList++b.toList) o a b (i+1) (k+1+1)) (i+k+x+4≤a.size+b.size)))
  (Q:=λc a9=>Aj2 (SG st a9) (Ex2 λres r=>Aj2 (c=(some res,r)) (Mg O key (a.toList++b.toList) res.toList))) ?step ?fin ?init) ?post)
 case init=>exact⟨⟨_,rfl⟩,_,n1,m1,_,by rw[bh],by exact Zo ‹_›,by lia,j0,by lia⟩
 case fin =>
  rintro c a9 ⟨_,o,i,k,g,rfl,a1,a2,a3,a4⟩
  exfalso;lia
 case post =>
  rintro c a9 ⟨g,res,r,rfl,m⟩
  exact wpS_pure (h res a9 m g)
 case step =>
  rintro x c ak _ hx ⟨g1,o1,i1,k1,mg,rfl,a1,a2,a3,a4⟩
  dsimp -zeta only
  refine wpS_bind (wpS_mono (wpS_forRange
   (I:=λy c a9=>Aj2 (a9=ak) (Ex5 λo i k ac bc=>Aj5 (c=(none,i+1,k+1+1,o,ac,bc)) (i<a.size) (k+1<b.size) (Jh O key (a.toList++b.toList) o a b (i+1) (k+1+1)) (i+k+y≤i1+k1)))
   (Q:=λc a9=>Aj2 (a9=ak) ((Ex2 λres r=>Aj2 (c=(some res,r)) (Mg O key (a.toList++b.toList) res.toList))∨(Ex5 λo i k ac bc=>Aj5 (c=(none,i+1,k+1+1,o,ac,bc)) (i<a.size) (k+1<b.size) (Jh O key (a.toList++b.toList) o a b (i+1) (k+1+1)) (i+k<i1+k1)))) ?step1 ?fin1 ?init1) ?post1)
  case init1=>exact⟨rfl,o1,i1,k1,0,0,rfl,a1,a2,a3,by exact Qd _⟩
  case fin1 =>
   rintro c a9 ⟨_,o,i,k,ac,bc,rfl,b1,b2,b3,b4⟩
   exfalso;lia
  case step1 =>
   rintro y c aq _ hy ⟨rfl,o,i,k,ac,bc,rfl,b1,b2,b3,b4⟩
   dsimp -zeta only
   simp only[Nat.add_sub_cancel]
   refine wpS_bind (zak (eb (k+1) b2) (wpS_bind (zak (ea i b1) (wpS_bind (C _ _ _ _ (ib_ (k+1) b2) (ia_ i b1) (sgk g1) ?_)))))
   cases e:O.blt (key b[k+1]) (key a[i]) with
   | true =>
    dsimp -zeta only
    rw[if_pos rfl]
    refine wpS_bind (zak (ea i b1) ?_)
    have j:=b3.pushA b1 b2 (Yf (show O.klt _ _ from e))
    by_cases d1:i=0
    ·rw [if_pos (by simp [d1])]
     exact wpS_pure ⟨rfl,.inl ⟨_,_,rfl,endA j d1⟩⟩
    ·rw [if_neg (by simp [d1])]
     obtain⟨i',rfl⟩:∃i',i=i'+1:=⟨i-1,by exact zar14 ‹_›⟩
     by_cases d2:ac+1≥mg
     ·rw [if_pos d2]
      exact wpS_pure ⟨rfl,.inr ⟨_,i',k,_,_,rfl,by exact Zo ‹_›,b2,j,by lia⟩⟩
     ·rw [if_neg d2]
      exact wpS_pure ⟨rfl,_,i',k,_,_,rfl,by exact Zo ‹_›,b2,j,by lia⟩
   | false =>
    dsimp -zeta only
    rw[if_neg (by simp)]
    refine wpS_bind (zak (eb (k+1) b2) ?_)
    have j:=b3.pushB b1 b2 (show le O key _ _ from e)
    by_cases d1:k+1=1
    ·rw [if_pos (by simpa using d1)]
     exact wpS_pure ⟨rfl,.inl ⟨_,_,rfl,endL j d1⟩⟩
    ·rw [if_neg (by simpa using d1)]
     obtain⟨k',rfl⟩:∃k',k=k'+1:=⟨k-1,by lia⟩
     by_cases d2:bc+1≥mg
     ·rw [if_pos d2]
      exact wpS_pure ⟨rfl,.inr ⟨_,i,k',_,_,rfl,b1,by exact Zo ‹_›,j,by lia⟩⟩
     ·rw [if_neg d2]
      exact wpS_pure ⟨rfl,_,i,k',_,_,rfl,b1,by exact Zo ‹_›,j,by lia⟩
  case post1 =>
   rintro c aq ⟨rfl,⟨res,r,rfl,m⟩ | ⟨o2,i2,k2,tS,tw,rfl,b1,b2,b3,b4⟩⟩
   ·exact wpS_pure ⟨g1,res,_,rfl,m⟩
   dsimp -zeta only
   refine wpS_bind (wpS_lift (wpAny_rule ⟨rfl,?_⟩))
   refine wpS_bind (wpS_mono (wpS_forRange
    (I:=λy c a9=>Aj2 (SG st a9) (Ex6 λo i k g ac bc=>Aj5 (c=(none,i+1,k+1+1,o,g,ac,bc)) (i<a.size) (k+1<b.size) (Jh O key (a.toList++b.toList) o a b (i+1) (k+1+1)) (i+k≤i2+k2)))
    (Q:=λc a9=>Aj2 (SG st a9) ((Ex2 λres r=>Aj2 (c=(some res,r)) (Mg O key (a.toList++b.toList) res.toList))∨(Ex6 λo i k g ac bc=>Aj5 (c=(none,i+1,k+1+1,o,g,ac,bc)) (i<a.size) (k+1<b.size) (Jh O key (a.toList++b.toList) o a b (i+1) (k+1+1)) (i+k≤i2+k2)))) ?step2 ?fin2 ?init2) ?post2)
   case init2=>exact⟨g1,o2,i2,k2,_,_,_,rfl,b1,b2,b3,Qd _⟩
   case fin2 =>
    rintro c a9 ⟨g,o,i,k,g',ac,bc,rfl,c1,c2,c3,c4⟩
    exact⟨g,.inr ⟨o,i,k,g',ac,bc,rfl,c1,c2,c3,c4⟩⟩
   case post2 =>
    rintro c ai ⟨g3,⟨res,r,rfl,m⟩ | ⟨o3,i3,k3,g',jL,jJ,rfl,c1,c2,c3,c4⟩⟩
    ·exact wpS_pure ⟨g3,res,_,rfl,m⟩
    dsimp -zeta only
    refine wpS_bind (wpS_modify ?_)
    obtain⟨gg,e3⟩:=g3
    exact wpS_pure ⟨⟨_,by rw[e3]⟩,o3,i3,k3,_,rfl,c1,c2,c3,by lia⟩
   case step2 =>
    rintro y c ai _ hy ⟨g3,o3,i3,k3,pE,jL,jJ,rfl,c1,c2,c3,c4⟩
    refine zb8 λQ0 aD=>?_
    dsimp -zeta only
    have sgm:∀g',SG st (SortSt.mk' (kindOf ai) (arrOf ai) (pendingOf ai) g' (failedOf ai)):=λg'=>by
     obtain⟨g,e⟩:=g3
     exact⟨g',by rw[e]⟩
    extract_lets -underBinder +onlyGivenNames s1 na s2 nb s3 out s4 mn s5 ac bc jp
    refine jp_if (f:=jp) λm'=>?_
    refine wpS_bind (wpS_modify ?_)
    refine wpS_bind (zak (eb (k3+1) c2) ?_)
    refine wpS_bind (za6 (n:=i3+1) (hint:=i3) C (sgk (sgm _)) oa (ib_ (k3+1) c2) (by lia) (by exact Qd _) (zc2 sa (by lia)) λfC q1 q2 q3=>?_)
    dsimp -zeta only
    have jr:=c3.runA (at_:=fC) q1 (by assumption) c2 λm hm m1 m2=>Yf (right_lt hm (by have:=q3 m m1 m2;rwa[Jp]at this))
    have kN:=λ(t:Nat) (ht:t<fC) (hi:t<a.size)=>right_le (O:=O) (key:=key) (ky:=b[k3+1]) hi (by have:=q2 t ht;rwa[Jp]at this)
    extract_lets -underBinder +onlyGivenNames kk ac' jp2
    have h2:∀(n':Nat) (o':Array Keyed) (f1:n'<a.size),n'≤i3→Jh O key (a.toList++b.toList) o' a b (n'+1) (k3+1+1)→le O key a[n'] b[k3+1]→wpS (model prog w) A E s (jp2 () (n'+1) o') Q0 (SortSt.mk' (kindOf ai) (arrOf ai) (pendingOf ai) m' (failedOf ai)):=by
     intro n' o' f1 f2 fJ fl
     refine wpS_bind (zak (eb (k3+1) c2) ?_)
     have fK:=fJ.pushB f1 c2 fl
     refine zal (λd=>?_) (λd=>?_)
     ·exact wpS_pure (aD _ _ ⟨sgm _,.inl ⟨_,_,rfl,endL fK (beq_iff_eq.mp d)⟩⟩)
     have d':¬k3+1=1:=λz=>d (beq_iff_eq.mpr z)
     refine wpS_bind (zak (ea n' f1) ?_)
     refine wpS_bind (za6 (n:=k3+1) (hint:=k3) C (sgk (sgm _)) ob (ia_ n' f1) (by lia) (by exact Qd _) (zde sb (by lia)) λdD r1 r2 r3=>?_)
     dsimp -zeta only
     have js:=fK.runB (at_:=dD) r1 (by exact Zo ‹_›) f1 λm hm m1 m2=>left_le hm (by have:=r3 m m1 m2;rwa[Jp]at this)
     have kO:=λ(t:Nat) (ht:t<dD) (hi:t<b.size)=>Yf (left_lt (O:=O) (key:=key) (ky:=a[n']) hi (by have:=r2 t ht;rwa[Jp]at this))
     extract_lets -underBinder +onlyGivenNames pL bc' jp3
     have h3:∀(m2:Nat) (o2:Array Keyed) (p1:m2+1<b.size),m2≤k3→Jh O key (a.toList++b.toList) o2 a b (n'+1) (m2+1+1)→le O key b[m2+1] a[n']→wpS (model prog w) A E s (jp3 () (m2+1+1) o2) Q0 (SortSt.mk' (kindOf ai) (arrOf ai) (pendingOf ai) m' (failedOf ai)):=by
      intro m2 o2 p1 p2 pJ pl
      refine wpS_bind (zak (ea n' f1) ?_)
      have pK:=pJ.pushA f1 p1 pl
      refine zal (λd=>?_) (λd=>?_)
      ·exact wpS_pure (aD _ _ ⟨sgm _,.inl ⟨_,_,rfl,endA pK (beq_iff_eq.mp d)⟩⟩)
      have d2:¬n'=0:=λz=>d (beq_iff_eq.mpr z)
      cases n' with
      |zero=>exact absurd rfl d2
      |succ t =>
       refine zal (λ_=>?_) (λ_=>?_)
       ·exact wpS_pure (aD _ _ ⟨sgm _,.inr ⟨_,t,m2,_,_,_,rfl,by exact Zo ‹_›,p1,pK,by lia⟩⟩)
       ·exact wpS_pure (aD _ _ ⟨sgm _,_,t,m2,_,_,_,rfl,by exact Zo ‹_›,p1,pK,by lia⟩)
     refine zal (λkz=>?_) (λkz=>?_)
     ·refine zal (fun d4=>?_) (fun d4=>?_)
      ·exact wpS_pure (aD _ _ ⟨sgm _,.inl ⟨_,_,rfl,endL js (beq_iff_eq.mp d4)⟩⟩)
      refine zal (λd5=>?_) (λd5=>?_)
      ·exact wpS_pure (aD _ _ ⟨sgm _,.inl ⟨_,_,rfl,endB js (beq_iff_eq.mp d5)⟩⟩)
      have tt:¬dD=1:=λz=>d4 (beq_iff_eq.mpr z)
      have d5':¬dD=0:=λz=>d5 (beq_iff_eq.mpr z)
      obtain⟨m2,e2⟩:∃m2,dD=m2+1+1:=⟨dD-2,by lia⟩
      have:=h3 m2 _ (by lia) (by lia) (by rw[←e2];exact js) (kO (m2+1) (by lia) (by lia))
      rw[←e2]at this
      exact this
     ·have kQ:¬ k3+1 - dD > 0:=kz
      obtain⟨m2,e2⟩:∃m2,k3=m2+1:=⟨k3-1,by lia⟩
      have:=h3 m2 _ (by lia) (by lia) (by rw[←e2];exact fK) (kO (m2+1) (by lia) (by lia))
      rw[←e2]at this
      exact this
    refine zal (λkz=>?_) (λkz=>?_)
    ·refine zal (fun d=>?_) (fun d=>?_)
     ·exact wpS_pure (aD _ _ ⟨sgm _,.inl ⟨_,_,rfl,endA jr (beq_iff_eq.mp d)⟩⟩)
     have d':¬fC=0:=λz=>d (beq_iff_eq.mpr z)
     obtain⟨n',e1⟩:∃n',fC=n'+1:=⟨fC-1,by exact zar14 ‹_›⟩
     have:=h2 n' _ (by lia) (by lia) (by rw[←e1];exact jr) (kN n' (by lia) (by lia))
     rw[←e1]at this
     exact this
    ·have kQ:¬ i3+1 - fC > 0:=kz
     exact h2 i3 _ c1 (Qd _) c3 (kN i3 (by lia) c1)
end
section
variable{prog:Ni}{w:Nl}{A:Nn}{E:Nb}{s:Ng}{kd:SortKind}{O:KeyOrd}{key:Keyed→O.α}{a₀ pre:Array Keyed}{p:Array (Nat×Nat×Nat)}{lo:Nat}
structure Bs(kd:SortKind)(a₀:Array Keyed)(p:Array (Nat×Nat×Nat))(lo:Nat)(pre:Array Keyed)(st:SortSt):Prop where
 kind:kindOf st=kd
 failed:failedOf st=none
 pend:pendingOf st=p
 perm:(arrOf st).Perm a₀
 head:∀k,k<lo→(arrOf st)[k]?=pre[k]?
def Bs.size{st:SortSt}(B:Bs kd a₀ p lo pre st):(arrOf st).size=a₀.size:=B.perm.size_eq
def Bs.mem{st:SortSt}(B:Bs kd a₀ p lo pre st){i:Nat}(hi:i<a₀.size):∃q,(arrOf st)[i]?=some q∧q∈a₀.toList:=by
 have dy:i<(arrOf st).size:=by rw[B.size];exact hi
 exact⟨_,getElem?_pos _ i dy,(Zu.mp B.perm).mem_iff.mp (by simp)⟩
def zcw{st:SortSt}{i j:Nat}{Q:Option Bool→SortSt→Prop}(C:Cmp prog w A E s kd O key a₀)(B:Bs kd a₀ p lo pre st)(hi:i<a₀.size)(hj:j<a₀.size)(h:Q (some (O.blt (gk O key (arrOf st) i) (gk O key (arrOf st) j))) st):wpS (model prog w) A E s (ltAt' i j) Q st:=by
 obtain⟨x,e1,m1⟩:=B.mem hi
 obtain⟨y,e2,m2⟩:=B.mem hj
 rw[ze4 e1,ze4 e2]at h
 rw[ltAt'_eq]
 refine wpS_bind (wpS_get ?_)
 refine wpS_bind (zak e1 (wpS_bind (zak e2 ?_)))
 exact C x y st Q m1 m2 B.kind h
def zgt{xs:Array Keyed}{i j:Nat}(hj:j≤xs.size)(k:Nat):gk O key (mirror xs i j ((j-i)/2)) k=if i≤k∧k<j then gk O key xs (i+j-1-k) else gk O key xs k:=by
 have e:=getElem?_mirror_all (i:=i) hj k
 split
 next h=>rw[if_pos h]at e;exact zeq e
 next h=>rw[if_neg h]at e;exact zeq e
def gk_bubble{xs:Array Keyed}{src d:Nat}(hs:src<xs.size)(hd:d≤src)(k:Nat):gk O key (bubble xs src d) k=if k=src-d then gk O key xs src else if src-d<k∧k≤src then gk O key xs (k-1) else gk O key xs k:=by
 have e:=getElem?_bubble hs d hd k
 split
 next h=>rw[if_pos h]at e;exact zeq e
 next h =>
  rw[if_neg h]at e
  split
  next h'=>rw[if_pos h']at e;exact zeq e
  next h'=>rw[if_neg h']at e;exact zeq e
def Bs.mirror{st:SortSt}{i j:Nat}(B:Bs kd a₀ p lo pre st)(hi:lo≤i)(hj:j≤a₀.size):Bs kd a₀ p lo pre (setArr st (mirror (arrOf st) i j ((j-i)/2))) :=
 ⟨B.kind,B.failed,B.pend,(mirror_perm _ _ _ _).trans B.perm,fun k hk=>by
  have e:=getElem?_mirror_all (xs:=arrOf st) (i:=i) (j:=j) (by rw[B.size];exact hj) k
  rw[if_neg (by lia)]at e
  exact e.trans (B.head k hk)⟩
def Bs.bubble{st:SortSt}{src d:Nat}(B:Bs kd a₀ p lo pre st)(hs:src<a₀.size)(hd:lo+d≤src):Bs kd a₀ p lo pre (setArr st (bubble (arrOf st) src d)) :=
 ⟨B.kind,B.failed,B.pend,(bubble_perm _ _ _).trans B.perm,fun k hk=>by
  have e:=getElem?_bubble (xs:=arrOf st) (src:=src) (by rw[B.size];exact hs) d (by lia) k
  rw[if_neg (by lia),if_neg (by lia)]at e
  exact e.trans (B.head k hk)⟩
def Up(O:KeyOrd)(key:Keyed→O.α)(xs:Array Keyed)(lo hi:Nat):Prop:=∀i j,lo≤i→i≤j→j<hi→O.kle (gk O key xs i) (gk O key xs j)
def Dn(O:KeyOrd)(key:Keyed→O.α)(xs:Array Keyed)(lo hi:Nat):Prop:=∀i j,lo≤i→i≤j→j<hi→O.kle (gk O key xs j) (gk O key xs i)
def Up.one{xs:Array Keyed}:Up O key xs lo (lo+1):=λi j h1 h2 h3=>by
 have:i=j:=by lia
 subst this;exact Yx _
def Dn.one{xs:Array Keyed}:Dn O key xs lo (lo+1):=λi j h1 h2 h3=>by
 have:i=j:=by lia
 subst this;exact Yx _
def Up.snoc{xs:Array Keyed}{n:Nat}(u:Up O key xs lo (lo+n))(hn:1≤n)(h:O.kle (gk O key xs (lo+n-1)) (gk O key xs (lo+n))):Up O key xs lo (lo+(n+1)):=λi j h1 h2 h3=>by
 by_cases hj:j<lo+n
 ·exact u i j h1 h2 hj
 ·have ej:j=lo+n:=by lia
  subst ej
  by_cases hi:i=lo+n
  ·subst hi;exact Yx _
  ·exact Yu (u i (lo+n-1) h1 (by lia) (by lia)) h
def Dn.snoc{xs:Array Keyed}{n:Nat}(u:Dn O key xs lo (lo+n))(hn:1≤n)(h:O.kle (gk O key xs (lo+n)) (gk O key xs (lo+n-1))):Dn O key xs lo (lo+(n+1)):=λi j h1 h2 h3=>by
 by_cases hj:j<lo+n
 ·exact u i j h1 h2 hj
 ·have ej:j=lo+n:=by lia
  subst ej
  by_cases hi:i=lo+n
  ·subst hi;exact Yx _
  ·exact Yu h (u i (lo+n-1) h1 (by lia) (by lia))
def Dn.turn{xs:Array Keyed}{hi:Nat}(d:Dn O key xs lo hi)(h:hi≤xs.size):Up O key (mirror xs lo hi ((hi-lo)/2)) lo hi:=λi j h1 h2 h3=>by
 rw[zgt h,zgt h,if_pos (by lia),if_pos (by lia)]
 exact d _ _ (by lia) (by lia) (by lia)
def gk_same{xs:Array Keyed}{i j:Nat}(hj:j≤xs.size)(h:∀k,i≤k→k<j→gk O key xs k=gk O key xs (j-1))(k:Nat):gk O key (mirror xs i j ((j-i)/2)) k=gk O key xs k:=by
 rw[zgt hj]
 split
 next q=>rw[h _ (by lia) (by lia),h k (by lia) (by lia)]
 next=>rfl
def wpS_ite{α:Type}{b:Bool}{x y:StateT SortSt Sem α}{Q:α→SortSt→Prop}{st:SortSt}(h1:b=true→wpS (model prog w) A E s x Q st)(h2:b=false→wpS (model prog w) A E s y Q st):wpS (model prog w) A E s (if b=true then x else y) Q st:=by
 cases b with
 |true=>rw[if_pos rfl];exact h1 rfl
 |false=>rw[if_neg (by simp)];exact h2 rfl
def zew{st:SortSt}{n ok:Nat}{Q:Bool→SortSt→Prop}(C:Cmp prog w A E s kd O key a₀)(hn:lo+n≤a₀.size)(hok:ok≤n)(B:Bs kd a₀ p lo pre st)(u:Up O key (arrOf st) lo (lo+ok))(h:∀a9,Bs kd a₀ p lo pre a9→Up O key (arrOf a9) lo (lo+n)→Q true a9):wpS (model prog w) A E s (binarySort' lo n ok) Q st:=by
 rw[binarySort'_eq]
 refine wpS_bind (wpS_mono (wpS_forRange (I:=λk c a9=>Aj3 (c=(none,())) (Bs kd a₀ p lo pre a9) (Up O key (arrOf a9) lo (lo+min k n))) (Q:=λc a9=>Aj3 (c=(none,())) (Bs kd a₀ p lo pre a9) (Up O key (arrOf a9) lo (lo+n))) ?step ?fin ?init) ?post)
 case post =>
  rintro c a9 ⟨rfl,B',u'⟩
  exact wpS_pure (h a9 B' u')
 case init =>
  refine⟨rfl,B,λi j h1 h2 h3=>?_⟩
  by_cases z:ok=0
  ·exact Up.one (lo:=lo) i j h1 h2 (by lia)
  ·exact u i j h1 h2 (by lia)
 case fin =>
  rintro c a9 ⟨e,B',u'⟩
  exact⟨e,B',λi j h1 h2 h3=>u' i j h1 h2 (by lia)⟩
 case step =>
  rintro k c a9 hak fP ⟨rfl,B',u'⟩
  rw[show min k n=k by lia]at u'
  refine wpS_bind (wpS_mono (wpS_forRange
   (I:=λx c av=>Aj2 (av=a9) (Ex2 λl r=>Aj6 (c=(none,l,r)) (l≤r) (r≤k) (r-l≤k-x) (∀i,i<l→O.kle (gk O key (arrOf a9) (lo+i)) (gk O key (arrOf a9) (lo+k))) (∀i,r≤i→i<k→O.klt (gk O key (arrOf a9) (lo+k)) (gk O key (arrOf a9) (lo+i)))))
   (Q:=λc av=>Aj2 (av=a9) (Ex1 λl=>Aj4 (c=(none,l,l)) (l≤k) (∀i,i<l→O.kle (gk O key (arrOf a9) (lo+i)) (gk O key (arrOf a9) (lo+k))) (∀i,l≤i→i<k→O.klt (gk O key (arrOf a9) (lo+k)) (gk O key (arrOf a9) (lo+i))))) ?is ?if_ ?ii) ?ip)
  case ii=>exact⟨rfl,0,k,rfl,by exact Zh _,by exact Qd _,by exact Qd _,λi hi=>by lia,λi g1 g2=>by lia⟩
  case if_ =>
   rintro c av ⟨rfl,l,r,rfl,b1,b2,b3,b4,b5⟩
   have:l=r:=by lia
   subst this
   exact⟨rfl,l,rfl,b2,b4,b5⟩
  case is =>
   rintro x c av _ hx ⟨rfl,l,r,rfl,b1,b2,b3,b4,b5⟩
   dsimp only
   by_cases ge:l≥r
   ·rw [if_pos ge]
    have:l=r:=by exact Ji ‹_› ‹_›
    subst this
    exact wpS_pure ⟨rfl,l,rfl,b2,b4,b5⟩
   ·rw [if_neg ge]
    refine wpS_bind (zcw C B' (by exact zar2 ‹_› ‹_›) (by lia) ?_)
    cases e:O.blt (gk O key (arrOf av) (lo+k)) (gk O key (arrOf av) (lo+(l+r)/2)) with
    |true=>exact wpS_pure ⟨rfl,l,(l+r)/2,rfl,by lia,by lia,by lia,b4,λi g1 g2=>KeyOrd.klt_of_klt_of_kle (show O.klt _ _ from e) (u' _ _ (by exact Zy _ _) (by lia) (by lia))⟩
    |false=>exact wpS_pure ⟨rfl,(l+r)/2+1,r,rfl,by lia,by assumption,by lia,λi g1=>Yu (u' (lo+i) (lo+(l+r)/2) (by exact Zy _ _) (by lia) (by lia)) (show O.kle _ _ from e),b5⟩
  case ip =>
   rintro c av ⟨rfl,l,rfl,b2,b4,b5⟩
   show wpS _ _ _ _ (do moveDown' (lo+k) (lo+l);pure (ForInStep.yield (none,()))) _ _
   rw[moveDown'_eq]
   have hb:=B'.bubble (src:=lo+k) (d:=lo+k-(lo+l)) (by exact zar2 ‹_› ‹_›) (by lia)
   refine wpS_bind (wpS_modify (wpS_pure ⟨rfl,hb,?_⟩))
   rw[show min (k+1) n=k+1 by lia]
   have hk:lo+k<(arrOf av).size:=by rw[B'.size];exact zar2 ‹_› ‹_›
   intro i j h1 h2 h3
   show O.kle (gk O key (PyProof.Rows.bubble (arrOf av) (lo+k) (lo+k-(lo+l))) i) (gk O key (PyProof.Rows.bubble (arrOf av) (lo+k) (lo+k-(lo+l))) j)
   rw[gk_bubble hk (by lia),gk_bubble hk (by lia),show lo+k-(lo+k-(lo+l))=lo+l by lia]
   have lo_:∀t,lo≤t→t<lo+l→O.kle (gk O key (arrOf av) t) (gk O key (arrOf av) (lo+k)):=λt t1 t2=>by
    have:=b4 (t-lo) (by lia)
    rwa[show lo+(t-lo)=t by lia]at this
   have hi_:∀t,lo+l≤t→t<lo+k→O.kle (gk O key (arrOf av) (lo+k)) (gk O key (arrOf av) t):=λt t1 t2=>by
    have:=b5 (t-lo) (by lia) (by lia)
    rw[show lo+(t-lo)=t by lia]at this
    exact Yf this
   repeat' split
   all_goals first
    |(exfalso;lia)
    |exact Yx _
    |exact lo_ _ (by assumption) (by lia)
    |exact hi_ _ (by lia) (by lia)
    |exact u' _ _ (by lia) (by lia) (by lia)
def zft{st:SortSt}{nrem:Nat}{Q:Option Nat→SortSt→Prop}(C:Cmp prog w A E s kd O key a₀)(hn:lo+nrem≤a₀.size)(h1:1≤nrem)(B:Bs kd a₀ p lo pre st)(h:∀m a9,Bs kd a₀ p lo pre a9→1≤m→m≤nrem→Up O key (arrOf a9) lo (lo+m)→Q (some m) a9):wpS (model prog w) A E s (countRun' lo nrem) Q st:=by
 have asc:∀(f:Nat→(Option (Option Nat)×Nat)→StateT SortSt Sem (ForInStep (Option (Option Nat)×Nat))) (a:Nat) (ak:SortSt),Bs kd a₀ p lo pre ak→1≤a→a≤nrem→Up O key (arrOf ak) lo (lo+a) →
   (∀x y Q',1≤y→y<nrem→(O.klt (gk O key (arrOf ak) (lo+y)) (gk O key (arrOf ak) (lo+y-1))→Q' (ForInStep.done (none,y)) ak)→(O.kle (gk O key (arrOf ak) (lo+y-1)) (gk O key (arrOf ak) (lo+y))→Q' (ForInStep.yield (none,y+1)) ak)→wpS (model prog w) A E s (f x (none,y)) Q' ak) →
   wpS (model prog w) A E s (forIn [a:nrem] (none,a) f) (λc a9=>a9=ak∧∃n,c=(none,n)∧a≤n∧n≤nrem∧Up O key (arrOf ak) lo (lo+n)∧(n=nrem∨O.klt (gk O key (arrOf ak) (lo+n)) (gk O key (arrOf ak) (lo+n-1)))) ak:=by
  intro f a ak B1 a1 a2 u1 hf
  refine wpS_forRange (I:=λx c a9=>Aj3 (a9=ak) (c=(none,x)) (Up O key (arrOf ak) lo (lo+x))) ?step ?fin ⟨rfl,rfl,u1⟩
  case fin =>
   rintro c a9 ⟨rfl,rfl,u'⟩
   rw[show max a nrem=nrem by lia]at u' ⊢
   exact⟨rfl,nrem,rfl,a2,Qd _,u',.inl rfl⟩
  case step =>
   rintro x c a9 g1 g2 ⟨rfl,rfl,u'⟩
   exact hf x x _ (by exact Zi ‹_› ‹_›) g2 (λe=>⟨rfl,x,rfl,g1,by exact Zo ‹_›,u',.inr e⟩) λe=>⟨rfl,rfl,u'.snoc (by exact Zi ‹_› ‹_›) e⟩
 rw[countRun'_eq]
 refine wpS_bind (wpS_mono (asc _ 1 st B (Qd _) h1 Up.one ?_) ?_)
 ·intro x y Q' y1 y2 q1 q2
  dsimp only
  refine wpS_bind (zcw C B (by exact zar2 ‹_› ‹_›) (by lia) ?_)
  cases e:O.blt (gk O key (arrOf st) (lo+y)) (gk O key (arrOf st) (lo+y-1)) with
  |true=>exact wpS_pure (q1 e)
  |false=>exact wpS_pure (q2 e)
 rintro c a9 ⟨rfl,n,rfl,n1,n2,u,bg⟩
 dsimp only
 by_cases d1:n=nrem
 ·rw [if_pos (by simp [d1])]
  exact wpS_pure (h n _ B n1 n2 u)
 rw[if_neg (by simp[d1])]
 have ae:=bg.resolve_left d1
 by_cases d2:n>1
 focus
  rw[if_pos d2]
  refine wpS_bind (zcw C B (by exact zar2 ‹_› ‹_›) (by lia) ?_)
  cases e:O.blt (gk O key (arrOf a9) lo) (gk O key (arrOf a9) (lo+n-1)) with
  |true =>
   dsimp only
   rw[if_pos rfl]
   exact wpS_pure (h n _ B n1 n2 u)
  |false=>?_
  dsimp only
  rw[if_neg (by simp)]
  have eq_:∀k,lo≤k→k<lo+n→gk O key (arrOf a9) k=gk O key (arrOf a9) (lo+n-1):=λk k1 k2 =>
   KeyOrd.kle_antisymm (u k _ k1 (by lia) (by lia)) (Yu (show O.kle _ _ from e) (u lo k (Qd _) k1 k2))
  have B2:=B.mirror (i:=lo) (j:=lo+n) (Qd _) (by lia)
  have same:=gk_same (O:=O) (key:=key) (xs:=arrOf a9) (i:=lo) (j:=lo+n) (by rw[B.size];lia) eq_
  refine wpS_bind (wpS_reverse ?_)
  have D2:Dn O key (mirror (arrOf a9) lo (lo+n) ((lo+n-lo)/2)) lo (lo+n):=λi j i1 i2 i3=>by
   rw[same,same,eq_ j (by exact Zi ‹_› ‹_›) i3,eq_ i i1 (by exact Wa ‹_› ‹_›)]
   exact Yx _
  have L2:O.klt (gk O key (mirror (arrOf a9) lo (lo+n) ((lo+n-lo)/2)) (lo+n)) (gk O key (mirror (arrOf a9) lo (lo+n) ((lo+n-lo)/2)) (lo+n-1)):=by rw[same,same];exact ae
 rotate_left
 focus
  rw[if_neg d2]
  have en:n=1:=by lia
  subst en
  have B2:=B
  have D2:Dn O key (arrOf a9) lo (lo+1):=Dn.one
  have L2:=ae
 all_goals
  refine wpS_bind (wpS_lift (wpAny_rule ⟨rfl,?_⟩))
  have D3:=D2.snoc (by assumption) (Yf L2)
  refine wpS_bind (wpS_mono (wpS_forRange
   (I:=λx c aq=>Ex1 λq=>Aj7 (c=(none,x,q)) (Bs kd a₀ p lo pre aq) (Dn O key (arrOf aq) lo (lo+x)) (2≤x) (x≤nrem) (q+1≤x) (∀i,lo+x-(q+1)≤i→i<lo+x→gk O key (arrOf aq) i=gk O key (arrOf aq) (lo+x-1)))
   (Q:=λc aq=>Ex2 λx q=>Aj7 (c=(none,x,q)) (Bs kd a₀ p lo pre aq) (Dn O key (arrOf aq) lo (lo+x)) (2≤x) (x≤nrem) (q+1≤x) (∀i,lo+x-(q+1)≤i→i<lo+x→gk O key (arrOf aq) i=gk O key (arrOf aq) (lo+x-1)))
   ?step ?fin ⟨0,rfl,B2,D3,by lia,by lia,by lia,λi i1 i2=>by congr 1;lia⟩) ?post)
  case fin =>
   rintro c aq ⟨q,rfl,b1,b2,b3,b4,b5,b6⟩
   exact⟨_,q,rfl,b1,b2,b3,b4,b5,b6⟩
  case step =>
   rintro x c aq x1 x2 ⟨q,rfl,b1,b2,b3,b4,b5,b6⟩
   dsimp only
   refine wpS_bind (zcw C b1 (by exact zar2 ‹_› ‹_›) (by lia) ?_)
   cases e1:O.blt (gk O key (arrOf aq) (lo+x)) (gk O key (arrOf aq) (lo+x-1)) with
   | true =>
    dsimp only
    rw[if_pos rfl]
    by_cases q0:q>0
    ·rw [if_pos q0]
     refine wpS_bind (wpS_reverse (wpS_pure ?_))
     have sm:=gk_same (O:=O) (key:=key) (xs:=arrOf aq) (i:=lo+x-(q+1)) (j:=lo+x) (by rw[b1.size];lia) b6
     refine⟨0,rfl,b1.mirror (by lia) (by lia),?_,by exact zg0 ‹_›,by assumption,by exact Nat.le_add_left _ _,λi i1 i2=>by congr 1;lia⟩
     refine Dn.snoc (λi j i1 i2 i3=>?_) (by exact Zo ‹_›) ?_
     ·show O.kle (gk O key (PyProof.Rows.mirror _ _ _ _) _) (gk O key (PyProof.Rows.mirror _ _ _ _) _)
      rw[sm,sm];exact b2 i j i1 i2 i3
     ·show O.kle (gk O key (PyProof.Rows.mirror _ _ _ _) _) (gk O key (PyProof.Rows.mirror _ _ _ _) _)
      rw[sm,sm];exact Yf (show O.klt _ _ from e1)
    ·rw [if_neg q0]
     exact wpS_pure ⟨0,rfl,b1,b2.snoc (by exact Zo ‹_›) (Yf (show O.klt _ _ from e1)),by exact zg0 ‹_›,by assumption,by exact Nat.le_add_left _ _,λi i1 i2=>by congr 1;lia⟩
   | false =>
    dsimp only
    rw[if_neg (by simp)]
    refine wpS_bind (zcw C b1 (by lia) (by exact zar2 ‹_› ‹_›) ?_)
    cases e2:O.blt (gk O key (arrOf aq) (lo+x-1)) (gk O key (arrOf aq) (lo+x)) with
    |true =>
     dsimp only
     rw[if_pos rfl]
     exact wpS_pure ⟨x,q,rfl,b1,b2,b3,b4,b5,b6⟩
    |false =>
     dsimp only
     rw[if_neg (by simp)]
     have eqx:=O.total _ _ e1 e2
     refine wpS_pure ⟨q+1,rfl,b1,b2.snoc (by exact Zo ‹_›) (by rw[eqx];exact Yx _),by exact zg0 ‹_›,by assumption,by exact zar4 ‹_›,λi i1 i2=>?_⟩
     rw[show lo+(x+1)-1=lo+x by lia]
     by_cases ix:i=lo+x
     ·rw[ix]
     ·rw[eqx];exact b6 i (by lia) (by lia)
  case post =>
   rintro c aq ⟨x,q,rfl,b1,b2,b3,b4,b5,b6⟩
   dsimp only
   have sm:=gk_same (O:=O) (key:=key) (xs:=arrOf aq) (i:=lo+x-(q+1)) (j:=lo+x) (by rw[b1.size];lia) b6
   by_cases q0:q>0
   focus
    rw[if_pos q0]
    refine wpS_bind (wpS_reverse ?_)
    have B5:=b1.mirror (i:=lo+x-(q+1)) (j:=lo+x) (by lia) (by lia)
    have D5:Dn O key (PyProof.Rows.mirror (arrOf aq) (lo+x-(q+1)) (lo+x) ((lo+x-(lo+x-(q+1)))/2)) lo (lo+x):=λi j i1 i2 i3=>by rw[sm,sm];exact b2 i j i1 i2 i3
   rotate_left
   focus
    rw[if_neg q0]
    have B5:=b1
    have D5:=b2
   all_goals
    refine wpS_bind (wpS_reverse ?_)
    have B6:=B5.mirror (i:=lo) (j:=lo+x) (Qd _) (by lia)
    have U6:=D5.turn (Zi (show lo+x≤a₀.size by lia) (Nat.le_of_eq B5.size.symm))
    refine wpS_bind (wpS_mono (asc _ x _ B6 (by exact Zo ‹_›) b4 U6 ?_) ?_)
    ·intro z y Q' y1 y2 q1 q2
     dsimp only
     refine wpS_bind (zcw C B6 (by exact zar2 ‹_› ‹_›) (by lia) ?_)
     show wpS _ _ _ _ (if _=true then _ else _) _ _
     exact wpS_ite (λe=>wpS_pure (q1 e)) λe=>wpS_pure (q2 e)
    ·rintro c st6 ⟨rfl,m,rfl,m1,m2,um,_⟩
     exact wpS_pure (h m _ B6 (by lia) m2 um)
end
def PR:List (Nat×Nat×Nat)→Nat→List (List Keyed)→Prop
 |[],_,[]=>True
 |q::ps,off,g::gs=>q.1=off∧q.2.1=g.length∧PR ps (off+g.length) gs
 |_,_,_=>False
theorem PR.split:∀{aP be:List (Nat×Nat×Nat)} {off:Nat} {gs:List (List Keyed)},PR (aP++be) off gs→∃g1 g2,gs=g1++g2∧g1.length=aP.length∧PR aP off g1∧PR be (off+g1.flatten.length) g2
 |[],_,off,gs,h=>⟨[],gs,rfl,rfl,trivial,by simpa using h⟩
 |q::aP,be,off,[],h=>False.elim h
 |q::aP,be,off,g::gs,⟨h1,h2,h3⟩=>by
  obtain⟨g1,g2,e,l,p1,p2⟩:=PR.split h3
  refine⟨g::g1,g2,by rw[e];rfl,by simp[l],⟨h1,h2,p1⟩,?_⟩
  rw[Wo,Qm,←Kl]
  exact p2
theorem PR.join:∀{aP be:List (Nat×Nat×Nat)} {off:Nat} {g1 g2:List (List Keyed)},PR aP off g1→PR be (off+g1.flatten.length) g2→PR (aP++be) off (g1++g2)
 |[],_,_,[],_,_,h=>by simpa using h
 |[],_,_,_::_,_,h,_=>False.elim h
 |_::_,_,_,[],_,h,_=>False.elim h
 |q::aP,be,off,g::g1,g2,⟨h1,h2,h3⟩,h=>⟨h1,h2,PR.join h3 (by rw[Wo,Qm,←Kl]at h;exact h)⟩
theorem PR.len:∀{ps:List (Nat×Nat×Nat)} {off:Nat} {gs:List (List Keyed)},PR ps off gs→ps.length=gs.length
 |[],_,[],_=>rfl
 |[],_,_::_,h=>False.elim h
 |_::_,_,[],h=>False.elim h
 |_::ps,_,_::gs,⟨_,_,h⟩=>by simp[PR.len h]
def mid_at{arr:Array Keyed}{F M S:List Keyed}(e:arr.toList=F++(M++S)){j:Nat}(hj:j<M.length):arr[F.length+j]?=some M[j]:=by
 have:arr[F.length+j]?=arr.toList[F.length+j]?:=by simp
 rw[this,e,Ur (by exact Zy _ _),show F.length+j-F.length=j by lia,Kv hj]
 simp
def mid_ext{arr:Array Keyed}{F M S:List Keyed}(e:arr.toList=F++(M++S)){i j:Nat}(hi:i≤j)(hj:j≤M.length):(arr.extract (F.length+i) (F.length+j)).toList=(M.drop i).take (j-i):=by
 have e1:(arr.extract (F.length+i) (F.length+j)).toList=(arr.toList.drop (F.length+i)).take (F.length+j-(F.length+i)):=by simp
 rw[e1,e,←List.drop_drop,List.drop_left,List.drop_append_of_le_length (by exact Zi ‹_› ‹_›),show F.length+j-(F.length+i)=j-i by lia]
 rw[List.take_append_of_le_length (by rw[Yj];lia)]
theorem zfp{sa:Nat}:∀(l:List Keyed) (n:Nat) (arr:Array Keyed) (F M S:List Keyed),arr.toList=F++(M++S)→F.length=sa+n→M.length=l.length →
  ((l.zipIdx n).foldl (λ(a:Array Keyed) (q:Keyed×Nat)=>a.setIfInBounds (sa+q.2) q.1) arr).toList=F++(l++S)
 |[],n,arr,F,M,S,e,_,hl=>by
  have:M=[]:=Kc.mp (by simpa using hl)
  rw[this]at e
  simpa using e
 |p::l,n,arr,F,[],S,e,_,hl=>by simp at hl
 | p::l,n,arr,F,m::M,S,e,hf,hl=>by
  rw[List.zipIdx_cons,Ju]
  have e2:(arr.setIfInBounds (sa+n) p).toList=(F++[p])++(M++S):=by
   rw[Jo,e,←hf,Kh _ _ (Qd _),Xo]
   simp
  have:=zfp (sa:=sa) l (n+1) _ (F++[p]) M S e2 (by rw[Qm];simp;lia) (by simpa using hl)
  rw[this]
  simp
section
variable{prog:Ni}{w:Nl}{A:Nn}{E:Nb}{s:Ng}{kd:SortKind}{O:KeyOrd}{key:Keyed→O.α}{a₀:Array Keyed}
structure Rn(kd:SortKind)(O:KeyOrd)(key:Keyed→O.α)(a₀:Array Keyed)(gs:List (List Keyed))(rest:List Keyed)(st:SortSt):Prop where
 kind:kindOf st=kd
 failed:failedOf st=none
 perm:(arrOf st).Perm a₀
 arr:(arrOf st).toList=gs.flatten++rest
 pend:PR (pendingOf st).toList 0 gs
 srt:∀g∈gs,g.Pairwise (le O key)∧g≠[]
def Rn.of{gs:List (List Keyed)}{rest:List Keyed}{st:SortSt}(R:Rn kd O key a₀ gs rest st):Of a₀ (arrOf st):=λi p e=>by
 refine(Zu.mp R.perm).mem_iff.mp ?_
 have:(arrOf st).toList[i]?=some p:=by simpa using e
 exact Yz this
def pw_get{M:List Keyed}(p:M.Pairwise (le O key)){i j:Nat}(aX:i≤j)(hj:j<M.length):le O key (M[i]'(Wa aX hj)) M[j]:=by
 rcases Nat.lt_or_ge i j with h | h
 ·exact Wy.mp p i j (Wa aX hj) hj h
 ·have e:i=j:=by exact Ji ‹_› ‹_›
  subst e;exact Yx _
def wpS_set{Q:PUnit→SortSt→Prop}{st a9:SortSt}(h:Q ⟨⟩ a9):wpS (model prog w) A E s (set a9:StateT SortSt Sem PUnit) Q st:=by
 unfold wpS;rw[StateT.run_set];exact wpAny_pure ⟨rfl,h⟩
def zcg{i:Nat}{gs:List (List Keyed)}{rest:List Keyed}{Q:Bool→SortSt→Prop}{st:SortSt}(C:Cmp prog w A E s kd O key a₀)(R:Rn kd O key a₀ gs rest st)(hi:i+1 < (pendingOf st).size)(h:∀aB a9,Rn kd O key a₀ aB rest a9→aB.length+1=gs.length→aB.flatten.length=gs.flatten.length→Q true a9):wpS (model prog w) A E s (mergeAt' i) Q st:=by
 obtain⟨aP,q1,q2,be,hp,hl⟩:∃aP q1 q2 be,(pendingOf st).toList=aP++q1::q2::be∧aP.length=i:=by
  have h1:i<(pendingOf st).toList.length:=by simp;exact Zo ‹_›
  have h2:i+1<(pendingOf st).toList.length:=by simp;assumption
  refine⟨(pendingOf st).toList.take i,(pendingOf st).toList[i],(pendingOf st).toList[i+1],(pendingOf st).toList.drop (i+2),?_,by rw[Zc];lia⟩
  rw[←We h2,←We h1,Zl]
 have pr:=R.pend
 rw[hp]at pr
 obtain⟨g1,gt,rfl,ki,pi,ph⟩:=pr.split
 obtain _ | ⟨RA,_ | ⟨RB,g2⟩⟩:=gt
 ·exact False.elim ph
 ·exact False.elim ph.2.2
 obtain⟨sa,na,pw⟩:=q1
 obtain⟨sb,nb,kM⟩:=q2
 obtain⟨e1,e2,e3,e4,ic⟩:=ph
 simp only[Jp]at e1 e2 e3 e4 ic
 subst e1 e2 e3 e4
 have x1:(pendingOf st)[i]?=some (g1.flatten.length,RA.length,pw):=by
  have:(pendingOf st)[i]?=(pendingOf st).toList[i]?:=by simp
  rw[this,hp,←hl];simp
 have x2:(pendingOf st)[i+1]?=some (g1.flatten.length+RA.length,RB.length,kM):=by
  have:(pendingOf st)[i+1]?=(pendingOf st).toList[i+1]?:=by simp
  rw[this,hp,←hl];simp
 have sA:=R.srt RA (by simp)
 have sB:=R.srt RB (by simp)
 have hA:0<RA.length:=Uf.mpr sA.2
 have hB:0<RB.length:=Uf.mpr sB.2
 have arr:(arrOf st).toList=g1.flatten++((RA++RB)++(g2.flatten++rest)):=by rw[R.arr];simp
 generalize hF:g1.flatten=F at x1 x2 arr ic hp
 have hsz:F.length+(RA.length+RB.length)≤(arrOf st).size:=by
  have:=congrArg List.length arr
  simp only[Qm,Yi]at this
  lia
 have at_:∀j (hj:j<(RA++RB).length),(arrOf st)[F.length+j]?=some (RA++RB)[j]:=λj hj=>mid_at arr hj
 have atA:∀j (hj:j<RA.length),(arrOf st)[F.length+j]?=some RA[j]:=λj hj=>by rw[at_ j (by rw[Qm];lia),List.getElem_append_left hj]
 have atB:∀j (hj:j<RB.length),(arrOf st)[F.length+RA.length+j]?=some RB[j]:=λj hj=>by
  rw[Kl,at_ (RA.length+j) (by rw[Qm];lia),List.getElem_append_right (by exact Zy _ _)]
  simp
 have memA:∀j (hj:j<RA.length),RA[j]∈a₀.toList:=λj hj=>R.of _ _ (atA j hj)
 have memB:∀j (hj:j<RB.length),RB[j]∈a₀.toList:=λj hj=>R.of _ _ (atB j hj)
 have fin:∀(M:List Keyed) (a9:SortSt),M.Perm (RA++RB)→M.Pairwise (le O key)→kindOf a9=kd→failedOf a9=none→(arrOf a9).toList=F++(M++(g2.flatten++rest)) →
   pendingOf a9=((pendingOf st).setIfInBounds i (F.length,RA.length+RB.length,pw)).eraseIdxIfInBounds (i+1)→Q true a9:=by
  intro M a9 m1 m2 m3 m4 m5 m6
  have ml:=m1.length_eq
  rw[Qm]at ml
  refine h (g1++M::g2) a9 ⟨m3,m4,?_,?_,?_,λg hg=>?_⟩ (by simp;lia) ?_
  ·refine Zu.mpr (List.Perm.trans ?_ (Zu.mp R.perm))
   rw[m5,arr]
   exact Zx F (Jg _ m1)
  ·rw[m5,←hF];simp
  ·have e:(pendingOf a9).toList=aP++(F.length,RA.length+RB.length,pw)::be:=by
    rw[m6]
    have e1:((pendingOf st).setIfInBounds i (F.length,RA.length+RB.length,pw)).toList=aP++(F.length,RA.length+RB.length,pw)::(F.length+RA.length,RB.length,kM)::be:=by
     rw[Jo,hp,←hl,Kh _ _ (Qd _),Xo]
     rfl
    rw[Array.toList_eraseIdxIfInBounds,e1,←hl,List.eraseIdx_append_of_length_le (by exact Zy _ _)]
    simp
   rw[e]
   refine pi.join ⟨by rw[Jp,hF],by rw[←ml],?_⟩
   rw[Jp,hF,ml,←Kl]
   exact ic
  ·rcases Qf.mp hg with z | z
   ·exact R.srt g (Qv _ z)
   ·rcases Qh.mp z with z | z
    ·rw [z]
     exact⟨m2,λq=>by rw[q]at ml;simp at ml;lia⟩
    ·exact R.srt g (by simp[z])
  ·simp only [Ug,Wo,Qm]
   lia
 have gkA:∀j (hj:j<RA.length),gk O key (arrOf st) (F.length+j)=key RA[j]:=λj hj=>ze4 (atA j hj)
 have gkB:∀j (hj:j<RB.length),gk O key (arrOf st) (F.length+RA.length+j)=key RB[j]:=λj hj=>ze4 (atB j hj)
 unfold mergeAt'
 refine wpS_bind (wpS_get ?_)
 rw[x1,x2]
 dsimp only
 refine wpS_bind (wpS_set ?_)
 refine wpS_bind (zak (by have:=atB 0 hB;rwa[Nat.add_zero]at this) ?_)
 refine wpS_bind (za6 C R.kind R.of (memB 0 hB) (Zi (show F.length+RA.length≤F.length+(RA.length+RB.length) by lia) hsz) hA ?_ λk k1 k2 k3=>?_)
 ·intro x y xy hy
  unfold zaw
  rw[gkA x (by exact Wa ‹_› ‹_›),gkA y hy]
  simp only[Wj,if_false,Wu]
  exact λe=>Yu (pw_get sA.1 xy hy) (show O.kle _ _ from e)
 have k2':∀j (hj:j<k) (bH:j<RA.length),le O key RA[j] RB[0]:=λj hj bH=>by
  have:=k2 j hj
  unfold zaw at this
  rw[gkA j bH]at this
  simp only[Wj,if_false,Wu]at this
  exact this
 have k3':∀j (hj:k≤j) (bH:j<RA.length),O.klt (key RB[0]) (key RA[j]):=λj hj bH=>by
  have:=k3 j hj bH
  unfold zaw at this
  rw[gkA j bH]at this
  simp only[Wj,if_false,Jz]at this
  exact this
 dsimp only
 have B0:∀y∈RB,le O key RB[0] y:=λy hy=>by
  obtain⟨j,hj,e⟩:=Zf hy
  rw[←e];exact pw_get sB.1 (Zh _) hj
 by_cases c1:RA.length-k=0
 ·rw [if_pos (by simp [c1])]
  refine wpS_pure (fin (RA++RB) _ (List.Perm.refl _) (Zv.mpr ⟨sA.1,sB.1,λx hx y hy=>?_⟩) R.kind R.failed arr rfl)
  obtain⟨j,hj,e⟩:=Zf hx
  rw[←e]
  exact zbi (k2' j (by lia) hj) (B0 y hy)
 rw[if_neg (by simp[c1])]
 have cz:F.length+k+(RA.length-k)-1=F.length+(RA.length-1):=by lia
 have lA:RA.length-1<RA.length:=by exact zar1 ‹_›
 refine wpS_bind (zak (by rw[cz];exact atA _ lA) ?_)
 refine wpS_bind (za6 C R.kind R.of (memA _ lA) (Zi (show F.length+RA.length+RB.length≤F.length+(RA.length+RB.length) by lia) hsz) (by exact zar1 ‹_›) ?_ λm n1 n2 n3=>?_)
 ·intro x y xy hy
  unfold zaw
  rw[gkB x (by exact Wa ‹_› ‹_›),gkB y hy]
  simp only[if_true]
  exact λe=>KeyOrd.klt_of_kle_of_klt (pw_get sB.1 xy hy) (show O.klt _ _ from e)
 have n2':∀j (hj:j<m) (bH:j<RB.length),O.klt (key RB[j]) (key RA[RA.length-1]):=λj hj bH=>by
  have:=n2 j hj
  unfold zaw at this
  rw[gkB j bH]at this
  simp only[if_true]at this
  exact this
 have n3':∀j (hj:m≤j) (bH:j<RB.length),le O key RA[RA.length-1] RB[j]:=λj hj bH=>by
  have:=n3 j hj bH
  unfold zaw at this
  rw[gkB j bH]at this
  simp only[if_true]at this
  exact this
 have AL:∀x∈RA,le O key x RA[RA.length-1]:=λx hx=>by
  obtain⟨j,hj,e⟩:=Zf hx
  rw[←e];exact pw_get sA.1 (by lia) lA
 dsimp only
 by_cases c2:m=0
 ·rw [if_pos (by simp [c2])]
  refine wpS_pure (fin (RA++RB) _ (List.Perm.refl _) (Zv.mpr ⟨sA.1,sB.1,λx hx y hy=>?_⟩) R.kind R.failed arr rfl)
  obtain⟨j,hj,e⟩:=Zf hy
  rw[←e]
  exact zbi (AL x hx) (n3' j (by lia) hj)
 rw[if_neg (by simp[c2])]
 have eX:((arrOf st).extract (F.length+k) (F.length+RA.length)).toList=RA.drop k:=by
  rw[mid_ext arr (by assumption) (by rw[Qm];exact Zy _ _),List.drop_append_of_le_length (by assumption),List.take_append_of_le_length (by rw[Yj];exact Qd _)]
  exact Qu (by rw[Yj];exact Qd _)
 have eY:((arrOf st).extract (F.length+RA.length) (F.length+RA.length+m)).toList=RB.take m:=by
  rw[Kl,mid_ext arr (by exact Zy _ _) (by rw[Qm];lia),List.drop_left,show RA.length+m-RA.length=m by lia]
 generalize hX:(arrOf st).extract (F.length+k) (F.length+RA.length)=Xs at eX
 generalize hY:(arrOf st).extract (F.length+RA.length) (F.length+RA.length+m)=Ys at eY
 have lX:Xs.size=RA.length-k:=by rw[←Yi,eX,Yj]
 have lY:Ys.size=m:=by rw[←Yi,eY,Zc];lia
 have gX:∀j (hj:j<Xs.size),Xs[j]=RA[k+j]'(by lia):=λj hj=>by
  have:Xs.toList[j]?=some (RA[k+j]'(by lia)):=by rw[eX,List.getElem?_drop];exact Qc (by lia)
  have e2:Xs.toList[j]?=some Xs[j]:=by simp[hj]
  rw[e2]at this;exact Qs this
 have gY:∀j (hj:j<Ys.size),Ys[j]=RB[j]'(by lia):=λj hj=>by
  have:Ys.toList[j]?=some (RB[j]'(by lia)):=by rw[eY,List.getElem?_take_of_lt (by exact zar7 ‹_› ‹_›)];exact Qc (by lia)
  have e2:Ys.toList[j]?=some Ys[j]:=by simp[hj]
  rw[e2]at this;exact Qs this
 have oX:Of a₀ Xs:=λj q e=>by
  have hj:j<Xs.size:=by
   rcases Nat.lt_or_ge j Xs.size with z | z
   ·exact z
   ·rw[getElem?_neg Xs j (by lia)]at e;cases e
  rw[getElem?_pos Xs j hj]at e
  rw[←Qs e,gX j hj];exact memA _ _
 have oY:Of a₀ Ys:=λj q e=>by
  have hj:j<Ys.size:=by
   rcases Nat.lt_or_ge j Ys.size with z | z
   ·exact z
   ·rw[getElem?_neg Ys j (by lia)]at e;cases e
  rw[getElem?_pos Ys j hj]at e
  rw[←Qs e,gY j hj];exact memB _ _
 have pX:Xs.toList.Pairwise (le O key):=by rw[eX];exact sA.1.sublist (List.drop_sublist _ _)
 have pY:Ys.toList.Pairwise (le O key):=by rw[eY];exact sB.1.sublist (Jl _ _)
 have zX:0<Xs.size:=by lia
 have zY:0<Ys.size:=by lia
 have first:O.klt (key Ys[0]) (key Xs[0]):=by rw[gY 0 zY,gX 0 zX];exact k3' _ (by exact Qd _) _
 have lastX:Xs[Xs.size-1]=RA[RA.length-1]:=by
  rw[gX (Xs.size-1) (by exact zar1 ‹_›)]
  congr 1;lia
 have lst:∀y∈Ys.toList,le O key y Xs[Xs.size-1]:=λy hy=>by
  rw[lastX]
  rw[eY]at hy
  obtain⟨j,hj,e⟩:=Zf hy
  rw[Zc]at hj
  rw[←e,Ud]
  exact Yf (n2' j (by lia) (by lia))
 have done:∀ (res:Array Keyed) (a9:SortSt),Mg O key (Xs.toList++Ys.toList) res.toList→SG (SortSt.mk' (kindOf st) (arrOf st) (((pendingOf st).setIfInBounds i (F.length,RA.length+RB.length,pw)).eraseIdxIfInBounds (i+1)) (gallopOf st) (failedOf st)) a9 →
   wpS (model prog w) A E s (do
    modify λz=>SortSt.mk' (kindOf z) (res.toList.zipIdx.foldl (λ(a:Array Keyed) (q:Keyed×Nat)=>a.setIfInBounds (F.length+k+q.2) q.1) (arrOf z)) (pendingOf z) (gallopOf z) (failedOf z)
    let z ←get
    pure (failedOf z).isNone) Q a9:=by
  intro res a9 mg ⟨g,est⟩
  subst est
  refine wpS_bind (wpS_modify (wpS_bind (wpS_get ?_)))
  have eB:failedOf st=none:=R.failed
  show wpS _ _ _ _ (pure (failedOf st).isNone) _ _
  rw[eB]
  rw[eX,eY]at mg
  have perm2:(RA.take k++(res.toList++RB.drop m)).Perm (RA++RB):=by
   have e1:RA++RB=RA.take k++((RA.drop k++RB.take m)++RB.drop m):=by
    rw[Qp (RA.drop k),Zl,←Qp,Zl]
   rw[e1]
   exact Zx _ (Jg _ mg.1)
  have memR:∀x∈res.toList,x∈RA.drop k∨x∈RB.take m:=λx hx=>Qf.mp (mg.1.mem_iff.mp hx)
  have sorted2:(RA.take k++(res.toList++RB.drop m)).Pairwise (le O key):=by
   refine Zv.mpr ⟨sA.1.sublist (Jl _ _),Zv.mpr ⟨mg.2,sB.1.sublist (List.drop_sublist _ _),λx hx y hy=>?_⟩,λx hx y hy=>?_⟩
   ·rcases memR x hx with z | z
    ·obtain ⟨j,hj,e⟩:=Zf hy
     rw[Yj]at hj
     rw[←e,List.getElem_drop]
     exact zbi (AL x (Yy z)) (n3' _ (by exact Zy _ _) (by lia))
    ·have:=sB.1
     rw[←Zl m RB]at this
     exact(Zv.mp this).2.2 x z y hy
   ·have xle:le O key x RB[0]:=by
     obtain⟨j,hj,e⟩:=Zf hx
     rw[Zc]at hj
     rw[←e,Ud]
     exact k2' j (by lia) (by lia)
    rcases Qf.mp hy with z | z
    ·rcases memR y z with z | z
     ·have:=sA.1
      rw[←Zl k RA]at this
      exact(Zv.mp this).2.2 x hx y z
     ·exact zbi xle (B0 y (Yp z))
    ·exact zbi xle (B0 y (Yy z))
  refine wpS_pure (fin _ _ perm2 sorted2 R.kind rfl ?_ rfl)
  have gC:(arrOf st).toList=(F++RA.take k)++((RA.drop k++RB.take m)++(RB.drop m++(g2.flatten++rest))):=by
   rw[arr]
   have e1:RA++RB=RA.take k++((RA.drop k++RB.take m)++RB.drop m):=by
    rw[Qp (RA.drop k),Zl,←Qp,Zl]
   rw[e1]
   simp only[Qp]
  have lr:=mg.1.length_eq
  have pb:=zfp (sa:=F.length+k) res.toList 0 (arrOf st) _ _ _ gC (by rw[Qm,Zc];lia) lr.symm
  refine Eq.trans pb ?_
  simp only[Qp]
 by_cases c3:RA.length-k≤m
 ·rw [if_pos c3]
  exact wpS_bind (zd4 C R.kind oX oY pX pY zX zY first lst done)
 ·rw [if_neg c3]
  exact wpS_bind (zd5 C R.kind oX oY pX pY zX zY first lst done)
theorem PR.congr:∀{ps dR:List (Nat×Nat×Nat)} {off:Nat} {gs:List (List Keyed)},(ps.map λq=>(q.1,q.2.1))=(dR.map λq=>(q.1,q.2.1))→PR ps off gs→PR dR off gs
 |[],[],_,_,_,h=>h
 |[],_::_,_,_,e,_=>by simp at e
 |_::_,[],_,_,e,_=>by simp at e
 |q::ps,q'::dR,off,[],e,h=>False.elim h
 |q::ps,q'::dR,off,g::gs,e,⟨h1,h2,h3⟩=>by
  rw[Qk,Qk]at e
  obtain⟨e1,e2⟩:=List.cons.inj e
  have e3:=congrArg Prod.fst e1
  have e4:=congrArg Prod.snd e1
  exact⟨e3.symm.trans h1,e4.symm.trans h2,PR.congr e2 h3⟩
def flat_ge{gs:List (List Keyed)}(h:∀g∈gs,g≠[]):gs.length≤gs.flatten.length:=by
 induction gs with
 |nil=>simp
 |cons g gs ih =>
  have h1:0<g.length:=Uf.mpr (h g Qe)
  have h2:=ih λg hg=>h g (Qg _ hg)
  rw[Wo,Qm,Zg]
  lia
def Rn.size{gs:List (List Keyed)}{rest:List Keyed}{st:SortSt}(R:Rn kd O key a₀ gs rest st):gs.flatten.length+rest.length=a₀.size:=by
 have e:=congrArg List.length R.arr
 rw[Qm,Yi,R.perm.size_eq]at e
 exact e.symm
def Rn.psize{gs:List (List Keyed)}{rest:List Keyed}{st:SortSt}(R:Rn kd O key a₀ gs rest st):(pendingOf st).size=gs.length:=by
 have e:=R.pend.len
 rwa[Yi]at e
def Rn.found{gs:List (List Keyed)}{rest:List Keyed}{st a9:SortSt}{n:Nat}(R:Rn kd O key a₀ gs rest st)(B:Bs kd a₀ (pendingOf st) gs.flatten.length (arrOf st) a9)(u:Up O key (arrOf a9) gs.flatten.length (gs.flatten.length+n))(hn:n≤rest.length) :
  ∃G r,G.length=n∧G.Pairwise (le O key)∧Rn kd O key a₀ gs (G++r) a9:=by
 have sz:(arrOf a9).size=(arrOf st).size:=by rw[B.size,R.perm.size_eq]
 have hz:=R.size
 have e1:(arrOf a9).toList.take gs.flatten.length=gs.flatten:=by
  have:(arrOf a9).toList.take gs.flatten.length=(arrOf st).toList.take gs.flatten.length:=by
   apply Xa
   intro k
   rw[List.getElem?_take,List.getElem?_take]
   split
   next hk=>have:=B.head k hk;simpa using this
   next=>rfl
  rw[this,R.arr,List.take_left]
 refine⟨((arrOf a9).toList.drop gs.flatten.length).take n,((arrOf a9).toList.drop gs.flatten.length).drop n,?_,?_,⟨B.kind,B.failed,B.perm,?_,by rw[B.pend];exact R.pend,R.srt⟩⟩
 ·rw[Zc,Yj,Yi,B.size];lia
 ·refine Wy.mpr fun i j hi hj aX=>?_
  rw[Zc,Yj,Yi,B.size]at hi hj
  rw[Ud,Ud,List.getElem_drop,List.getElem_drop]
  have:=u (gs.flatten.length+i) (gs.flatten.length+j) (by exact Zy _ _) (by lia) (by lia)
  rw[gk_at (by rw[B.size];lia),gk_at (by rw[B.size];lia)]at this
  rw[Array.getElem_toList,Array.getElem_toList]
  exact this
 ·rw [Zl]
  conv=>lhs;rw[←Zl gs.flatten.length (arrOf a9).toList,e1]
def map_mod(f:Nat×Nat×Nat→Nat×Nat×Nat)(hf:∀q,((f q).1,(f q).2.1)=(q.1,q.2.1))(l:List (Nat×Nat×Nat))(i:Nat):((l.modify i f).map λq=>(q.1,q.2.1))=l.map λq=>(q.1,q.2.1):=by
 apply Xa
 intro k
 rw[Qr,Qr,List.getElem?_modify]
 cases l[k]? with
 |none=>simp
 |some q =>
  by_cases e:i=k
  ·simp[e];exact Jd (hf q)
  ·simp[e]
def Rn.mod{gs:List (List Keyed)}{rest:List Keyed}{st:SortSt}(R:Rn kd O key a₀ gs rest st)(i:Nat)(f:Nat×Nat×Nat→Nat×Nat×Nat)(hf:∀q,((f q).1,(f q).2.1)=(q.1,q.2.1)):Rn kd O key a₀ gs rest (setPending st ((pendingOf st).modify i f)) :=
 ⟨R.kind,R.failed,R.perm,R.arr,by
  show PR ((pendingOf st).modify i f).toList 0 gs
  rw[Array.toList_modify]
  exact R.pend.congr (map_mod f hf _ i).symm,R.srt⟩
def wpS_sortAll{st:SortSt}{Q:Unit→SortSt→Prop}(C:Cmp prog w A E s kd O key a₀)(hk:kindOf st=kd)(hf:failedOf st=none)(hp:(arrOf st).Perm a₀)(dq:pendingOf st=#[])(h:∀a9,(arrOf a9).Perm a₀→failedOf a9=none→(arrOf a9).toList.Pairwise (le O key)→Q () a9):wpS (model prog w) A E s sortRuns' Q st:=by
 have R0:Rn kd O key a₀ [] (arrOf st).toList st:=⟨hk,hf,hp,by simp,by rw[dq];trivial,λg hg=>by simp at hg⟩
 rw[sortRuns'_eq]
 refine wpS_bind (wpS_get ?_)
 dsimp only
 have hz:(arrOf st).size=a₀.size:=hp.size_eq
 rw[hz]
 generalize minRun' a₀.size a₀.size 0=mr
 refine wpS_bind (wpS_mono (wpS_forRange
  (I:=λx c a9=>Ex2 λgs rest=>Aj3 (c=(none,gs.flatten.length)) (Rn kd O key a₀ gs rest a9) (x≤gs.flatten.length))
  (Q:=λc a9=>Ex2 λgs rest=>Aj3 (c=(none,gs.flatten.length)) (Rn kd O key a₀ gs rest a9) (a₀.size≤gs.flatten.length)) ?step ?fin ⟨[],_,rfl,R0,Zh _⟩) ?post)
 case fin =>
  rintro c a9 ⟨gs,rest,rfl,R,hx⟩
  exact⟨gs,rest,rfl,R,by assumption⟩
 case step =>
  rintro x c ak _ hx ⟨gs,rest,rfl,R,kZ⟩
  dsimp only
  have dj:=R.size
  by_cases c0:gs.flatten.length≥a₀.size
  ·rw [if_pos c0]
   exact wpS_pure ⟨gs,rest,rfl,R,c0⟩
  rw[if_neg c0]
  have B0:Bs kd a₀ (pendingOf ak) gs.flatten.length (arrOf ak) ak:=⟨R.kind,R.failed,rfl,R.perm,λ_ _=>rfl⟩
  refine wpS_bind (zft C (by lia) (by lia) B0 λm aq B2 m1 m2 u2=>?_)
  dsimp only
  by_cases c1:m<mr
  focus
   rw[if_pos c1]
   refine wpS_bind (wpS_lift (wpAny_rule ⟨rfl,?_⟩))
   refine wpS_bind (zew C (by lia) (by lia) B2 u2 λai B3 u3=>?_)
   rw[if_neg (by simp)]
   obtain⟨G,r,g1,g2,R3⟩:=R.found B3 u3 (by lia)
   have G0:1≤G.length:=by lia
  rotate_left
  focus
   rw[if_neg c1]
   obtain⟨G,r,g1,g2,R3⟩:=R.found B2 u2 (by lia)
   have G0:1≤G.length:=by exact zar6 ‹_› ‹_›
  all_goals
   refine wpS_bind (wpS_get ?_)
   have push:∀{aB:List (List Keyed)} {aj:SortSt},Rn kd O key a₀ aB (G++r) aj→aB.flatten.length=gs.flatten.length→Rn kd O key a₀ (aB++[G]) r (SortSt.mk' (kindOf aj) (arrOf aj) ((pendingOf aj).push (gs.flatten.length,G.length,0)) (gallopOf aj) (failedOf aj)):=by
    intro aB aj R4 e4
    refine⟨R4.kind,R4.failed,R4.perm,?_,?_,λg hg=>?_⟩
    ·have:=R4.arr
     simp only[Ug,Wo,Kj,Zs,Qp]
     exact this
    ·show PR ((pendingOf aj).push _).toList 0 _
     rw[Wp]
     exact R4.pend.join ⟨by rw[Jp,e4],rfl,trivial⟩
    ·rcases Qf.mp hg with z | z
     ·exact R4.srt g z
     ·rw [Qb.mp z]
      exact⟨g2,λq=>by rw[q]at G0;simp at G0⟩
   have nx:∀{aB:List (List Keyed)},aB.flatten.length=gs.flatten.length→x+1≤(aB++[G]).flatten.length∧(aB++[G]).flatten.length=gs.flatten.length+G.length:=λ{aB} e=>by
    simp only[Ug,Wo,Kj,Zs,Qm]
    lia
   rw[←g1]
   split
   next =>
    refine wpS_bind (wpS_mono (wpS_forRange (I:=λ_ c aj=>Aj2 (c=(none,())) (Ex1 λaB=>Aj2 (Rn kd O key a₀ aB (G++r) aj) (aB.flatten.length=gs.flatten.length))) (Q:=λc aj=>Aj2 (c=(none,())) (Ex1 λaB=>Aj2 (Rn kd O key a₀ aB (G++r) aj) (aB.flatten.length=gs.flatten.length))) ?istep (λ_ _ z=>z) ⟨rfl,gs,R3,rfl⟩) ?ipost)
    case istep =>
     rintro y c aj _ _ ⟨rfl,aB,R4,e4⟩
     refine wpS_bind (wpS_get ?_)
     by_cases hs:(pendingOf aj).size>1
     ·rw [if_pos hs,getElem?_pos (pendingOf aj) ((pendingOf aj).size - 2) (by lia)]
      dsimp only
      split
      ·exact wpS_pure ⟨rfl,aB,R4,e4⟩
      ·refine wpS_bind (zcg C R4 (by lia) fun sW i9 R5 l5 f5=>?_)
       rw[if_neg (by simp)]
       exact wpS_pure ⟨rfl,sW,R5,f5.trans e4⟩
     ·rw [if_neg hs]
      exact wpS_pure ⟨rfl,aB,R4,e4⟩
    case ipost =>
     rintro c aj ⟨rfl,aB,R4,e4⟩
     dsimp only
     refine wpS_bind (wpS_modify (wpS_bind (wpS_modify (wpS_pure ?_))))
     exact⟨aB++[G],r,by rw[(nx e4).2],push (R4.mod _ _ λq=>rfl) e4,(nx e4).1⟩
   next =>
    refine wpS_bind (wpS_modify (wpS_pure ?_))
    exact⟨gs++[G],r,by rw[(nx rfl).2],push R3 rfl,(nx rfl).1⟩
 case post =>
  rintro c ak ⟨gs,rest,rfl,R,hx⟩
  dsimp only
  have dj:=R.size
  have er:rest=[]:=Kc.mp (by lia)
  subst er
  have aL:=flat_ge λg hg=>(R.srt g hg).2
  refine wpS_bind (wpS_mono (wpS_forRange (I:=λx c aj=>Aj2 (c=(none,())) (Ex1 λaB=>Aj2 (Rn kd O key a₀ aB [] aj) (aB.length+x≤a₀.size+1))) (Q:=λc aj=>Aj2 (c=(none,())) (Ex1 λaB=>Aj2 (Rn kd O key a₀ aB [] aj) (aB.length≤1))) ?istep ?ifin ⟨rfl,gs,R,by rw[Jj]at dj;lia⟩) ?ipost)
  case ifin =>
   rintro c aj ⟨rfl,aB,R4,e4⟩
   exact⟨rfl,aB,R4,by lia⟩
  case istep =>
   rintro y c aj _ _ ⟨rfl,aB,R4,e4⟩
   refine wpS_bind (wpS_get ?_)
   have og:=R4.psize
   by_cases hs:(pendingOf aj).size≤1
   ·rw [if_pos hs]
    exact wpS_pure ⟨rfl,aB,R4,by exact zd3 ‹_› ‹_›⟩
   ·rw [if_neg hs]
    refine wpS_bind (zcg C R4 ?_ λsW i9 R5 l5 f5=>?_)
    ·repeat' split
     all_goals lia
    ·rw [if_neg (by simp)]
     exact wpS_pure ⟨rfl,sW,R5,by lia⟩
  case ipost =>
   rintro c aj ⟨rfl,aB,R4,e4⟩
   refine wpS_pure (h aj R4.perm R4.failed ?_)
   have ea:=R4.arr
   rw[Zs]at ea
   obtain _ | ⟨g,_ | ⟨g',gs''⟩⟩:=aB
   ·rw[ea];exact List.Pairwise.nil
   ·rw[ea];simpa using(R4.srt g Qe).1
   ·simp at e4
end
section
variable{prog:Ni}{w:Nl}{A:Nn}{E:Nb}{s:Ng}{kd:SortKind}{O:KeyOrd}{kv:Value→O.α}
def perm_back{l:List Keyed}{vs:Nh}(h:l.Perm (vs.map λv=>(v,v))):(l.map (·.2)).Perm vs∧∀p∈l,p.1=p.2:=by
 refine⟨?_,λp hp=>?_⟩
 ·have:=h.map (·.2)
  rwa[Zp,show((λ(p:Keyed)=>p.2)∘λv=>(v,v))=id from rfl,List.map_id]at this
 ·obtain ⟨v,_,e⟩:=Ql.mp (h.mem_iff.mp hp)
  rw[←e]
def out_of{l:List Keyed}{vs:Nh}(h:l.Perm (vs.map λv=>(v,v)))(p:l.Pairwise (le O λp=>kv p.1)):(l.map (·.2)).Perm vs∧(l.map (·.2)).Pairwise λx y=>O.kle (kv x) (kv y):=by
 obtain⟨h1,h2⟩:=perm_back h
 refine⟨h1,Wt.mpr (p.imp_of_mem λ{x y} hx hy q=>?_)⟩
 rw[←h2 x hx,←h2 y hy]
 exact q
end
end Tim
end
section
namespace Tm
open PySem PyProof.Rows PySem.W
open AutoSeq1 (wpAny_loadPart')
open MeetsSeq MeetsSeq2 MeetsSeq3 SeqRoads2
section
variable{prog:Ni}{w:Nl}{A:Nn}{E:Nb}{s:Ng}{vs:Nh}{h:Nm}
def zbn.ordT{O:KeyOrd}{kv:Value→O.α}(h:2≤vs.length→∃kd:SortKind,(∀Q:SortKind→Shared→Prop,Q kd s→wpAny (model prog w) A (keyKind' vs.toArray) Q E s)∧∀x y,x∈vs→y∈vs→∀(Q:Bool→Shared→Prop) (E':Nb),Q (O.blt (kv x) (kv y)) s→wpAny (model prog w) A (keyLt' kd x y) Q E' s):zbn prog w A E s (λws=>ws.Pairwise λx y=>O.kle (kv x) (kv y)) vs:=by
 refine⟨λh2=>?_,λh2=>?_⟩
 ·obtain _ | ⟨v,_ | ⟨v',r⟩⟩:=vs
  ·exact List.Pairwise.nil
  ·exact Xj _ _
  ·exact absurd h2 (by simp)
 obtain⟨kd,a1,a2⟩:=h h2
 refine⟨kd,a1,λQ q=>?_⟩
 refine Tim.wpS_sortAll (kd:=kd) (O:=O) (key:=λp=>kv p.1) (a₀:=pairsOf vs) (λx y st Q' hx hy hk hq=>?_) rfl rfl (.refl _) rfl λa9 hp hf hs=>?_
 ·rw [zcf] at hx hy
  obtain⟨v,hv,rfl⟩:=Ql.mp hx
  obtain⟨u,hu,rfl⟩:=Ql.mp hy
  rw[lt'_eq]
  refine wpS_bind (wpS_get ?_)
  rw[hk]
  refine wpS_bind (wpS_lift (wpAny_attempt (a2 v u hv hu _ _ ⟨rfl,?_⟩)))
  exact wpS_pure hq
 ·exact q a9 hp hf (Tim.out_of (by rw[←zcf];exact Zu.mp hp) hs).2
def zg1(k:∀ b o,h.get? b=some o→s.heap.get? b=some o)(hv:∀ v∈vs,∃ x q,zdz h v x q)(hd:∀ v∈vs,∀ u∈vs,∀ x p q,zdz h v x p→zdz h u x q→v=u∨∃ y t y' t',p=.str y t∧q=.str y' t'):zbn prog w A E s (fun ws=>ws.Pairwise fun x y=>(pairO strO strO).kle (kvP h x) (kvP h y)) vs:=by
 refine .ordT λh2=>⟨tuples' true,λQ q=>kind_tups k hv h2 q,λv v' hx hy Q E' q=>?_⟩
 have same:=hd v hx v' hy
 obtain⟨x,z,p⟩:=hv v hx
 obtain⟨x',z',p'⟩:=hv v' hy
 have P:=p
 have P':=p'
 rw[P.key,P'.key,blt_p]at q
 obtain⟨a,o,t,n,rfl,e,c,d⟩:=p
 obtain⟨a',o',t',n',rfl,e',c',d'⟩:=p'
 refine kat_lt (k _ _ e) d (k _ _ e') d' ?_
 show KatLex _ _ _ _ _ _ [(Value.str x t,Value.str x' t'),(z,z')] 0 s
 refine kat_cons (wpAny_eqBool_str ?_)
 by_cases ex:x=x'
 ·subst ex
  rw[if_pos rfl]at q
  rw[decide_eq_true rfl]
  refine kat_yes (kat_cons ?_)
  rcases same x z z' P P' with e2 | ⟨y,u,y',u',rfl,rfl⟩
  ·cases e2
   rw[e]at e'
   cases e'
   rw[d]at d'
   have d2:(#[Value.str x t,z]:Array Value)=#[Value.str x t',z']:=by injection d'
   have d3:z=z':=by
    have:=congrArg (λa:Array Value=>a[1]?) d2
    simpa using this
   subst d3
   rw[decide_eq_false (Wi _)]at q
   exact SeqAt.EqAt.same z _ _ _ _ (kat_yes (kat_nil q))
  ·refine wpAny_eqBool_str ?_
   by_cases ey:y=y'
   ·subst ey
    rw[show kvS (Value.str y u')=kvS (Value.str y u) from rfl,decide_eq_false (Wi _)]at q
    rw[decide_eq_true rfl]
    exact kat_yes (kat_nil q)
   ·rw [decide_eq_false ey]
    exact kat_no (kat_one _ _ (lt_str q))
 ·rw [decide_eq_false ex]
  rw[if_neg (str_ne ex)]at q
  exact kat_no (oneLt_str q)
end
end Tm
namespace L2
open PySem PySem.Spec PyProof.Rows Tm
section
variable{X:Cx}
def zeu:zb3 X (.builtin "sorted") (λxs H Q=>Ex2 λ(p:Nc) (ys:List V)=>Aj4 (xs=[.ref p]) (SqL X.K H p ys) (∀v∈ys,∃a x y,v=.ref a∧H a=some (.tup [.str x,.str y])) (∀(l:Nc) (ws:List V),H l=none→ws.Perm ys→(ws.Pairwise λa b=>(pairO strO strO).kle (pairV H a) (pairV H b))→Q (.ref l) (upd H l (.lst ws)))):=by
 intro a7 s σ H xs us Q I r h
 obtain⟨p,ys,rfl,hq,hy,q⟩:=h
 obtain⟨u,rfl,rx⟩:=vals1 r
 cases rx
 have all:∀a8,Vals ys a8→∀v∈a8,∃x y t,zdz s.heap v x (.str y t):=λa8 r v hv=>by
  obtain⟨b,hb,ru⟩:=zfv r v hv
  obtain⟨a,x,y,rfl,e2⟩:=hy b hb
  cases ru
  obtain⟨q',⟨t,rfl⟩,T⟩:=zed I e2
  exact⟨x,y,t,T⟩
 refine zc6 I hq (λa8 r A' E' s' _ k=>zg1 k (λv hv=>let⟨x,y,t,T⟩:=all a8 r v hv;⟨x,_,T⟩) λv hv u hu x p q T T'=>.inr ?_) λl ws a8 us hl p1 r1 r2 p2=>q l ws hl p1 ?_
 ·obtain ⟨_,y,t,T1⟩:=all a8 r v hv
  obtain⟨_,y',t',T2⟩:=all a8 r u hu
  exact⟨y,t,y',t',(zdq T T1).2,(zdq T' T2).2⟩
 ·refine Vals.pairwise (R:=fun a b=>(pairO strO strO).kle a b) r2 (fun v hv u ru=>?_) p2
  obtain⟨a,x,y,rfl,e2⟩:=hy v (p1.mem_iff.mp hv)
  cases ru
  obtain⟨q',⟨t,rfl⟩,T⟩:=zed I e2
  rw[T.key,zf9 e2]
  rfl
end
end L2
end
section
namespace K21
open PySem L2 Wb PySem.W
abbrev sTies:Stmt:=inClass sWeb 3
abbrev zhm:Scope:=scOf (aOf 0 (eOf (sAt sTies 0)))
def csTies_k:zhm.kind=.function:=by rfl
def csTies_c:∀y∈zhm.names,y.2≠.cell:=by decide +kernel
def csTies_n:∀y∈zhm.names,y.2=.local→zhm.names.lookup y.1=some .local:=by decide +kernel
def csTies_f:∀y∈zhm.names,y.2=.free→(zag sTies).names.lookup y.1=some .cell∨(zag sTies).names.lookup y.1=some .free:=by decide +kernel
def csTies_l:zhm.names.lookup ("self" : Str)=some NameKind.free:=by decide +kernel
section
variable{P:Ni}{w:Nl}{K:Na}{mg:Nf}{base:Nm}
def scTies:zap ["self"] ["self"] (zag sTies):=fsk
def ok_tiesO(F:Fun K "ties" "Web.ties" sTies f fd)(cW:Cls K C)(nW:zdf K C "rounds")(aE:mg "sorted" = none):FnOk P w K mg base CX0 1 f fd ["self"] (spTiesO C):=by
 refine F.ok scTies (λvs H Q E h=>?_) (λcdv A outer s H vs Q E hr h=>?_)
 ·obtain ⟨x,dx,d,es,rfl,_⟩:=h
  rfl
 ·obtain ⟨x,dx,d,es,rfl,wt,bQ,aR,k⟩:=h
  have hx:=wt.ob
  have T:=wt.ta
  have hu:=zck hr
  have aT:sizeLine=16777216:=sizeLine_eq
  refine⟨_,zah (zbe (zaj zeu (by rfl) aE Yn (zaa
   (pe_thaw (pe_lc2 (M:=["one", "other", "self"]) (ix:=[none,none,some 0]) ⟨csTies_k,csTies_c,csTies_n,csTies_f,rfl,by decide +kernel,λj i x h1 h2=>by
      match j,h1,h2 with
      |0,_,h2=>cases h2
      |1,_,h2=>cases h2
      |2,h1,h2=>cases h1;cases h2;exact⟨rfl,csTies_l⟩
      |n+3,h1,_=>cases h1⟩ rfl (pi_dict (zf6 (pv 0) rfl)) (λC a7 ex s H=>zf5 (i:=0) ndT rfl (Or.inl rfl) (Or.inr rfl))
     (λC a7 ex s H=>pi_tupK (K:=K) rfl (pe_dget (by exact hu) (pe_fldK (K:=K) rfl (pv 2) rfl) (pv 0) (λ_ _=>rfl)))
     (λC a7 ex s H=>zf5 (i:=1) ndT rfl (Or.inl rfl) (Or.inr rfl))
     (λC a7 ex s H=>zh5 (za5 op_lt_str (pv 0) (pv 1) (zbt _))) (λC a7 ex s H=>zdj (zaa (pv 0) (zaa (pv 1) zaf))))) zaf))),?_⟩
  have nfz:∀o' u',H d≠some (.frz o' u'):=λo' u' z=>by rw[T.dc]at z;cases z
  have nxd:x≠d:=za3 hx T.dc (by intro z;cases z)
  have ma:∀i,pairsOf (rsOf (es.take i))=(es.take i).flatMap λe=>(e.2.1.filter λy=>ltS e.1 y).map λy=>(e.1,y):=λi=>by
   unfold pairsOf rsOf;rw[List.flatMap_map]
  refine⟨_,rfl,x,C,dx,_,_,rfl,hx,cW,nW,rfl,d,_,rfl,T.dc,λo=>⟨λi m ys τ H1=>Aj6 (m=es.length-i) (i≤es.length) (Ex2 λx0 x1=>τ=[x0,x1,some (.ref x)]) (H1 d=some (.frz o (.dK (eV es)))) (Keep [d] H H1) (Ex1 λ(as:Nk)=>Aj4 (ys=as.map V.ref) (as.length≤100*i) (zar H1 as (pairsOf (rsOf (es.take i)))) (∀a∈as,H a=none)),
   ⟨es.length,rfl,Zh _,⟨none,none,rfl⟩,zac,Keep.wr Qe,[],rfl,Zh _,.nil,λa ha=>by cases ha⟩,?_⟩⟩
  rintro i m ys τ H1 ⟨rfl,hi,⟨x0,x1,rfl⟩,hz,k1,as,rfl,sM,pa,oB⟩
  by_cases ae:i<es.length
  ·refine .inr ⟨⟨hz,by rw [Qa];exact ae⟩,?_⟩
   rintro y H' ⟨rfl,pr,e1,rfl⟩
   have g1:pr=((Sum.inr es[i].1:Key),V.ref es[i].2.2):=by
    rw[Qr,Qc ae]at e1
    exact(Qs e1).symm
   subst g1
   have aY:es[i]∈es:=Qq ae
   have dL:=T.ro _ aY
   have nri:es[i].2.2≠d:=za3 dL T.dc (by intro z;cases z)
   have hx1:=k1 _ _ hx (by simpa using nxd)
   have lC:=aR _ aY
   refine⟨_,rfl,x,C,dx,_,_,rfl,hx1,cW,nW,rfl,_,rfl,d,.ref es[i].2.2,rfl,.inl ⟨_,Sum.inr es[i].1,.inr ⟨o,hz⟩,rfl,(zeb T.nd aY).symm⟩,es[i].2.2,rfl,⟨_,SqT.of (k1 _ _ dL (by simpa using nri))⟩,?_⟩
   refine⟨λj m2 ys τ H2=>Aj6 (m2=es[i].2.1.length-j) (j≤es[i].2.1.length) (Ex1 λx1=>τ=[some (.str es[i].1),x1,some (.ref x)]) (H2 d=some (.frz o (.dK (eV es)))) (Keep [d] H H2) (Ex1 λ(as:Nk)=>Aj4 (ys=as.map V.ref) (as.length≤100*i+j) (zar H2 as (pairsOf (rsOf (es.take i))++((es[i].2.1.take j).filter λy=>ltS es[i].1 y).map λy=>(es[i].1,y))) (∀a∈as,H a=none)),
    ⟨es[i].2.1.length,rfl,Zh _,⟨_,rfl⟩,hz,k1,as,rfl,sM,by simpa using pa,oB⟩,?_⟩
   rintro j m2 ys τ H2 ⟨rfl,hj,⟨x1',rfl⟩,dj,k2,ap,rfl,cS,gE,jq⟩
   have c9:=k2 _ _ dL (by simpa using nri)
   by_cases cO:j<es[i].2.1.length
   ·refine .inr ⟨⟨_,.str es[i].2.1[j],SqT.of c9,by rw [Qr,Qc cO];rfl⟩,by rw [Qa];lia,?_⟩
    rintro y H3 ⟨rfl,hy⟩
    have bq:=hy _ (SqT.of c9)
    rw[Qr,Qc cO]at bq
    obtain rfl:V.str es[i].2.1[j]=y:=Qs bq
    have aQ:es[i].2.1.take (j+1)=es[i].2.1.take j++[es[i].2.1[j]]:=Qo cO
    refine⟨_,rfl,_,rfl,_,_,rfl,rfl,_,rfl,?_⟩
    cases hl:ltS es[i].1 es[i].2.1[j] with
    |false =>
     refine zbw hl ⟨_,?_,rfl,cO,⟨_,rfl⟩,dj,k2,ap,rfl,by exact zg0 ‹_›,?_,jq⟩
     ·exact zar1 ‹_›
     ·rw[aQ,Wr,Ym (by rw[hl];decide),Ux,Zs];exact gE
    | true =>
     refine zb6 hl ⟨_,rfl,_,rfl,(by show 2≤sizeLine;decide),λt ht=>⟨_,?_,rfl,cO,⟨_,rfl⟩,?_,k2.trans (Keep.new ht),ap++[t],?_,?_,?_,λa ha=>(Qf.mp ha).elim (jq a) λq=>by rw[Qb.mp q];exact zas k2 ht (by simpa using Zn (zab dj ht))⟩⟩
     ·exact zar1 ‹_›
     ·rw[zad (zab dj ht)];exact dj
     ·rw[Qt];rfl
     ·rw[Qm];show _+1≤_;exact zar4 ‹_›
     ·rw [aQ,Wr,Yl (by rw [hl]),Ux,Qt,← Qp]
      refine zar.snoc (zar.keep gE λb x y eb=>?_) zac
      rw[zad (zab eb ht)];exact eb
   ·have ej:j=es[i].2.1.length:=by exact zar3 ‹_› ‹_›
    subst ej
    refine .inl ⟨⟨_,SqT.of c9,by rw[Qa];exact Qd _⟩,_,?_,rfl,ae,⟨_,_,rfl⟩,dj,k2,ap,rfl,?_,?_,jq⟩
    ·exact zar1 ‹_›
    ·lia
    ·rw [ma,Qo ae,List.flatMap_append,Uz,List.flatMap_nil,Zs,← ma]
     rw[Qu (Qd _)]at gE
     exact gE
  ·have gq:i=es.length:=by exact zar3 ‹_› ‹_›
   subst gq
   refine .inl ⟨⟨hz,by rw[Qa];exact Qd _⟩,λD hD=>?_⟩
   rw[Qu (Qd _)]at pa
   have ndD:d≠D:=zab hz hD
   refine⟨d,o,_,(by rw[zad ndD];exact hz),nfz,?_⟩
   have k2:Keep [] H (upd (upd H1 D (.lst (as.map V.ref))) d (.dK (eV es))):=λc u ec _=>by
    by_cases aO:c=d
    ·subst aO
     rw[zac,←T.dc];exact ec
    ·have nv:=k1 c u ec (by simpa using aO)
     rw[zad aO,zad (zab nv hD)];exact nv
   have gE:zar (upd (upd H1 D (.lst (as.map V.ref))) d (.dK (eV es))) as (pairsOf (rsOf es)):=zar.keep pa λb x y eb=>by
    rw[zad (za3 eb hz (by intro z;cases z)),zad (zab eb hD)];exact eb
   have kD:(upd (upd H1 D (.lst (as.map V.ref))) d (.dK (eV es))) D=some (.lst (as.map V.ref)):=by rw[zad (Zn ndD)];exact zac
   generalize upd (upd H1 D (.lst (as.map V.ref))) d (.dK (eV es))=H2 at k2 gE kD
   refine⟨D,_,rfl,SqL.of kD,λv hv=>?_,λl ws hl au aN=>?_⟩
   ·obtain ⟨a,ha,rfl⟩:=Ql.mp hv
    obtain⟨r,hr'⟩:=pairs_mem gE ha
    exact⟨a,r.1,r.2,rfl,hr'⟩
   ·obtain ⟨bv,rfl,bY⟩:=zf1 au
    obtain⟨qs,gh,cr⟩:=zc8 bY gE
    refine k l bv qs _ zac (zar.keep cr λb x y eb=>by rw[zad (zab eb hl)];exact eb) gh (pairs_sorted cr aN) (zas k2 hl (by simp)) (λa ha=>oB a (bY.mem_iff.mp ha)) (k2.trans (Keep.new hl))
end
end K21
end
section
namespace L2
open PySem
section
variable{K:Na}{x qual p1 p2 p3 p4 p5:Str}{st:Stmt}{f:Nc}{fd:Nr}(F:Fun K x qual st f fd)
include F
theorem Fun.b1(h:∀(kV doc pm:Value) (an:Option Addr) (cdv ct a1:Value),bindArgs (PySem.W.fnOf x qual (zdb st) (zb7 st) (zag st) .none kV doc pm an cdv ct) ⟨[a1],[]⟩=pure [(p1,a1)]):Binds K fd [p1] [] :=
 F.binds λkV doc pm an cdv ct us hl=>by
  obtain _ | ⟨a1,_ | ⟨z,t⟩⟩:=us
  ·cases hl
  ·exact h kV doc pm an cdv ct a1
  ·cases hl
theorem Fun.b2(h:∀(kV doc pm:Value) (an:Option Addr) (cdv ct a1 a2:Value),bindArgs (PySem.W.fnOf x qual (zdb st) (zb7 st) (zag st) .none kV doc pm an cdv ct) ⟨[a1,a2],[]⟩=pure [(p1,a1),(p2,a2)]):Binds K fd [p1,p2] [] :=
 F.binds λkV doc pm an cdv ct us hl=>by
  obtain _ | ⟨a1,_ | ⟨a2,_ | ⟨z,t⟩⟩⟩:=us
  ·cases hl
  ·cases hl
  ·exact h kV doc pm an cdv ct a1 a2
  ·cases hl
theorem Fun.b3(h:∀(kV doc pm:Value) (an:Option Addr) (cdv ct a1 a2 a3:Value),bindArgs (PySem.W.fnOf x qual (zdb st) (zb7 st) (zag st) .none kV doc pm an cdv ct) ⟨[a1,a2,a3],[]⟩=pure [(p1,a1),(p2,a2),(p3,a3)]):Binds K fd [p1,p2,p3] [] :=
 F.binds λkV doc pm an cdv ct us hl=>by
  obtain _ | ⟨a1,_ | ⟨a2,_ | ⟨a3,_ | ⟨z,t⟩⟩⟩⟩:=us
  ·cases hl
  ·cases hl
  ·cases hl
  ·exact h kV doc pm an cdv ct a1 a2 a3
  ·cases hl
end
end L2
namespace K21
open PySem L2 Wb PyProof.Rows
theorem all_mk{l:PySem.W.OpenLaw}{w:Nl}{K:Na}{h:Nm}{mg:Nf}{fa C fL f0 f1 f2 f3 f4 f5 f6 f7 f8 f9 kE f11 f12 f13 f14 f15 f16 f17 f18 f19 f20 f21 f22 f23 f24 f25 g0 g1 g2 g3 g4 c0 c1:Nc}(X:K.In h)(G:h.Ns mainGlobals mg)(oB:mg "law" = some (.ref fa))(af0:PySem.W.nsIn K mainGlobals "steps_behind" = some (some (.ref f0)))(hf0:∃fd,Fun K "steps_behind" "steps_behind" sSteps f0 fd)(af1:PySem.W.nsIn K mainGlobals "faces_of" = some (some (.ref f1)))(mt:∃fd,Fun K "faces_of" "faces_of" zfc f1 fd)(af2:PySem.W.nsIn K mainGlobals "piece_from" = some (some (.ref f2)))(gU:∃fd,Fun K "piece_from" "piece_from" sPiece f2 fd)(af3:PySem.W.nsIn K mainGlobals "pieces_of" = some (some (.ref f3)))(kj:∃fd,Fun K "pieces_of" "pieces_of" zh0 f3 fd)(af4:PySem.W.nsIn K mainGlobals "is_name" = some (some (.ref f4)))(hf4:∃fd,Fun K "is_name" "is_name" zd6 f4 fd)(af5:PySem.W.nsIn K mainGlobals "refuse_no_names" = some (some (.ref f5)))(hf5:∃fd,Fun K "refuse_no_names" "refuse_no_names" zfo f5 fd)(af6:PySem.W.nsIn K mainGlobals "refuse_twice" = some (some (.ref f6)))(oC:∃fd,Fun K "refuse_twice" "refuse_twice" zd0 f6 fd)(af7:PySem.W.nsIn K mainGlobals "refuse_one_way" = some (some (.ref f7)))(hf7:∃fd,Fun K "refuse_one_way" "refuse_one_way" zh1 f7 fd)(af8:PySem.W.nsIn K mainGlobals "refuse_not_flat" = some (some (.ref f8)))(hf8:∃fd,Fun K "refuse_not_flat" "refuse_not_flat" zg3 f8 fd)(af9:PySem.W.nsIn K mainGlobals "from_least" = some (some (.ref f9)))(hf9:∃fd,Fun K "from_least" "from_least" sLeast f9 fd)(tR:PySem.W.nsIn K mainGlobals "_law_pot" = some (some (.ref kE)))(sr:∃fd,Fun K "_law_pot" "_law_pot" sPot kE fd)(tQ:PySem.W.nsIn K mainGlobals "_law_digit" = some (some (.ref f11)))(sk:∃fd,Fun K "_law_digit" "_law_digit" zej f11 fd)(tP:PySem.W.nsIn K mainGlobals "_law_counted" = some (some (.ref f12)))(sj:∃fd,Fun K "_law_counted" "_law_counted" sCount f12 fd)(tO:PySem.W.nsIn K mainGlobals "_law_names" = some (some (.ref f13)))(si:∃fd,Fun K "_law_names" "_law_names" sNames f13 fd)(tN:PySem.W.nsIn K mainGlobals "_law_behind" = some (some (.ref f14)))(sh:∃fd,Fun K "_law_behind" "_law_behind" zh3 f14 fd)(tM:PySem.W.nsIn K mainGlobals "_law_steps" = some (some (.ref f15)))(sf:∃fd,Fun K "_law_steps" "_law_steps" zhy f15 fd)(tL:PySem.W.nsIn K mainGlobals "_law_tie" = some (some (.ref f16)))(se:∃fd,Fun K "_law_tie" "_law_tie" sTie f16 fd)(tK:PySem.W.nsIn K mainGlobals "_law_rounds" = some (some (.ref f17)))(sd:∃fd,Fun K "_law_rounds" "_law_rounds" zhz f17 fd)(tJ:PySem.W.nsIn K mainGlobals "_law_rows" = some (some (.ref f18)))(rZ:∃fd,Fun K "_law_rows" "_law_rows" sRows f18 fd)(tI:PySem.W.nsIn K mainGlobals "_law_drawn" = some (some (.ref f19)))(rY:∃fd,Fun K "_law_drawn" "_law_drawn" sDrawn f19 fd)(tH:PySem.W.nsIn K mainGlobals "_law_from_least" = some (some (.ref f20)))(rX:∃fd,Fun K "_law_from_least" "_law_from_least" zh2 f20 fd)(tG:PySem.W.nsIn K mainGlobals "_law_word" = some (some (.ref f21)))(rW:∃fd,Fun K "_law_word" "_law_word" sWord f21 fd)(tF:PySem.W.nsIn K mainGlobals "_law_made" = some (some (.ref f22)))(rV:∃fd,Fun K "_law_made" "_law_made" sMade f22 fd)(tE:PySem.W.nsIn K mainGlobals "_law_ties" = some (some (.ref f23)))(rT:∃fd,Fun K "_law_ties" "_law_ties" zfz f23 fd)(tD:PySem.W.nsIn K mainGlobals "_law_is_list" = some (some (.ref f24)))(rS:∃fd,Fun K "_law_is_list" "_law_is_list" zf0 f24 fd)(tz:PySem.W.nsIn K mainGlobals "_law_right" = some (some (.ref f25)))(rR:∃fd,Fun K "_law_right" "_law_right" sRight f25 fd)(ag0:PySem.W.findIn K (.ref C) "__init__" = some (some (.ref g0)))(ig0:PySem.W.isFn K (.ref g0)=true)(kg0:PySem.W.keepIn K (.ref g0)=true)(hg0:∃fd,Fun K "__init__" "Web.__init__" sInit g0 fd)(ag1:PySem.W.findIn K (.ref C) "places" = some (some (.ref g1)))(ig1:PySem.W.isFn K (.ref g1)=true)(kg1:PySem.W.keepIn K (.ref g1)=true)(ki:∃fd,Fun K "places" "Web.places" sPlaces g1 fd)(ag2:PySem.W.findIn K (.ref C) "round_of" = some (some (.ref g2)))(ig2:PySem.W.isFn K (.ref g2)=true)(kg2:PySem.W.keepIn K (.ref g2)=true)(hg2:∃fd,Fun K "round_of" "Web.round_of" zfn g2 fd)(ag3:PySem.W.findIn K (.ref C) "ties" = some (some (.ref g3)))(ig3:PySem.W.isFn K (.ref g3)=true)(kg3:PySem.W.keepIn K (.ref g3)=true)(hg3:∃fd,Fun K "ties" "Web.ties" sTies g3 fd)(ag4:PySem.W.findIn K (.ref C) "is_tied" = some (some (.ref g4)))(ig4:PySem.W.isFn K (.ref g4)=true)(kg4:PySem.W.keepIn K (.ref g4)=true)(oy:∃fd,Fun K "is_tied" "Web.is_tied" sTied g4 fd){odfL anfL:Option Addr}{slfL:Array (Option Value)}{ocfL kVfL dcfL pmfL cdfL ctfL:Value}(afL:PySem.W.nsIn K mainGlobals "law" = some (some (.ref fL)))(lfL:K.lookup fL=some ⟨ocfL,odfL,.func (PySem.W.fnOf "law" "law" (zdb sLaw) (zb7 sLaw) (zag sLaw) .none kVfL dcfL pmfL anfL cdfL ctfL),slfL⟩)(cfL:PySem.W.codeIn K cdfL "law" = true)(kfL:PySem.W.keepIn K (.ref fL)=true)(aC:PySem.W.nsIn K mainGlobals "Web" = some (some (.ref C))){tkM:Tok}(aM:PySem.W.nsIn K mainGlobals "MOST_LETTERS" = some (some (.int 8 tkM)))(pg:PySem.W.plainGet K C Str.empty=true)(jt:PySem.W.hasDictIn K C=true)(po:PySem.W.plainOver K C=true)(sa:PySem.W.findIn K (.ref C) "__setattr__" = some (some (.builtin "object.__setattr__")))(mk:PySem.W.makesIn K C=true)(kc:PySem.W.keepIn K (.ref C)=true)(nR:PySem.W.findIn K (.ref C) "rounds" = some none)(e_NoPlace:PySem.W.nsIn K mainGlobals "NoPlace" = some (some (.ref c0)))(e_HueError:PySem.W.nsIn K mainGlobals "HueError" = some (some (.ref c1)))(gs:PySem.W.specialIn K (.builtin "object.__class__") "__get__" = some (some (.builtin "getset_descriptor.__get__")))(tk:PySem.W.takesIn K (.builtin "object.__class__")=some true)(x0:PySem.W.excIn K c0 bmVE "ValueError.__new__" = true)(p0:PySem.W.findIn K (.ref c0) "__getattribute__" = some (some (.builtin "BaseException.__getattribute__")))(n0:PySem.W.findIn K (.ref c0) "__getattr__" = some none)(j0:PySem.W.mroIn K c0 (.type "BaseException")=some true)(q0:PySem.W.findIn K (.ref c0) "__class__" = some (some (.builtin "object.__class__")))(r0:PySem.W.mroIn K c0 (.type "object")=some true)(u0:PySem.W.kitOne K (.ref c0) (.ref c1)=some true)(v0:PySem.W.kitOne K (.ref c0) (.type "ValueError")=some true)(y0:PySem.W.exmOne K (.ref c0) (.ref c0)=some true)(z_len:PySem.W.nsIn K mainGlobals "len" = some none)(z_sorted:PySem.W.nsIn K mainGlobals "sorted" = some none)(z_range:PySem.W.nsIn K mainGlobals "range" = some none)(z_min:PySem.W.nsIn K mainGlobals "min" = some none)(z_max:PySem.W.nsIn K mainGlobals "max" = some none)(z_tuple:PySem.W.nsIn K mainGlobals "tuple" = some none)(z_list:PySem.W.nsIn K mainGlobals "list" = some none)(z_dict:PySem.W.nsIn K mainGlobals "dict" = some none)(z_set:PySem.W.nsIn K mainGlobals "set" = some none)(z_isinstance:PySem.W.nsIn K mainGlobals "isinstance" = some none)(z_str:PySem.W.nsIn K mainGlobals "str" = some none)(z_all:PySem.W.nsIn K mainGlobals "all" = some none)(z_sum:PySem.W.nsIn K mainGlobals "sum" = some none)(z_enumerate:PySem.W.nsIn K mainGlobals "enumerate" = some none)(z_ValueError:PySem.W.nsIn K mainGlobals "ValueError" = some none)(z_bool:PySem.W.nsIn K mainGlobals "bool" = some none) :
  ∃fd:FuncData,(∀(s:Ng) (v:Value),BindsTo s fd ⟨[v],[]⟩ [("_law_script",v)])∧∀base:Heap,K.In base→base.Ns mainGlobals mg→FnOk l.prog w K mg base CX0 7 fa fd ["_law_script"] (spLaw K):=by
 have e:=oB.symm.trans (Zr X G afL)
 cases e
 obtain⟨_,F0⟩:=hf0
 have b0:=F0.b1 (p1 := "rounds") λ_ _ _ _ _ _ _=>rfl
 have m0:=Zr X G af0
 obtain⟨_,F1⟩:=mt
 have b1:=F1.b1 (p1 := "rounds") λ_ _ _ _ _ _ _=>rfl
 have m1:=Zr X G af1
 obtain⟨_,F2⟩:=gU
 have b2:=F2.b2 (p1 := "rounds") (p2 := "start") λ_ _ _ _ _ _ _ _=>rfl
 have m2:=Zr X G af2
 obtain⟨_,F3⟩:=kj
 have b3:=F3.b1 (p1 := "rounds") λ_ _ _ _ _ _ _=>rfl
 have m3:=Zr X G af3
 obtain⟨_,F4⟩:=hf4
 have b4:=F4.b1 (p1 := "thing") λ_ _ _ _ _ _ _=>rfl
 have m4:=Zr X G af4
 obtain⟨_,F5⟩:=hf5
 have b5:=F5.b1 (p1 := "rows") λ_ _ _ _ _ _ _=>rfl
 have m5:=Zr X G af5
 obtain⟨_,F6⟩:=oC
 have b6:=F6.b1 (p1 := "rows") λ_ _ _ _ _ _ _=>rfl
 have m6:=Zr X G af6
 obtain⟨_,F7⟩:=hf7
 have b7:=F7.b1 (p1 := "rows") λ_ _ _ _ _ _ _=>rfl
 have m7:=Zr X G af7
 obtain⟨_,F8⟩:=hf8
 have b8:=F8.b1 (p1 := "rounds") λ_ _ _ _ _ _ _=>rfl
 have m8:=Zr X G af8
 obtain⟨_,F9⟩:=hf9
 have b9:=F9.b1 (p1 := "around") λ_ _ _ _ _ _ _=>rfl
 have m9:=Zr X G af9
 obtain⟨_,uf⟩:=sr
 have b10:=uf.b2 (p1 := "_law_script") (p2 := "_law_k") λ_ _ _ _ _ _ _ _=>rfl
 have m10:=Zr X G tR
 obtain⟨_,i7⟩:=sk
 have kG:=i7.b2 (p1 := "_law_pot_here") (p2 := "_law_many") λ_ _ _ _ _ _ _ _=>rfl
 have jR:=Zr X G tQ
 obtain⟨_,ue⟩:=sj
 have b12:=ue.b2 (p1 := "_law_number") (p2 := "_law_letters") λ_ _ _ _ _ _ _ _=>rfl
 have m12:=Zr X G tP
 obtain⟨_,ud⟩:=si
 have b13:=ud.b2 (p1 := "_law_pot_here") (p2 := "_law_many") λ_ _ _ _ _ _ _ _=>rfl
 have m13:=Zr X G tO
 obtain⟨_,uc⟩:=sh
 have b14:=uc.b2 (p1 := "_law_around") (p2 := "_law_one") λ_ _ _ _ _ _ _ _=>rfl
 have m14:=Zr X G tN
 obtain⟨_,ub⟩:=sf
 have b15:=ub.b3 (p1 := "_law_rounds_here") (p2 := "_law_p") (p3 := "_law_q") λ_ _ _ _ _ _ _ _ _=>rfl
 have m15:=Zr X G tM
 obtain⟨_,ua⟩:=se
 have b16:=ua.b2 (p1 := "_law_pot_here") (p2 := "_law_rounds_here") λ_ _ _ _ _ _ _ _=>rfl
 have m16:=Zr X G tL
 obtain⟨_,u9⟩:=sd
 have b17:=u9.b2 (p1 := "_law_pot_here") (p2 := "_law_most") λ_ _ _ _ _ _ _ _=>rfl
 have m17:=Zr X G tK
 obtain⟨_,u8⟩:=rZ
 have b18:=u8.b3 (p1 := "_law_pot_here") (p2 := "_law_rounds_here") (p3 := "_law_names_here") λ_ _ _ _ _ _ _ _ _=>rfl
 have m18:=Zr X G tJ
 obtain⟨_,u7⟩:=rY
 have b19:=u7.b1 (p1 := "_law_pot_here") λ_ _ _ _ _ _ _=>rfl
 have m19:=Zr X G tI
 obtain⟨_,u5⟩:=rX
 have b20:=u5.b1 (p1 := "_law_around") λ_ _ _ _ _ _ _=>rfl
 have m20:=Zr X G tH
 obtain⟨_,u4⟩:=rW
 have b21:=u4.b2 (p1 := "_law_web") (p2 := "_law_name") λ_ _ _ _ _ _ _ _=>rfl
 have m21:=Zr X G tG
 obtain⟨_,tZ⟩:=rV
 have b22:=tZ.b1 (p1 := "_law_rows_here") λ_ _ _ _ _ _ _=>rfl
 have m22:=Zr X G tF
 obtain⟨_,tY⟩:=rT
 have b23:=tY.b1 (p1 := "_law_due") λ_ _ _ _ _ _ _=>rfl
 have m23:=Zr X G tE
 obtain⟨_,tX⟩:=rS
 have b24:=tX.b2 (p1 := "_law_found") (p2 := "_law_due") λ_ _ _ _ _ _ _ _=>rfl
 have m24:=Zr X G tD
 obtain⟨_,tW⟩:=rR
 have b25:=tW.b3 (p1 := "_law_pot_here") (p2 := "_law_web") (p3 := "_law_due") λ_ _ _ _ _ _ _ _ _=>rfl
 have m25:=Zr X G tz
 obtain⟨_,FG0⟩:=hg0
 have bG0:=FG0.b2 (p1 := "self") (p2 := "rows") λ_ _ _ _ _ _ _ _=>rfl
 obtain⟨_,FG1⟩:=ki
 have bG1:=FG1.b1 (p1 := "self") λ_ _ _ _ _ _ _=>rfl
 obtain⟨_,tV⟩:=hg2
 have bG2:=tV.b2 (p1 := "self") (p2 := "place") λ_ _ _ _ _ _ _ _=>rfl
 obtain⟨_,FG3⟩:=hg3
 have bG3:=FG3.b1 (p1 := "self") λ_ _ _ _ _ _ _=>rfl
 obtain⟨_,FG4⟩:=oy
 have bG4:=FG4.b3 (p1 := "self") (p2 := "one") (p3 := "other") λ_ _ _ _ _ _ _ _ _=>rfl
 have FL:=fun_mk (st:=sLaw) lfL cfL kfL
 have cW:Cls K C:=⟨pg,jt,po,sa⟩
 have mC:=Zr X G aC
 have mM:=Zr X G aM
 have y_len:=Yh X G z_len
 have y_sorted:=Yh X G z_sorted
 have y_range:=Yh X G z_range
 have y_min:=Yh X G z_min
 have y_max:=Yh X G z_max
 have y_tuple:=Yh X G z_tuple
 have y_list:=Yh X G z_list
 have y_dict:=Yh X G z_dict
 have y_set:=Yh X G z_set
 have y_isinstance:=Yh X G z_isinstance
 have y_str:=Yh X G z_str
 have y_all:=Yh X G z_all
 have y_sum:=Yh X G z_sum
 have y_enumerate:=Yh X G z_enumerate
 have y_ValueError:=Yh X G z_ValueError
 have y_bool:=Yh X G z_bool
 refine⟨PySem.W.fnOf "law" "law" (zdb sLaw) (zb7 sLaw) (zag sLaw) .none kVfL dcfL pmfL anfL cdfL ctfL,λs v=>.of_eq rfl,λbase _ _=>?_⟩
 have GTake:=ok_digit (P:=l.prog) (w:=w) (mg:=mg) (base:=base) i7
 have GPot:=ok_pot (P:=l.prog) (w:=w) (base:=base) uf y_len y_min y_max y_list
 have GCount:=ok_count (P:=l.prog) (w:=w) (base:=base) ue y_len
 have GNames:=ok_names (P:=l.prog) (w:=w) (base:=base) ud i7 kG jR GTake ue b12 m12 GCount y_len y_range
 have GBehind:=ok_behind (P:=l.prog) (w:=w) (base:=base) uc y_len
 have GSteps0:=ok_steps0 (P:=l.prog) (w:=w) (base:=base) ub uc b14 m14 GBehind
 have GTie:=ok_tie (P:=l.prog) (w:=w) (base:=base) ua i7 kG jR GTake ub b15 m15 GSteps0 y_len
 have GRounds:=ok_rounds (P:=l.prog) (w:=w) (base:=base) u9 i7 kG jR GTake ua b16 m16 GTie y_len y_range
 have GRows:=ok_rows (P:=l.prog) (w:=w) (base:=base) u8 i7 kG jR GTake y_len y_range
 have GDrawn:=ok_drawn (P:=l.prog) (w:=w) (base:=base) u7 i7 kG jR GTake u9 b17 m17 GRounds u8 b18 m18 GRows ud b13 m13 GNames y_len
 have GPlaces:=ok_places (P:=l.prog) (w:=w) (base:=base) FG1 cW nR y_list
 have GRoundOf:=ok_roundof (P:=l.prog) (w:=w) (base:=base) tV cW nR y_list
 have GTies:=ok_tiesO (P:=l.prog) (w:=w) (base:=base) FG3 cW nR y_sorted
 have GTied:=ok_tied (P:=l.prog) (w:=w) (mg:=mg) (base:=base) FG4 cW nR
 have mNP:=Zr X G e_NoPlace
 have GRoundX:=ok_roundX (P:=l.prog) (w:=w) (base:=base) tV cW nR ⟨x0⟩ mNP
 have GWord:=ok_word (P:=l.prog) (w:=w) (base:=base) u4 cW ⟨⟨p0,n0,j0,q0,gs,tk,r0⟩,u0,v0,y0⟩ mNP (Zr X G e_HueError) y_isinstance y_ValueError ⟨ag2,ig2,kg2⟩ bG2 GRoundX
 have GLLeast:=ok_lleast (P:=l.prog) (w:=w) (base:=base) u5 y_min
 have GLTies:=ok_lties (P:=l.prog) (w:=w) (base:=base) tY y_sorted
 have GIsList:=ok_islist (P:=l.prog) (w:=w) (base:=base) tX y_isinstance y_list
 have GRight:=ok_right (P:=l.prog) (w:=w) (base:=base) tW cW i7 kG jR GTake ⟨ag1,ig1,kg1⟩ bG1 GPlaces ⟨ag3,ig3,kg3⟩ bG3 GTies ⟨ag2,ig2,kg2⟩ bG2 GRoundOf ⟨ag4,ig4,kg4⟩ bG4 GTied tX b24 m24 GIsList tY b23 m23 GLTies u4 b21 m21 GWord y_sorted y_range y_len y_isinstance y_bool
 have GIsName:=ok_isname (P:=l.prog) (w:=w) (base:=base) F4 mM y_isinstance y_str y_len y_all
 have GNo:=ok_nonames (P:=l.prog) (w:=w) (base:=base) F5 F4 b4 m4 GIsName
 have GTw:=ok_twice (P:=l.prog) (w:=w) (base:=base) F6 y_len y_set
 have GOne:=ok_oneway (P:=l.prog) (w:=w) (base:=base) F7 y_dict
 have GLeast:=ok_least (P:=l.prog) (w:=w) (base:=base) F9 y_min y_tuple
 have GSteps:=ok_steps (P:=l.prog) (w:=w) (base:=base) F0 y_enumerate
 have GFaces:=ok_faces (P:=l.prog) (w:=w) (base:=base) F1 F0 b0 m0 GSteps y_sorted
 have GPiece:=ok_piece (P:=l.prog) (w:=w) (base:=base) F2 y_sorted
 have GPieces:=ok_pieces (P:=l.prog) (w:=w) (base:=base) F3 F2 b2 m2 GPiece y_sorted
 have GFlat:=ok_flat (P:=l.prog) (w:=w) (base:=base) F8 F1 b1 m1 GFaces F3 b3 m3 GPieces y_len y_sum
 have GInit:=ok_init (P:=l.prog) (w:=w) (base:=base) FG0 cW nR F5 b5 m5 GNo F6 b6 m6 GTw F7 b7 m7 GOne F9 b9 m9 GLeast F8 b8 m8 GFlat y_sorted
 have GMade:=ok_made (P:=l.prog) (w:=w) (base:=base) tZ ⟨mk,ag0,ig0,kc⟩ mC bG0 GInit y_list
 exact ok_law FL uf b10 m10 GPot u7 b19 m19 GDrawn u5 b20 m20 GLLeast tZ b22 m22 GMade tW b25 m25 GRight y_dict y_range y_len y_min y_max
def walk{l:PySem.W.OpenLaw}{q:Ni}{loose:Nj}{XP:(Str→Option Value)→Heap→Prop}{d:DefRec}{K:Params→PySem.W.Frag}(hn:l.most=some 63)(mw:d.params.defaults=[])(F:∀ (w:Nl) (mg:Nf) (fa:Nc) (h:Nm),(K w.params).In h→h.Ns mainGlobals mg→mg d.name=some (.ref fa) →
   ∃fd:FuncData,(∀(s:Ng) (u:Value),BindsTo s fd ⟨[u],[]⟩ [("_law_script",u)])∧∀base:Heap,(K w.params).In base→base.Ns mainGlobals mg→FnOk l.prog w (K w.params) mg base CX0 7 fa fd ["_law_script"] (spLaw (K w.params))) :
  PySem.W.WalkO q loose XP (λw h=>(K w.params).In h) l.row.toRowW d [] (λf vs=>PySem.call f vs) :=
 L2.walk_of (n:=63) (k:=7) (x := "_law_script") (CX:=λ_=>CX0) (sp:=λw=>spLaw (K w.params)) hn (by decide) mw ⟨rfl,by decide,by decide⟩ (λ_ _ z=>z) F (λ_ _ a ns hl _ hS=>⟨a,ns,rfl,hS,hl,λ_=>rfl⟩) λ_ _ _ _ _ z=>z
end K21
end
section
set_option Elab.async false
set_option linter.all false
open PySem PySem.W PySem.W.X PyProof.Rows
def PySem.W.Fast.tw12480147390387984480:Unit:=()
def PySem.W.Fast.tw17124852763575673528:Unit:=()
def PySem.W.Fast.tw15112203159579548248:Unit:=()
def PySem.W.Fast.tw1705967696458010620:Unit:=()
def PySem.W.Fast.tw11697992555717811051:Unit:=()
def PySem.W.Fast.tw3778325365001956943:Unit:=()
def PySem.W.Fast.tw18302056803311324192:Unit:=()
def PySem.W.Fast.tw1500147806224670508:Unit:=()
def PySem.W.Fast.tw17865759262762178672:Unit:=()
def PySem.W.Fast.tw17980349347277090516:Unit:=()
def PySem.W.Fast.tw7540903528186728474:Unit:=()
def PySem.W.Fast.tw8040980584697096995:Unit:=()
def PySem.W.Fast.tw8980782682072914956:Unit:=()
def PySem.W.Fast.tw4402599718498566539:Unit:=()
def PySem.W.Fast.tw16069019364406689211:Unit:=()
def PySem.W.Fast.tw8065497198936896574:Unit:=()
def PySem.W.Fast.tw12444813999295618973:Unit:=()
def PySem.W.Fast.tw10615356196873860222:Unit:=()
def PySem.W.Fast.tw14061701266097547386:Unit:=()
set_option maxRecDepth 100000 in
set_option maxHeartbeats 0 in
theorem PySem.Challenge.cw_fivehues_k11_rounds_told_holds : PySem.Challenge.rw_fivehues_k11_rounds_told.Holds := by
 w_on;o_law;z_head;(case hw=>w_witness2)
 k_fill
 intro w s0 s1 mg mb G y fa o pm cd doc dV kV ho hd hcd hD hmg hg args vals as L hpre hlay hrd hwl hlo
 z_open y L KX ZH ZN ZT
 refine K21.walk (l:=PySem.Challenge.rw_fivehues_k11_rounds_told) rfl rfl ?F w s0 s1 mg mb G KX fa o pm cd doc dV kV ho hd hcd hD hmg hg args vals as hpre hlay hrd hwl hlo
 case F =>
  clear KX ZH ZN ZT L y G hmg hg hpre hlay hrd hwl hlo ho hd hcd hD
  intro w mg fa h KX G hmg
  refine' K21.all_mk KX G hmg ?_ ?_ ?_ ?_ ?_ ?_ ?_ ?_ ?_ ?_ ?_ ?_ ?_ ?_ ?_ ?_ ?_ ?_ ?_ ?_ ?_ ?_ ?_ ?_ ?_ ?_ ?_ ?_ ?_ ?_ ?_ ?_ ?_ ?_ ?_ ?_ ?_ ?_ ?_ ?_ ?_ ?_ ?_ ?_ ?_ ?_ ?_ ?_ ?_ ?_ ?_ ?_ ?_ ?_ ?_ ?_ ?_ ?_ ?_ ?_ ?_ ?_ ?_ ?_ ?_ ?_ ?_ ?_ ?_ ?_ ?_ ?_ ?_ ?_ ?_ ?_ ?aC ?_ ?_ ?_ ?_ ?_ ?_ ?_ ?_ ?_ ?_ ?_ ?_ ?_ ?_ ?_ ?_ ?_ ?_ ?_ ?_ ?_ ?_ ?_ ?_ ?_ ?_ ?_ ?_ ?_ ?_ ?_ ?_ ?_ ?_ ?_ ?_ ?_
  (case aC=>k_is)
  all_goals(try first|k_is|kit_is|kts_exm|k_exc|exact⟨_,L2.fun_mk (by k_is) (by k_is) (by k_is)⟩)
end
