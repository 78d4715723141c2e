import PyProof.Rows.All
import KE.KDictOf
import KE.KDictSum
import KE.KEqDict
import KE.KSortTup
import KE.KTryMore
import KE.RegKIsAll
import KE.RegKTryMore
import Lean
import OpenK.AllK
import PyProof.EqAt
import PyProof.EqKinds
import PyProof.NsDelKeeps
import PyProof.Rows.StrMadeLen
import PyProof.SliceStr2
import PyProof.StrLaws
import PyProof.TupleCall
import Wide.All
import Wide.FinOn
import PySem.Challenge.RW_fivehues_k12_faces_and_pieces
set_option Elab.async false
set_option linter.all false
set_option maxRecDepth 100000
set_option maxHeartbeats 4000000
abbrev Qa:=@List.length_map
abbrev Qb:=@List.mem_singleton
abbrev Qc:=@List.getElem?_eq_getElem
abbrev Qd:=@List.mem_cons_self
abbrev Qe:=@List.mem_append
abbrev Qf:=@Nat.le_refl
abbrev Qg:=@List.mem_cons_of_mem
abbrev Qh:=@List.mem_cons
abbrev Qi:=@PySem.Heap.get?_push_of_some
abbrev Qj:=@List.map_cons
abbrev Qk:=@List.mem_map
abbrev Ql:=@List.length_append
abbrev Qm:=@List.append_assoc
abbrev Qn:=@List.getElem_mem
abbrev Qo:=@List.take_succ_eq_append_getElem
abbrev Qp:=@List.mem_append_right
abbrev Qq:=@List.size_toArray
abbrev Qr:=@List.mem_append_left
abbrev Qs:=@List.map_append
abbrev Qt:=@Option.some.inj
abbrev Qu:=@List.getElem?_map
abbrev Qv:=@List.take_of_length_le
abbrev Qw:=@List.getD_eq_getElem?_getD
abbrev Qx:=@List.getElem_of_mem
abbrev Qy:=@PySem.F.plainAttrs_list
abbrev Qz:=@PySem.Heap.lt_size
abbrev Za:=@List.nodup_cons
abbrev Zb:=@List.length_cons
abbrev Zc:=@Array.toList_append
abbrev Zd:=@PySem.Heap.get?_push_size
abbrev Ze:=@List.nodup_append
abbrev Zf:=@List.length_take
abbrev Zg:=@List.getElem?_eq_some_iff
abbrev Zh:=@Bool.false_ne_true
abbrev Zi:=@List.getElem_map
abbrev Zj:=@Nat.le_trans
abbrev Zk:=@List.map_map
abbrev Zl:=@List.take_append_drop
abbrev Zm:=@PySem.PassesOwn.never
abbrev Zn:=@Nat.zero_le
abbrev Zo:=@Ne.symm
abbrev Zp:=@PySem.F.type_list_append
abbrev Zq:=@PySem.F.slot_list_append
abbrev Zr:=@Nat.ne_of_lt
abbrev Zs:=@PySem.W.mg_of
abbrev Zt:=@Nat.le_of_lt
abbrev Zu:=@PySem.boot_len
abbrev Zv:=@List.Perm.append_left
abbrev Zw:=@Int.eq_ofNat_of_zero_le
abbrev Zx:=@PySem.Paired.length
abbrev Zy:=@List.append_nil
abbrev Zz:=@Array.perm_iff_toList_perm
abbrev Ya:=@List.pairwise_append
abbrev Yb:=@List.nodup_nil
abbrev Yc:=@List.drop_eq_getElem_cons
abbrev Yd:=@Nat.le_add_right
abbrev Yf:=@List.mem_flatten
abbrev Yh:=@Nat.lt_of_lt_of_le
abbrev Yi:=@PyProof.Rows.KeyOrd.kle_of_klt
abbrev Yj:=@List.flatten_cons
abbrev Yl:=@PyProof.Rows.KeyOrd.kle_trans
abbrev Ym:=@Array.length_toList
abbrev Yn:=@PySem.W.mg_none_of
abbrev Yo:=@List.cons_append
abbrev Yp:=@List.mem_range
abbrev Yq:=@List.mem_of_getElem?
abbrev Yr:=@Bool.eq_iff_iff
abbrev Yu:=@PyProof.Rows.boot_sorted
abbrev Yv:=@List.sum_cons
abbrev Yw:=@List.perm_append_comm
abbrev Yx:=@List.filter_cons_of_pos
abbrev Yy:=@List.filter_cons_of_neg
abbrev Yz:=@List.length_drop
abbrev Wa:=@List.any_eq_true
abbrev Wc:=@PyProof.Rows.KeyOrd.kle_refl
abbrev Wd:=@List.mem_of_mem_take
abbrev We:=@Nat.lt_of_le_of_lt
abbrev Wf:=@List.append_of_mem
abbrev Wg:=@Nat.lt_succ_self
abbrev Wh:=@Nat.lt_irrefl
abbrev Wi:=@List.mem_of_mem_drop
abbrev Wj:=@List.flatten_append
abbrev Wk:=@Nat.ne_of_gt
abbrev Wl:=@List.length_range
abbrev Wm:=@Bool.not_eq_true'
abbrev Wn:=@List.lt_irrefl
abbrev Wo:=@Bool.false_eq_true
abbrev Wp:=@Array.toList_reverse
abbrev Wq:=@List.getElem_inj
abbrev Wr:=@List.pairwise_iff_getElem
abbrev Ws:=@List.pairwise_map
abbrev Wt:=@Array.toList_push
abbrev Wu:=@Nat.lt_trans
abbrev Wv:=@List.perm_ext_iff_of_nodup
abbrev Ww:=@List.getElem_take
abbrev Wx:=@PySem.Around.under_plainId
abbrev Wy:=@PySem.mem_of_lookup
abbrev Wz:=@List.map_congr_left
abbrev Ua:=@List.getElem?_eq_none
abbrev Ub:=@PySem.F.called_set
abbrev Uc:=@List.pairwise_cons
abbrev Ud:=@List.reverse_perm
abbrev Ue:=@Nat.mod_lt
abbrev Uf:=@List.mem_filter
abbrev Ug:=@List.length_pos_iff
abbrev Uh:=@List.filter_sublist
abbrev Ui:=@List.find?_cons_of_pos
abbrev Uj:=@List.find?_cons_of_neg
abbrev Uk:=@Array.getD_eq_getD_getElem?
abbrev Ul:=@List.lookup_cons
abbrev Um:=@PySem.F.slot_dict_keyiterator_next
abbrev Uo:=@List.getElem?_append_right
abbrev Uq:=@List.filter_append
abbrev Ur:=@List.Nodup.sublist
abbrev Us:=@Array.getElem?_toList
abbrev Ut:=@List.length_set
abbrev Uu:=@PySem.SeqAt.EqAt.str_str
abbrev Uv:=@PySem.Heap.size_push
abbrev Uw:=@List.map_take
abbrev Ux:=@List.idxOf_lt_length_iff
abbrev Uy:=@List.perm_iff_count
abbrev Uz:=@PySem.F.type_list_index
abbrev Ja:=@PySem.F.slot_list_index
abbrev Jb:=@List.length_eq_zero_iff
abbrev Jc:=@List.flatten_nil
abbrev Jd:=@Bool.and_eq_true
abbrev Je:=@Prod.mk.inj
abbrev Jf:=@List.drop_of_length_le
abbrev Jg:=@List.Perm.append_right
abbrev Ji:=@Nat.le_antisymm
abbrev Jj:=@List.nil_append
abbrev Jk:=@List.length_nil
abbrev Jl:=@Bool.or_eq_true
abbrev Jm:=@List.length_singleton
abbrev Jo:=@List.length_replicate
abbrev Jp:=@List.take_sublist
abbrev Jq:=@List.count_append
abbrev Jr:=@Int.toNat_natCast
abbrev Js:=@PySem.Heap.get?_update_other
abbrev Jt:=@Array.toList_setIfInBounds
abbrev Ju:=@Nat.zero_add
abbrev Jv:=@List.all_eq_true
abbrev Jw:=@List.map_drop
abbrev Jx:=@PySem.F.slot_tuple_iterator_next
abbrev Jy:=@List.foldl_cons
abbrev Jz:=@List.find?_cons
abbrev Ka:=@List.filter_nil
abbrev Kb:=@List.count_cons
abbrev Kc:=@List.ne_nil_of_mem
abbrev Kd:=@List.getElem_range
abbrev Ke:=@Int.emod_lt_of_pos
abbrev Kf:=@Bool.not_eq_false'
abbrev Kg:=@Sum.inr.inj
abbrev Kh:=@Nat.le_succ
abbrev Ki:=@List.pairwise_singleton
abbrev Kj:=@PyProof.Rows.boot_list
abbrev Kk:=@Nat.lt_succ_of_lt
abbrev Kl:=@List.length_pos_of_mem
abbrev Km:=@List.Perm.flatten
abbrev Kn:=@List.set_append_right
abbrev Ko:=@List.length_filter_le
abbrev Kp:=@Nat.add_assoc
abbrev Kq:=@List.any_cons
abbrev Kr:=@PyProof.Rows.KeyOrd.kle_antisymm
abbrev Ks:=@Prod.ext
abbrev Kt:=@List.take_append_of_le_length
abbrev Ku:=@List.perm_cons_erase
abbrev Kv:=@List.getElem_toArray
abbrev Kw:=@PyProof.Rows.KeyOrd.klt_of_klt_of_kle
abbrev Kx:=@PyProof.Rows.KeyOrd.klt_of_kle_of_klt
abbrev Ky:=@PyProof.Rows.boot_isinstance
abbrev Kz:=@Int.emod_nonneg
abbrev Xa:=@Nat.add_le_add_left
abbrev Xb:=@List.getElem_set_ne
abbrev Xc:=@PyProof.Rows.callWith_type1
abbrev Xd:=@List.map_nil
abbrev Xe:=@List.getElem_idxOf
abbrev Xf:=@List.getElem?_append_left
abbrev Xg:=@List.extract_eq_take_drop
abbrev Xh:=@Decidable.byContradiction
abbrev Xi:=@Array.getElem?_eq_getElem
abbrev Xj:=@List.reverse_cons
abbrev Xk:=@List.ext_getElem?
abbrev Xl:=@List.drop_sublist
abbrev Xm:=@PySem.Heap.SameBut.update
abbrev Xn:=@PySem.F.type_list_insert
abbrev Xo:=@PySem.F.slot_list_insert
abbrev Xp:=@PySem.W.KasT.kasWp_bind
abbrev Xq:=@PySem.Obj.data_mapFields
abbrev Xr:=@List.nodup_range
abbrev Xt:=@List.mem_reverse
abbrev Xu:=@Array.toList_map
abbrev Xv:=@Array.toList_inj
abbrev Xw:=@Nat.sub_self
abbrev Xx:=@Int.zero_add
abbrev Xy:=@List.range_succ
abbrev Xz:=@List.idxOf_cons
abbrev Ba:=@PySem.F.slot_dict_get
abbrev Bb:=@PyProof.Rows.boot_min
abbrev Bc:=@PyProof.Rows.boot_all
abbrev Na:=PySem.Value→PySem.Shared→Prop
abbrev Nb:=PySem.W.Frag
abbrev Nc:=PySem.Addr
abbrev Nd:=List (PySem.Addr×PySem.Obj)
abbrev Nf:=PySem.Str→Option PySem.Value
abbrev Ng:=PySem.Shared
abbrev Nh:=List PySem.Value
abbrev Ni:=List PySem.Str
abbrev Nj:=PySem.Program
abbrev Nk:=List PySem.Addr
abbrev Nl:=PySem.World
abbrev Nm:=PySem.Around
abbrev Nn:=PySem.Heap
abbrev No:=List (PySem.Str×PySem.Str)
abbrev Np:=PySem.Str→List PySem.Str
abbrev Nq:=List PySem.Expr
abbrev Nr:=PySem.Str→PySem.Str
abbrev Nt:=PySem.FuncData
abbrev Nu:=List (Option Nat)
abbrev Nv:=PySem.Result→PySem.Shared→Prop
section
set_option Elab.async false
inductive Ex1{T0:Sort _}(P:T0→Prop):Prop
 |mk (x0:T0) (h:P x0):Ex1 P
inductive Ex2{T0:Sort _}{T1:Sort _}(P:T0→T1→Prop):Prop
 |mk (x0:T0) (x1:T1) (h:P x0 x1):Ex2 P
inductive Ex3{T0:Sort _}{T1:Sort _}{T2:Sort _}(P:T0→T1→T2→Prop):Prop
 |mk (x0:T0) (x1:T1) (x2:T2) (h:P x0 x1 x2):Ex3 P
inductive Ex4{T0:Sort _}{T1:Sort _}{T2:Sort _}{T3:Sort _}(P:T0→T1→T2→T3→Prop):Prop
 |mk (x0:T0) (x1:T1) (x2:T2) (x3:T3) (h:P x0 x1 x2 x3):Ex4 P
inductive Ex5{T0:Sort _}{T1:Sort _}{T2:Sort _}{T3:Sort _}{T4:Sort _}(P:T0→T1→T2→T3→T4→Prop):Prop
 |mk (x0:T0) (x1:T1) (x2:T2) (x3:T3) (x4:T4) (h:P x0 x1 x2 x3 x4):Ex5 P
inductive Ex6{T0:Sort _}{T1:Sort _}{T2:Sort _}{T3:Sort _}{T4:Sort _}{T5:Sort _}(P:T0→T1→T2→T3→T4→T5→Prop):Prop
 |mk (x0:T0) (x1:T1) (x2:T2) (x3:T3) (x4:T4) (x5:T5) (h:P x0 x1 x2 x3 x4 x5):Ex6 P
structure Aj2(p0 p1:Prop):Prop where
 h0:p0
 h1:p1
structure Aj3(p0 p1 p2:Prop):Prop where
 h0:p0
 h1:p1
 h2:p2
structure Aj4(p0 p1 p2 p3:Prop):Prop where
 h0:p0
 h1:p1
 h2:p2
 h3:p3
structure Aj5(p0 p1 p2 p3 p4:Prop):Prop where
 h0:p0
 h1:p1
 h2:p2
 h3:p3
 h4:p4
structure Aj6(p0 p1 p2 p3 p4 p5:Prop):Prop where
 h0:p0
 h1:p1
 h2:p2
 h3:p3
 h4:p4
 h5:p5
structure Aj7(p0 p1 p2 p3 p4 p5 p6:Prop):Prop where
 h0:p0
 h1:p1
 h2:p2
 h3:p3
 h4:p4
 h5:p5
 h6:p6
structure Aj8(p0 p1 p2 p3 p4 p5 p6 p7:Prop):Prop where
 h0:p0
 h1:p1
 h2:p2
 h3:p3
 h4:p4
 h5:p5
 h6:p6
 h7:p7
structure Aj9(p0 p1 p2 p3 p4 p5 p6 p7 p8:Prop):Prop where
 h0:p0
 h1:p1
 h2:p2
 h3:p3
 h4:p4
 h5:p5
 h6:p6
 h7:p7
 h8:p8
def zar1{a b:Nat}(h:a<b):b-(a+1)<b-a:=Nat.sub_lt_sub_left h (Wg a)
def zar2{a b c d:Nat}(h:a+b≤c)(k:d<b):a+d<c:=Yh (Nat.add_lt_add_left k a) h
def zar3{a b:Nat}(h:a≤b)(k:¬a<b):a=b:=Ji h (Nat.le_of_not_lt k)
def zar4{a b:Nat}(h:a≤b):a+1≤b+1:=Nat.succ_le_succ h
def zar5{a b:Nat}(h:a<b)(k:¬a+1=b):a+1<b:=Nat.lt_of_le_of_ne h k
def zar6{a b c:Nat}(e:a=b)(h:c<b):c<a:=e▸h
def zar7{a b c:Nat}(e:a=b)(h:c<a):c<b:=e▸h
def zar8{a b:Nat}(h:(a:Int)<(b:Int)):a<b:=Int.ofNat_lt.mp h
def zar9{a b:Nat}(h:a<b):(a:Int)<(b:Int):=Int.ofNat_lt.mpr h
def zar10{a b:Nat}(h:a<b)(k:b≤a):False:=Wh _ (Yh h k)
def zd1{a b c:Nat}(h:a≤b)(e:a=c):c≤b:=e▸h
def zar14{a:Nat}(h:¬a=0):a=a-1+1:=(Nat.succ_pred h).symm
def zh2{a b:Nat}(h:a≤b):a≤b+1:=Nat.le_succ_of_le h
end
section
set_option Elab.async false
set_option linter.all false
set_option maxRecDepth 100000
namespace L2
open PySem PySem.Spec PyProof.Rows
abbrev Key:=Sum Int Str
def keyIs:Key→Value→Bool
 |.inl k,v=>Value.isInt k v
 |.inr x,v=>Value.isStrOf x v
def keyH(w:Nl):Key→Int
 |.inl k=>hashInt k
 |.inr x=>hashStr w x
theorem zbd:∀{k:Key} {v:Value},keyIs k v=true→(∃i t,k=Sum.inl i∧v=Value.int i t)∨(∃x t,k=Sum.inr x∧v=Value.str x t)
 |.inl i,v,h=>by
  obtain⟨t,e⟩:=Value.isInt_shape (k:=i) (v:=v) h
  exact .inl ⟨i,t,rfl,e⟩
 |.inr x,v,h=>by
  obtain⟨t,e⟩:=Value.isStrOf_shape (x:=x) (v:=v) h
  exact .inr ⟨x,t,rfl,e⟩
def keyIs_int(i:Int)(t:Tok):keyIs (.inl i) (.int i t)=true:=by simp[keyIs,Value.isInt]
def keyIs_str(x:Str)(t:Tok):keyIs (.inr x) (.str x t)=true:=by simp[keyIs,Value.isStrOf]
def key_ll(a b:Int):decide ((Sum.inl a:Key)=Sum.inl b)=(a==b):=by
 by_cases e:a=b
 ·subst e;simp
 ·have h:¬ (Sum.inl a:Key)=Sum.inl b:=fun q=>e (Sum.inl.inj q)
  rw[decide_eq_false h]
  exact(beq_eq_false_iff_ne.mpr e).symm
def key_rr(a b:Str):decide ((Sum.inr a:Key)=Sum.inr b)=decide (a=b):=by
 by_cases e:a=b
 ·subst e;simp
 ·have h:¬ (Sum.inr a:Key)=Sum.inr b:=fun q=>e (Kg q)
  rw[decide_eq_false h,decide_eq_false e]
def key_lr(a:Int)(b:Str):decide ((Sum.inl a:Key)=Sum.inr b)=false:=decide_eq_false (λq=>nomatch q)
def key_rl(a:Str)(b:Int):decide ((Sum.inr a:Key)=Sum.inl b)=false:=decide_eq_false (λq=>nomatch q)
def zar(prog:Nj)(w:Nl):PySem.KeyKind prog w Key where
 is:=keyIs
 hash:=keyH w
 inj:=λv a b ha hb=>by
  rcases zbd ha with⟨i,t,rfl,rfl⟩ | ⟨x,t,rfl,rfl⟩
  ·rcases zbd hb with ⟨j,u,rfl,e⟩ | ⟨y,u,rfl,e⟩
   ·injection e with e1 _;rw[e1]
   ·exact nomatch e
  ·rcases zbd hb with ⟨j,u,rfl,e⟩ | ⟨y,u,rfl,e⟩
   ·exact nomatch e
   ·injection e with e1 _;rw[e1]
 byValue:=λk v h=>by
  rcases zbd h with⟨i,t,rfl,rfl⟩ | ⟨x,t,rfl,rfl⟩<;>rfl
 pyHash:=λhv h=>by
  rcases zbd hv with⟨i,t,rfl,rfl⟩ | ⟨x,t,rfl,rfl⟩
  ·exact wpAny_pyHash_int h
  ·exact wpAny_pyHash_str h
 eqBool:=λhu hv h=>by
  rcases zbd hu with⟨i,t,rfl,rfl⟩ | ⟨x,t,rfl,rfl⟩
  ·rcases zbd hv with ⟨j,u,rfl,rfl⟩ | ⟨y,u,rfl,rfl⟩
   ·rw[key_ll]at h;exact wpAny_eqBool_int h
   ·rw[key_lr]at h;exact SeqAt.EqAt.int_str i t y u _ _ _ _ h
  ·rcases zbd hv with ⟨j,u,rfl,rfl⟩ | ⟨y,u,rfl,rfl⟩
   ·rw[key_rl]at h;exact SeqAt.EqAt.str_int x t j u _ _ _ _ h
   ·rw[key_rr]at h;exact wpAny_eqBool_str h
 «strs»:=λk x t v h=>by
  rcases zbd h with⟨i,u,rfl,e⟩ | ⟨y,u,rfl,e⟩
  ·exact nomatch e
  ·injection e with e1 _
   subst e1
   cases v<;>rfl
def mixKind_int(prog:Nj)(w:Nl)(i:Int)(t:Tok):(zar prog w).is (.inl i) (.int i t)=true:=keyIs_int i t
def zgz(prog:Nj)(w:Nl)(x:Str)(t:Tok):(zar prog w).is (.inr x) (.str x t)=true:=keyIs_str x t
end L2
namespace L2
open PySem PySem.Spec PyProof.Rows
inductive V where
 |non | bl (b:Bool) | int (i:Int) | str (x:Str) | byt (b:Array UInt8) | flt (b:UInt64) | ref (a:Nc) | ty (n:String)
 deriving DecidableEq
def RelV:V→Value→Prop
 |.non,u=>u=Value.none
 |.bl b,u=>u=Value.bool b
 |.int i,u=>∃t,u=Value.int i t
 |.str x,u=>∃t,u=Value.str x t
 |.byt b,u=>∃t,u=Value.bytes b t
 |.flt b,u=>∃t,u=Value.float b t
 |.ref a,u=>u=Value.ref a
 |.ty n,u=>u=Value.type n
abbrev Vals:List V→List Value→Prop:=Paired RelV
def Vals.length{xs:List V}{us:Nh}(r:Vals xs us):xs.length=us.length:=Zx r
theorem Vals.get:∀{xs:List V} {us:Nh} {i:Nat} {x:V},Vals xs us→xs[i]?=some x→∃u,us[i]?=some u∧RelV x u
 |_,_,_,_,.nil,e=>by simp at e
 |_,_,0,_,.cons r _,e=>by simp at e;subst e;exact⟨_,rfl,r⟩
 |_,_,i+1,x,.cons _ t,e=>by
  obtain⟨u,h1,h2⟩:=Vals.get (i:=i) (x:=x) t (by simpa using e)
  exact⟨u,by simpa using h1,h2⟩
theorem Vals.set{x:V}{u:Value}(r:RelV x u):∀{xs:List V} {us:Nh} (i:Nat),Vals xs us→Vals (xs.set i x) (us.set i u)
 |_,_,_,.nil=>.nil
 |_,_,0,.cons _ t=>.cons r t
 |_,_,i+1,.cons q t=>.cons q (Vals.set r i t)
theorem Vals.append:∀{xs ys:List V} {us ws:Nh},Vals xs us→Vals ys ws→Vals (xs++ys) (us++ws)
 |_,_,_,_,.nil,s=>s
 |_,_,_,_,.cons r t,s=>.cons r (Vals.append t s)
theorem Vals.take:∀{xs:List V} {us:Nh} (n:Nat),Vals xs us→Vals (xs.take n) (us.take n)
 |_,_,0,_=>.nil
 |_,_,_+1,.nil=>.nil
 |_,_,n+1,.cons r t=>.cons r (Vals.take n t)
theorem Vals.drop:∀{xs:List V} {us:Nh} (n:Nat),Vals xs us→Vals (xs.drop n) (us.drop n)
 |_,_,0,r=>r
 |_,_,_+1,.nil=>.nil
 |_,_,n+1,.cons _ t=>Vals.drop n t
def RelO:Option V→Option Value→Prop
 |some v,some u=>RelV v u
 |none,none=>True
 |_,_=>False
def KV{κ:Type}:List (κ×V)→List (κ×Value)→Prop:=Paired λ(p:κ×V) (q:κ×Value)=>p.1=q.1∧RelV p.2 q.2
def kV:Key→V
 |.inl i=>.int i
 |.inr x=>.str x
inductive HO where
 /-- a list -/
 |lst (xs:List V)
 /-- a tuple (never changes) -/
 |tup (xs:List V)
 /-- a dict whose keys are ints and texts;one whose keys are tuples of ints and texts (the empty one is both) -/
 |dK (kvs:List (Key×V)) | dT (kvs:List (List Key×V))
 /-- a set of ints: a8 members,a8 size -/
 |set (S:Int→Bool) (n:Nat)
 /-- an instance of the class at C,a8 dict at dx,a8 attributes -/
 |ins (C dx:Nc) (fs:List (Str×V))
 /-- the dict of the instance at x -/
 |own (x:Nc)
 /-- the dict of an exception -/
 |xd (fs:List (Str×V))
 /-- a bound method,f of x -/
 |met (f x:Nc)
 /-- a range object lo,lo+1,.. below hi -/
 |rng (lo hi:Int)
 /-- a thing that is known to the object (the script;a dict while a loop walks it): read,never written while it is so -/
 |frz (o:Obj) (u:HO)
 /-- a code object's table -/
 |tbl (ps:Array Value)
 /-- any other thing,by what is true of a8 one object (a def of one's own: SetO a S n:=HO.ext λh=>..) -/
 |ext (φ:Heap→Prop)
abbrev Hp:=Addr→Option HO
def upd(H:Hp)(a:Nc)(o:HO):Hp:=λb=>if b=a then some o else H b
def zac{H:Hp}{a:Nc}{o:HO}:upd H a o a=some o:=by unfold upd;rw[if_pos rfl]
def zaf{H:Hp}{a b:Nc}{o:HO}(h:b≠a):upd H a o b=H b:=by unfold upd;rw[if_neg h]
def upd_upd{H:Hp}{a:Nc}{o u:HO}:upd (upd H a o) a u=upd H a u:=by
 funext b;unfold upd;split<;>rfl
def za3{H:Hp}{a b:Nc}{o u:HO}(h:H a=some o)(h':H b=some u)(d:o≠u):a≠b:=by
 intro e;subst e;rw[h]at h';exact d (Qt h')
def zab{H:Hp}{a b:Nc}{o:HO}(h:H a=some o)(h':H b=none):a≠b:=by
 intro e;subst e;rw[h]at h';cases h'
section
variable(P:Nj)(w:Nl)
def zbt(H:Hp)(h:Nn)(a:Nc):HO→Prop
 |.lst xs=>xs.length≤sizeLine∧∃(a8:Nh) (n:Nat),Vals xs a8∧h.get? a=some {cls:=.type "list",data:=.seq a8.toArray n}
 |.tup xs=>xs.length≤sizeLine∧∃a8:List Value,Vals xs a8∧IsTup h a a8.toArray
 |.dK kvs=>kvs.length≤sizeLine∧(a==sysModules)=false∧∃vs,KV kvs vs∧h.DictOf (zar P w) a vs
 | .dT kvs=>kvs.length≤sizeLine∧(a == sysModules)=false∧∃ xs:List (List Key×Addr×Value),
   Paired (λ(p:List Key×V) (q:List Key×Addr×Value)=>p.1=q.1∧H q.2.1=some (.tup (p.1.map kV))∧RelV p.2 q.2.2) kvs xs ∧
   ∃o es ep,h.get? a=some o∧o.ExactDict∧o.data=.dict es ep∧es.toList=xs.map (entryOfKey (tupleKind (zar P w)))∧(xs.map (·.1)).Nodup
 |.set S n=>h.SetOf (intKind P w) a S n
 | .ins C dx fs=>H dx=some (.own a)∧fs.length≤1000∧dx≠a∧h.get? a=some (PySem.W.instObj C dx) ∧
   ∃mA,h.Ns1 dx mA∧(∀f,RelO (fs.lookup f) (mA f))∧PySem.Within mA (fs.map (·.1))
 |.own _=>∃o,h.get? a=some o
 |.xd fs=>∃mA,h.Ns1 a mA∧∀f,RelO (fs.lookup f) (mA f)
 |.rng lo hi=>∃t u v,h.get? a=some {cls:=.type "range",data:=.fields #[.int lo t,.int hi u,.int 1 v]}
 |.frz o u=>h.get? a=some o∧zbt H h a u
 |.tbl ps=>h.get? a=some {cls:=.none,data:=.fields ps}
 |.met f x=>h.get? a=some (PySem.W.methodObj (.ref f) (.ref x))
 |.ext φ=>φ h∧(∃o,h.get? a=some o)∧∀h1 h2:Heap,φ h1→(∀o,h1.get? a=some o→h2.get? a=some o)→φ h2
def HOk(H:Hp)(h:Nn):Prop:=∀a o,H a=some o→zbt P w H h a o
end
section
variable{P:Nj}{w:Nl}{H H':Hp}{h h':Nn}{a:Nc}{o:HO}
def zbt.lt(x:zbt P w H h a o):a<h.objs.size:=by
 cases o with
 |lst xs=>obtain⟨_,_,_,_,e⟩:=x;exact Qz e
 |tup xs=>obtain⟨_,_,_,p⟩:=x;exact p.lt
 |dK kvs=>obtain⟨_,_,_,_,o,_,_,e,_⟩:=x;exact Qz e
 |dT kvs=>obtain⟨_,_,_,_,o,_,_,e,_⟩:=x;exact Qz e
 |set S n=>obtain⟨o,_,_,_,e,_⟩:=x;exact Qz e
 |ins C dx fs=>obtain⟨_,_,_,e,_⟩:=x;exact Qz e
 |own y=>obtain⟨_,e⟩:=x;exact Qz e
 |xd fs=>obtain⟨_,⟨_,_,_,e,_⟩,_⟩:=x;exact Qz e
 |rng lo hi=>obtain⟨_,_,_,e⟩:=x;exact Qz e
 |frz ob u=>obtain⟨e,_⟩:=x;exact Qz e
 |tbl ps=>exact Qz (show h.get? a=some _ from x)
 |met f y=>exact Qz (show h.get? a=some _ from x)
 |ext φ=>obtain⟨_,⟨_,e⟩,_⟩:=x;exact Qz e
theorem Paired.mapP{α β:Type}{F G:α→β→Prop}:∀{l₁:List α} {l₂:List β},Paired F l₁ l₂→(∀a b,F a b→G a b)→Paired G l₁ l₂
 |_,_,.nil,_=>.nil
 |_,_,.cons r t,f=>.cons (f _ _ r) (Paired.mapP t f)
def Paired.imp'{α β:Type}{F G:α→β→Prop}(f:∀a b,F a b→G a b){l₁:List α}{l₂:List β}(r:Paired F l₁ l₂):Paired G l₁ l₂:=Paired.mapP r f
def zbt.stay(x:zbt P w H h a o)(k:∀b u,(b=a∨H b=some (.own a))→h.get? b=some u→h'.get? b=some u)(ho:∀b,H b=some (.own a)→H' b=some (.own a))(ht:∀b xs,H b=some (.tup xs)→H' b=some (.tup xs)):zbt P w H' h' a o:=by
 induction o with
 |lst xs=>obtain⟨z,a8,n,r,e⟩:=x;exact⟨z,a8,n,r,k _ _ (.inl rfl) e⟩
 |tup xs=>obtain⟨z,a8,r,ob,e,c⟩:=x;exact⟨z,a8,r,ob,k _ _ (.inl rfl) e,c⟩
 |dK kvs=>obtain⟨z,y,vs,r,ob,es,ep,e,c⟩:=x;exact⟨z,y,vs,r,ob,es,ep,k _ _ (.inl rfl) e,c⟩
 |dT kvs =>
  obtain⟨z,y,xs,r,ob,es,ep,e,c⟩:=x
  exact⟨z,y,xs,Paired.mapP r λp q z=>⟨z.1,ht _ _ z.2.1,z.2.2⟩,ob,es,ep,k _ _ (.inl rfl) e,c⟩
 |set S n=>obtain⟨ob,es,ep,t,e,c⟩:=x;exact⟨ob,es,ep,t,k _ _ (.inl rfl) e,c⟩
 |ins C dx fs =>
  obtain⟨d,z,ne,e,mA,⟨od,es,ep,e2,c⟩,r⟩:=x
  exact⟨ho _ d,z,ne,k _ _ (.inl rfl) e,mA,⟨od,es,ep,k _ _ (.inr d) e2,c⟩,r⟩
 |own y=>obtain⟨ob,e⟩:=x;exact⟨ob,k _ _ (.inl rfl) e⟩
 |xd fs=>obtain⟨mA,⟨od,es,ep,e,c⟩,r⟩:=x;exact⟨mA,⟨od,es,ep,k _ _ (.inl rfl) e,c⟩,r⟩
 |rng lo hi=>obtain⟨t,u,v,e⟩:=x;exact⟨t,u,v,k _ _ (.inl rfl) e⟩
 |frz ob u ih=>obtain⟨e,q⟩:=x;exact⟨k _ _ (.inl rfl) e,ih q⟩
 |tbl ps =>
  have e:h.get? a=some {cls:=.none,data:=.fields ps}:=x
  show h'.get? a=some {cls:=.none,data:=.fields ps}
  exact k a _ (.inl rfl) e
 |met f y =>
  have e:h.get? a=some (PySem.W.methodObj (.ref f) (.ref y)):=x
  show h'.get? a=some (PySem.W.methodObj (.ref f) (.ref y))
  exact k a _ (.inl rfl) e
 |ext φ=>obtain⟨p,⟨o,e⟩,st⟩:=x;exact⟨st _ _ p λo q=>k _ _ (.inl rfl) q,⟨o,k _ _ (.inl rfl) e⟩,st⟩
def HOk.lt(x:HOk P w H h)(e:H a=some o):a<h.objs.size:=(x a o e).lt
def HOk.fresh(x:HOk P w H h)(e:h.objs.size≤a):H a=none:=by
 cases q:H a with
 |none=>rfl
 |some u=>exact absurd (Yh (x.lt q) e) (Wh _)
def HOk.kept(x:HOk P w H h)(k:∀b u,h.get? b=some u→h'.get? b=some u):HOk P w H h':=λa o e =>
 (x a o e).stay (λb u _ q=>k b u q) (λ_ q=>q) λ_ _ q=>q
def HOk.laid(x:HOk P w H h)(k:∀b u,h.get? b=some u→h'.get? b=some u)(hp:h.objs.size≤a)(new:zbt P w (upd H a o) h' a o):HOk P w (upd H a o) h':=λb u e=>by
 have hn:=x.fresh hp
 by_cases hb:b=a
 ·subst hb;rw[zac]at e;cases e;exact new
 ·rw [zaf hb] at e
  exact(x b u e).stay (λc v _ q=>k c v q) (λc q=>by rw[zaf (zab q hn)];exact q) λc xs q=>by rw[zaf (zab q hn)];exact q
end
def Rd(H:Hp)(a:Nc)(u:HO):Prop:=H a=some u∨∃o,H a=some (.frz o u)
def Rd.ok{P:Nj}{w:Nl}{H:Hp}{h:Nn}{a:Nc}{u:HO}(r:Rd H a u)(x:HOk P w H h):zbt P w H h a u:=by
 rcases r with r | ⟨o,r⟩
 ·exact x a u r
 ·obtain ⟨_,q⟩:=x a _ r
  exact q
def Mut:Option HO→Prop
 |some (.lst _)=>True
 |some (.dK _)=>True
 |some (.dT _)=>True
 |some (.set _ _)=>True
 |some (.ins _ _ _)=>True
 |some (.ext _)=>True
 |_=>False
section
variable{P:Nj}{w:Nl}{H:Hp}{h h':Nn}{x e:Nc}{o':HO}
def HOk.write(ok:HOk P w H h)(mu:Mut (H x))(he:e=x∨H e=some (.own x))(k:∀ b u,b≠e→h.get? b=some u→h'.get? b=some u)(ki:∃ u,h'.get? e=some u)(new:zbt P w (upd H x o') h' x o'):HOk P w (upd H x o') h':=λb u q=>by
 have nown:∀c y,H c=some (.own y)→c≠x:=λc y r z=>by subst z;rw[r]at mu;exact mu
 have ntup:∀c xs,H c=some (.tup xs)→c≠x:=λc xs r z=>by subst z;rw[r]at mu;exact mu
 by_cases hb:b=x
 ·subst hb;rw[zac]at q;cases q;exact new
 ·rw [zaf hb] at q
  by_cases jx:b=e
  ·have q':H b=some (.own x):=by
    rcases he with z | z
    ·exact absurd (jx.trans z) hb
    ·rw[jx];exact z
   rw[q]at q';cases q'
   obtain⟨v,hv⟩:=ki
   exact⟨v,by rw[jx];exact hv⟩
  ·refine (ok b u q).stay (fun c v hc r=>k c v ?_ r) (fun c r=>by rw [zaf (nown c b r)];exact r) fun c xs r=>by rw [zaf (ntup c xs r)];exact r
   rcases hc with rfl | hc
   ·exact jx
   ·rintro rfl
    rcases he with z | z
    ·exact nown c b hc z
    ·rw[hc]at z;cases z;exact hb rfl
end
structure Un(fs ex:Nk)(H H':Hp)(h h':Nn):Prop where
 keep:∀b o,h.get? b=some o→H b=none→b∉fs→b∉ex→h'.get? b=some o
 slot:∀b o,h.get? b=some o→H b=none→b∈fs→b∉ex→∃sl,h'.get? b=some {o with slots:=sl}
 free:∀b o,h.get? b=some o→H b=none→b∉ex→H' b=none
 there:∀b o,h.get? b=some o→b∉ex→∃o',h'.get? b=some o'
 tups:∀b xs,H b=some (.tup xs)→H' b=some (.tup xs)
 frzs:∀b o u,H b=some (.frz o u)→H' b=some (.frz o u)
 tbls:∀b ps,H b=some (.tbl ps)→∃more,H' b=some (.tbl (ps++more))
section
variable{fs fs' ex ex':Nk}{H H1 H2:Hp}{h h1 h2 h':Nn}{a x e:Nc}{o:HO}
def Un.any(u:Un fs ex H H1 h h1){b:Nc}{ob:Obj}(q:h.get? b=some ob)(n:H b=none)(hx:b∉ex):∃sl,h1.get? b=some {ob with slots:=sl}:=by
 by_cases hb:b∈fs
 ·exact u.slot b ob q n hb hx
 ·exact⟨ob.slots,u.keep b ob q n hb hx⟩
def Un.kept(k:∀b u,h.get? b=some u→h'.get? b=some u):Un fs ex H H h h' :=
 ⟨λb ob q _ _ _=>k b ob q,λb ob q _ _ _=>⟨ob.slots,k b ob q⟩,λ_ _ _ n _=>n,λb ob q _=>⟨ob,k b ob q⟩,λ_ _ q=>q,λ_ _ _ q=>q,λ_ ps q=>⟨#[],by rw[q];simp⟩⟩
def Un.refl:Un fs ex H H h h:=Un.kept λ_ _ q=>q
theorem Un.laid(k:∀b u,h.get? b=some u→h'.get? b=some u)(hp:h.objs.size≤a)(hn:H a=none):Un fs ex H (upd H a o) h h' where
 keep:=λb u q _ _ _=>k b u q
 slot:=λb u q _ _ _=>⟨u.slots,k b u q⟩
 free:=λb u q n _=>by rw[zaf (Zr (Yh (Qz q) hp))];exact n
 there:=λb u q _=>⟨u,k b u q⟩
 tups:=λb xs q=>by rw[zaf (zab q hn)];exact q
 frzs:=λb u xs q=>by rw[zaf (zab q hn)];exact q
 tbls:=λb ps q=>⟨#[],by rw[zaf (zab q hn),q];simp⟩
def Un.write(mu:Mut (H x))(he:e=x∨H e=some (.own x))(k:∀b u,b≠e→h.get? b=some u→h'.get? b=some u)(ki:∃u,h'.get? e=some u):Un fs ex H (upd H x o) h h':=by
 have hx:∀b,H b=none→b≠x:=λb n z=>by subst z;rw[n]at mu;exact mu
 have hb:∀b,H b=none→b≠e:=λb n z=>by
  subst z
  rcases he with r | r
  ·exact hx b n r
  ·rw[n]at r;cases r
 have hm:∀b u,H b=some u→¬Mut (some u)→b≠x:=λb u q nm z=>by subst z;rw[q]at mu;exact nm mu
 refine⟨λb u q n _ _=>k b u (hb b n) q,λb u q n _ _=>⟨u.slots,k b u (hb b n) q⟩,λb u q n _=>by rw[zaf (hx b n)];exact n,λb u q _=>?_,
  λb xs q=>by rw[zaf (hm b _ q λz=>z)];exact q,λb u xs q=>by rw[zaf (hm b _ q λz=>z)];exact q,λb ps q=>⟨#[],by rw[zaf (hm b _ q λz=>z),q];simp⟩⟩
 by_cases jx:b=e
 ·subst jx;exact ki
 ·exact⟨u,k b u jx q⟩
end
def trk(h:Nn)(H:Hp):List Addr:=(List.range h.objs.size).filter λa=>(H a).isSome
def hidT(h:Nn)(H:Hp):Heap:=PySem.W.hideAll h (trk h H)
def hidT_size(h:Nn)(H:Hp):(hidT h H).objs.size=h.objs.size:=PySem.W.hideAll_size _ _
def hidT_get{h:Nn}{H:Hp}{b:Nc}{o:Obj}(e:h.get? b=some o)(n:H b=none):(hidT h H).get? b=some o :=
 PySem.W.hideAll_get _ e λhm=>by
  have q:(H b).isSome=true:=(Uf.mp hm).2
  rw[n]at q;simp at q
def of_hidT{h:Nn}{H:Hp}{b:Nc}{o:Obj}(e:(hidT h H).get? b=some o):h.get? b=some o∧H b=none:=by
 have e':h.get? b=some o:=PySem.W.of_hideAll (trk h H) e
 refine⟨e',?_⟩
 cases q:H b with
 |none=>rfl
 |some x =>
  have hm:b∈trk h H:=Uf.mpr ⟨Yp.mpr (Qz e'),by simp[q]⟩
  have z:(hidT h H).get? b=none:=PySem.W.hideAll_none (trk h H) hm
  rw[z]at e;cases e
end L2
namespace L2
open PySem PySem.Spec PyProof.Rows
structure Mod(K:Nb)(mg:Nf)(base:Nn):Prop where
 kin:K.In base
 glob:base.Ns mainGlobals mg
 blt:∃mb,base.Ns builtinsNs mb∧∀x:Str,x ≠ "__name__" → mb x=bootBuiltins x
 nolimit:base.NoLimit
structure Cx where
 prog:Program
 w:World
 K:PySem.W.Frag
 mg:Str→Option Value
 base:Heap
 A:Around
 N:List Str
 s₀:Shared
 H₀:Hp
 env:Env
 outer:List Env
 stack:List Env
 ex:List Addr
 fn:Str→Bool
 calm:Bool
 pn:List (Addr×Obj)
 xe:Value→Shared→Prop
def frs(l:List Env):List Addr:=l.filterMap (·.frame)
abbrev Cx.fs(X:Cx):List Addr:=frs X.outer
def Vis(sc:Scope)(x:Str):Prop:=sc.names.lookup x=some .local∨sc.names.lookup x=some .cell∨sc.names.lookup x=some .free
def Loc(sc:Scope)(x:Str):Prop:=sc.names.lookup x=some .local∨sc.names.lookup x=some .cell
def Look(env:Env)(h:Nn)(m:Nf)(x:Str)(u:Value):Prop :=
 (env.kindOf x=some .local∧m x=some u)∨((env.kindOf x=some .cell∨env.kindOf x=some .free)∧∃c,env.cells.lookup x=some c∧h.IsCell c (some u))
structure Cx.Ok(X:Cx):Prop where
 mod:Mod X.K X.mg X.base
 kind:X.env.scope.kind=.function
 glob:X.env.globals=mainGlobals
 blt:X.env.builtins=builtinsNs
 above:X.s₀.heap.objs.size≤X.env.locals
 inj:∀x y c,X.env.cells.lookup x=some c→X.env.cells.lookup y=some c→x=y
 has:∀x,(X.env.kindOf x=some .cell∨X.env.kindOf x=some .free)→∃c,X.env.cells.lookup x=some c
 cab:∀x c,X.fn x=true→X.env.cells.lookup x=some c→X.s₀.heap.objs.size≤c
 hd:X.calm=true→X.A.handled=none
 frames:X.A.frames=some X.stack
 stk:X.stack=X.outer∨(X.stack=X.env::X.outer∧X.env.frame=some X.env.locals)
 exf:∀b∈X.ex,b≠X.env.locals∧∀x c,X.env.cells.lookup x=some c→c≠b
 bs:∀b o,X.base.get? b=some o→X.s₀.heap.get? b=some o∧X.H₀ b=none
 bsz:X.base.objs.size≤X.s₀.heap.objs.size
 noex:∀b o,X.base.get? b=some o→b∉X.ex
 exfs:∀b∈X.ex,b∉X.fs
 funs:X.s₀.heap.FunFrames X.base X.outer
 frf:∀b∈X.fs,X.H₀ b=none
structure Inv(X:Cx)(a6:Nd)(σ:List (Option V))(H:Hp)(s:Ng):Prop where
 ok:X.Ok
 os:s.os=X.s₀.os
 bare:AllBare s.gens
 base:Un X.fs X.ex X.H₀ H X.s₀.heap s.heap
 loc:∃m,s.heap.Ns X.env.locals m∧∀(i:Nat) (x:Str) (v:V),X.N[i]?=some x→σ[i]?=some (some v)→Vis X.env.scope x→∃u,RelV v u∧Look X.env s.heap m x u
 cell:∀x c,X.env.cells.lookup x=some c→∃v,s.heap.IsCell c v
 free:H X.env.locals=none
 freeC:∀x c,X.env.cells.lookup x=some c→H c=none
 pin:∀p∈X.pn++a6,s.heap.get? p.1=some p.2∧H p.1=none∧p.1≠X.env.locals∧p.1∉X.fs∧∀v,p.2.data≠.cell v
 hok:HOk X.prog X.w H s.heap
 len:σ.length=X.N.length
section
variable{X:Cx}{a6:Nd}{σ:List (Option V)}{H H':Hp}{s:Ng}{h':Nn}
def Cx.Ok.nofr(ok:X.Ok){b:Nc}{o:Obj}(e:X.base.get? b=some o):b∉X.fs:=λhb=>by
 have:=(ok.funs.mem hb).1
 rw[e]at this;cases this
def Inv.bs(I:Inv X a6 σ H s):∀b o,X.base.get? b=some o→s.heap.get? b=some o∧H b=none:=λb o e =>
 ⟨I.base.keep b o (I.ok.bs b o e).1 (I.ok.bs b o e).2 (I.ok.nofr e) (I.ok.noex b o e),I.base.free b o (I.ok.bs b o e).1 (I.ok.bs b o e).2 (I.ok.noex b o e)⟩
def Inv.bk(I:Inv X a6 σ H s):∀b o,X.base.get? b=some o→s.heap.get? b=some o:=λb o e=>(I.bs b o e).1
def Inv.mod(I:Inv X a6 σ H s):Mod X.K X.mg X.base:=I.ok.mod
def Inv.kIn(I:Inv X a6 σ H s):X.K.In s.heap:=I.ok.mod.kin.keeps I.bk
def Inv.lt(I:Inv X a6 σ H s):X.env.locals<s.heap.objs.size:=let⟨_,hn,_⟩:=I.loc;hn.lt
def Inv.sz(I:Inv X a6 σ H s):X.s₀.heap.objs.size≤s.heap.objs.size:=Zj I.ok.above (Zt I.lt)
def Inv.nofs(I:Inv X a6 σ H s){a:Nc}(h:s.heap.objs.size≤a):a∉X.fs:=λhb=>by
 obtain⟨_,o,ho,_⟩:=I.ok.funs.mem hb
 exact absurd (Yh (Qz ho) (Zj I.sz h)) (Wh _)
def Inv.cne(I:Inv X a6 σ H s):∀x c,X.env.cells.lookup x=some c→c≠X.env.locals:=λx c e z=>by
 obtain⟨v,o,ho,hd⟩:=I.cell x c e
 obtain⟨m,⟨o',es,ep,aU,gD,_⟩,_⟩:=I.loc
 rw[z,aU]at ho;cases ho;rw[gD]at hd;cases hd
def Inv.funs(I:Inv X a6 σ H s):s.heap.FunFrames X.base X.outer:=by
 have all:∀(l:List Env),(∀b∈frs l,b∈X.fs)→X.s₀.heap.FunFrames X.base l→s.heap.FunFrames X.base l:=by
  intro l
  induction l with
  |nil=>intro _ _;trivial
  |cons env r ih =>
   intro hs hl
   obtain⟨hk,⟨L,o,hf,hn,ho,hd⟩,hr⟩:=hl
   have hL:L∈X.fs:=hs L (by unfold frs;rw[List.filterMap_cons,hf];exact List.mem_cons_self)
   obtain⟨sl,e⟩:=I.base.slot L o ho (I.ok.frf L hL) hL λz=>I.ok.exfs L z hL
   exact⟨hk,⟨L,_,hf,hn,e,hd⟩,ih (λb hb=>hs b (by unfold frs;rw[List.filterMap_cons,hf];exact List.mem_cons_of_mem _ hb)) hr⟩
 exact all X.outer (λ_ hb=>hb) I.ok.funs
def Inv.stack(I:Inv X a6 σ H s):s.heap.FunFrames X.base X.stack:=by
 rcases I.ok.stk with e | ⟨e,hf⟩
 ·rw[e];exact I.funs
 ·rw [e]
  obtain⟨m,hn,_⟩:=I.loc
  refine .cons (by rw[I.ok.kind];decide) hf hn ?_ I.funs
  exact Heap.get?_none_of_le (Zj I.ok.bsz I.ok.above)
def Inv.stkSub(I:Inv X a6 σ H s):∀b∈frs X.stack,b∈X.env.locals::X.fs:=λb hb=>by
 rcases I.ok.stk with e | ⟨e,hf⟩
 ·rw[e]at hb;exact Qg _ hb
 ·rw [e] at hb
  unfold frs at hb
  rw[List.filterMap_cons,hf]at hb
  exact hb
def Inv.stkFree(I:Inv X a6 σ H s):∀b∈frs X.stack,H b=none:=λb hb=>by
 rcases Qh.mp (I.stkSub b hb) with e | hb
 ·rw[e];exact I.free
 ·obtain ⟨_,o,ho,_⟩:=I.ok.funs.mem hb
  exact I.base.free b o ho (I.ok.frf b hb) λz=>I.ok.exfs b z hb
def Inv.step{g':Array GenState}{t':Nat}{d':Drawn}{ch:Nk}(I:Inv X a6 σ H s)(fS:∀b∈ch,(b∈X.ex∨X.s₀.heap.objs.size≤b)∧b≠X.env.locals∧(∀x c,X.env.cells.lookup x=some c→c≠b)∧∀p∈X.pn++a6,p.1≠b)(keep:∀b o,b≠X.env.locals→b∉X.fs→b∉ch→s.heap.get? b=some o→H b=none→h'.get? b=some o)(slot:∀b o,b≠X.env.locals→b∈X.fs→b∉ch→s.heap.get? b=some o→H b=none→∃sl,h'.get? b=some {o with slots:=sl})(free:∀b o,b∉ch→s.heap.get? b=some o→H b=none→H' b=none)(there:∀b o,b∉ch→s.heap.get? b=some o→∃o',h'.get? b=some o')(tups:∀b xs,H b=some (.tup xs)→H' b=some (.tup xs))(frzs:∀b o u,H b=some (.frz o u)→H' b=some (.frz o u))(tbls:∀b ps,H b=some (.tbl ps)→∃more,H' b=some (.tbl (ps++more)))(ns:∀m,s.heap.Ns X.env.locals m→h'.Ns X.env.locals m)(hok:HOk X.prog X.w H' h')(hg:AllBare g') :
  Inv X a6 σ H' {s with heap:=h',gens:=g',drawn:=d',toks:=t'}:=by
 have neL:∀b o,X.s₀.heap.get? b=some o→b≠X.env.locals:=λb o e=>Zr (Yh (Qz e) I.ok.above)
 have neC:∀b o,X.s₀.heap.get? b=some o→b∉X.ex→b∉ch:=λb o e hx hb=>by
  rcases(fS b hb).1 with z | z
  ·exact hx z
  ·exact absurd (Yh (Qz e) z) (Wh _)
 have cellK:∀x c,X.env.cells.lookup x=some c→∀v,s.heap.IsCell c v→h'.IsCell c v:=λx c e v ⟨o,ho,hd⟩=>by
  have nch:c∉ch:=λz=>(fS c z).2.2.1 x c e rfl
  by_cases hc:c∈X.fs
  ·obtain ⟨sl,q⟩:=slot c o (I.cne x c e) hc nch ho (I.freeC x c e)
   exact⟨_,q,hd⟩
  ·exact⟨o,keep c o (I.cne x c e) hc nch ho (I.freeC x c e),hd⟩
 refine⟨I.ok,I.os,hg,⟨λb o e n hb hx=>?_,λb o e n hb hx=>?_,λb o e n hx=>?_,λb o e hx=>?_,λb xs e=>tups b xs (I.base.tups b xs e),λb o xs e=>frzs b o xs (I.base.frzs b o xs e),λb ps e=>?_⟩,?_,λx c e=>?_,?_,λx c e=>?_,λp hp=>?_,hok,I.len⟩
 ·exact keep b o (neL b o e) hb (neC b o e hx) (I.base.keep b o e n hb hx) (I.base.free b o e n hx)
 ·obtain ⟨sl,e1⟩:=I.base.slot b o e n hb hx
  obtain⟨sl',e2⟩:=slot b _ (neL b o e) hb (neC b o e hx) e1 (I.base.free b o e n hx)
  exact⟨sl',e2⟩
 ·obtain ⟨o',e1⟩:=I.base.there b o e hx
  exact free b o' (neC b o e hx) e1 (I.base.free b o e n hx)
 ·obtain ⟨o',e1⟩:=I.base.there b o e hx
  exact there b o' (neC b o e hx) e1
 ·obtain ⟨m1,e1⟩:=I.base.tbls b ps e
  obtain⟨m2,e2⟩:=tbls b _ e1
  exact⟨m1++m2,by rw[e2,Array.append_assoc]⟩
 ·obtain ⟨m,hn,hl⟩:=I.loc
  refine⟨m,ns m hn,λi x v e1 e2 e3=>?_⟩
  obtain⟨u,r,l⟩:=hl i x v e1 e2 e3
  refine⟨u,r,?_⟩
  rcases l with l | ⟨k,c,e,z⟩
  ·exact .inl l
  ·exact .inr ⟨k,c,e,cellK x c e _ z⟩
 ·obtain ⟨v,z⟩:=I.cell x c e
  exact⟨v,cellK x c e v z⟩
 ·obtain ⟨m,⟨o,_,_,ho,_⟩,_⟩:=I.loc
  exact free _ o (λz=>(fS _ z).2.1 rfl) ho I.free
 ·obtain ⟨v,o,ho,hd⟩:=I.cell x c e
  exact free c o (λz=>(fS c z).2.2.1 x c e rfl) ho (I.freeC x c e)
 ·obtain ⟨e,n,ne,nf,d⟩:=I.pin p hp
  have nch:p.1∉ch:=λz=>(fS p.1 z).2.2.2 p hp rfl
  exact⟨keep p.1 p.2 ne nf nch e n,free p.1 p.2 nch e n,ne,nf,d⟩
def Inv.un{t':Nat}(I:Inv X a6 σ H s)(u:Un X.fs [] H H' s.heap h')(hok:HOk X.prog X.w H' h'):Inv X a6 σ H' {s with heap:=h',toks:=t'}:=by
 obtain⟨m,⟨o,es,ep,ho,r⟩,_⟩:=id I.loc
 obtain⟨sl,hL⟩:=u.any ho I.free (by simp)
 exact I.step (g':=s.gens) (d':=s.drawn) (ch:=[]) (λ_ z=>nomatch z) (λb o _ hb _ e n=>u.keep b o e n hb (by simp)) (λb o _ hb _ e n=>u.slot b o e n hb (by simp)) (λb o _ e n=>u.free b o e n (by simp)) (λb o _ e=>u.there b o e (by simp)) u.tups u.frzs u.tbls (λm' hm=>by
  obtain⟨o',cY,ep',aU,r'⟩:=hm
  rw[ho]at aU;cases aU
  exact⟨_,cY,ep',hL,r'⟩) hok I.bare
def Inv.call{g':Array GenState}{t':Nat}{d':Drawn}{ch:Nk}(I:Inv X a6 σ H s)(u:Un (frs X.stack) ch H H' s.heap h')(hok:HOk X.prog X.w H' h')(hg:AllBare g')(fS:∀b∈ch,(b∈X.ex∨X.s₀.heap.objs.size≤b)∧b≠X.env.locals∧(∀x c,X.env.cells.lookup x=some c→c≠b)∧∀p∈X.pn++a6,p.1≠b) :
  Inv X a6 σ H' {s with heap:=h',gens:=g',drawn:=d',toks:=t'}:=by
 obtain⟨m,⟨o,es,ep,ho,r⟩,_⟩:=id I.loc
 obtain⟨sl,hL⟩:=u.any ho I.free λz=>(fS _ z).2.1 rfl
 exact I.step (ch:=ch) fS (λb o hL hb hc e n=>u.keep b o e n (λz=>(Qh.mp (I.stkSub b z)).elim hL hb) hc) (λb o _ _ hc e n=>u.any e n hc) (λb o hc e n=>u.free b o e n hc) (λb o hc e=>u.there b o e hc) u.tups u.frzs u.tbls (λm' hm=>by
  obtain⟨o',cY,ep',aU,r'⟩:=hm
  rw[ho]at aU;cases aU
  exact⟨_,cY,ep',hL,r'⟩) hok hg
def Inv.turned{t':Nat}{it:Nc}(I:Inv X a6 σ H s)(k:∀b o,b≠it→s.heap.get? b=some o→h'.get? b=some o)(hn:H it=none)(hL:it≠X.env.locals)(h1:it∈X.ex∨X.s₀.heap.objs.size≤it)(h2:∀x c,X.env.cells.lookup x=some c→c≠it)(h3:∀p∈X.pn++a6,p.1≠it):Inv X a6 σ H {s with heap:=h',toks:=t'}:=by
 have nit:∀b u,H b=some u→b≠it:=λb u e z=>by rw[z,hn]at e;cases e
 refine I.step (g':=s.gens) (d':=s.drawn) (ch:=[it]) (λb hb=>?_) (λb o _ _ hc e _=>k b o (λz=>hc (by simp[z])) e) (λb o _ _ hc e _=>⟨o.slots,k b o (λz=>hc (by simp[z])) e⟩) (λ_ _ _ _ n=>n)
  (λb o hc e=>⟨o,k b o (λz=>hc (by simp[z])) e⟩) (λ_ _ e=>e) (λ_ _ _ e=>e) (λb ps e=>⟨#[],by rw[e];simp⟩) (λm hm=>?_) (λb u e=>?_) I.bare
 ·have e:b=it:=by simpa using hb
  subst e
  exact⟨h1,hL,h2,h3⟩
 ·obtain ⟨o,es,ep,ho,r⟩:=hm
  exact⟨o,es,ep,k _ o (Zo hL) ho,r⟩
 ·refine (I.hok b u e).stay (fun c v hc q=>k c v ?_ q) (fun _ q=>q) fun _ _ q=>q
  rcases hc with z | z
  ·rw[z];exact nit b u e
  ·exact nit c _ z
def Inv.tok(I:Inv X a6 σ H s)(t:Nat):Inv X a6 σ H {s with toks:=t}:=I.un (h':=s.heap) (t':=t) Un.refl I.hok
def Inv.kept{t':Nat}(I:Inv X a6 σ H s)(k:∀b u,s.heap.get? b=some u→h'.get? b=some u):Inv X a6 σ H {s with heap:=h',toks:=t'}:=I.un (Un.kept k) (I.hok.kept k)
def Inv.laid{a:Nc}{o:HO}{t':Nat}(I:Inv X a6 σ H s)(k:∀b u,s.heap.get? b=some u→h'.get? b=some u)(hp:s.heap.objs.size≤a)(new:zbt X.prog X.w (upd H a o) h' a o) :
  Inv X a6 σ (upd H a o) {s with heap:=h',toks:=t'}:=I.un (Un.laid k hp (I.hok.fresh hp)) (I.hok.laid k hp new)
def Inv.write{x e:Nc}{o:HO}{t':Nat}(I:Inv X a6 σ H s)(mu:Mut (H x))(he:e=x∨H e=some (.own x))(k:∀b u,b≠e→s.heap.get? b=some u→h'.get? b=some u)(ki:∃u,h'.get? e=some u)(new:zbt X.prog X.w (upd H x o) h' x o):Inv X a6 σ (upd H x o) {s with heap:=h',toks:=t'}:=I.un (Un.write mu he k ki) (I.hok.write mu he k ki new)
def Inv.pins_of{pins':Nd}(I:Inv X a6 σ H s)(h:∀p∈pins',s.heap.get? p.1=some p.2∧H p.1=none∧p.1≠X.env.locals∧p.1∉X.fs∧∀v,p.2.data≠.cell v):Inv X pins' σ H s :=
 ⟨I.ok,I.os,I.bare,I.base,I.loc,I.cell,I.free,I.freeC,λp hp=>(Qe.mp hp).elim (λz=>I.pin p (Qr _ z)) (h p),I.hok,I.len⟩
def nodup_ix{N:Ni}(hN:N.Nodup){i j:Nat}{x:Str}(a:N[i]?=some x)(b:N[j]?=some x):i=j:=by
 obtain⟨h1,e1⟩:=Zg.mp a
 obtain⟨h2,e2⟩:=Zg.mp b
 exact(Wq hN).mp (e1.trans e2.symm)
def zgc{M:Model}{A:Nm}{E:Na}{i:Nat}{x:Str}{v:V}{u:Value}{Q:Unit→Shared→Prop}(I:Inv X a6 σ H s)(hN:X.N.Nodup)(hi:X.N[i]?=some x)(hx:Loc X.env.scope x)(r:RelV v u)(h:∀s',Inv X a6 (σ.set i (some v)) H s'→(∃a,Heap.SameBut a s.heap s'.heap∧(a=X.env.locals∨X.env.cells.lookup x=some a))→Q () s')(hf:X.fn x=true∨X.env.scope.names.lookup x=some .local:=by first | exact .inl rfl | exact .inr rfl | assumption):wpAny M A (storeName X.env x u) Q E s:=by
 obtain⟨m,hn,hl⟩:=id I.loc
 have rP:(X.env.scope.kind==.class||(X.env.scope.kind==.module&&X.env.locals != X.env.globals))=false:=by rw[I.ok.kind];rfl
 have hiσ:i<σ.length:=by rw[I.len];exact(Zg.mp hi).1
 have cne:=I.cne
 have tracked:∀{a:Nc} {h':Nn},(∃o,s.heap.get? a=some o∧H a=none)→Heap.SameBut a s.heap h'→HOk X.prog X.w H h':=λ{a h'} ha hs b ob e=>by
  obtain⟨_,_,bj⟩:=ha
  refine(I.hok b ob e).stay (λc w' hc q=>(hs.2 c ?_).trans q) (λ_ q=>q) λ_ _ q=>q
  rintro rfl
  rcases hc with rfl | hc
  ·rw[bj]at e;cases e
  ·rw[bj]at hc;cases hc
 rcases hx with hk | hk
 ·refine wpAny_storeName_local hk hn (fun h' nZ hs=>?_) rP
  obtain⟨oL,_,_,hoL,_⟩:=id hn
  refine h _ ⟨I.ok,I.os,I.bare,⟨λb o e n hb hx=>?_,λb o e n hb hx=>?_,I.base.free,λb o e hx=>?_,I.base.tups,I.base.frzs,I.base.tbls⟩,⟨_,nZ,λj y v' e1 e2 e3=>?_⟩,λy c e=>?_,I.free,I.freeC,λp hp=>?_,tracked ⟨oL,hoL,I.free⟩ hs,by simpa using I.len⟩ ⟨_,hs,.inl rfl⟩
  ·exact(hs.2 b (Zr (Yh (Qz e) I.ok.above))).trans (I.base.keep b o e n hb hx)
  ·obtain ⟨sl,e1⟩:=I.base.slot b o e n hb hx
   exact⟨sl,(hs.2 b (Zr (Yh (Qz e) I.ok.above))).trans e1⟩
  ·obtain ⟨o',e1⟩:=I.base.there b o e hx
   exact⟨o',(hs.2 b (Zr (Yh (Qz e) I.ok.above))).trans e1⟩
  ·by_cases hj:j=i
   ·subst hj
    rw[hi]at e1;cases e1
    rw[List.getElem?_set_self hiσ]at e2
    cases e2
    exact⟨u,r,.inl ⟨hk,by simp⟩⟩
   ·rw [List.getElem?_set_ne (Zo hj)] at e2
    obtain⟨u',r',q⟩:=hl j y v' e1 e2 e3
    refine⟨u',r',?_⟩
    rcases q with⟨k,e⟩ | ⟨k,c,e,z⟩
    ·refine .inl ⟨k,?_⟩
     have:y≠x:=λe=>hj (nodup_ix hN e1 (e▸hi))
     simp[this,e]
    ·exact .inr ⟨k,c,e,z.sameBut hs (cne y c e)⟩
  ·obtain ⟨w',z⟩:=I.cell y c e
   exact⟨w',z.sameBut hs (cne y c e)⟩
  ·obtain ⟨e,n,ne,nf,d⟩:=I.pin p hp
   exact⟨(hs.2 p.1 ne).trans e,n,ne,nf,d⟩
 ·have qX:X.fn x=true:=by
   rcases hf with z | z
   ·exact z
   ·rw[z]at hk;cases hk
  obtain⟨c,hc⟩:=I.ok.has x (.inl hk)
  obtain⟨w',z⟩:=I.cell x c hc
  refine wpAny_storeName_cell I.ok.kind hk hc z (λh' bE hs=>?_)
  obtain⟨oc,hoc,qo⟩:=id z
  refine h {s with heap:=h'} ⟨I.ok,I.os,I.bare,⟨λb o e n hb hx=>?_,λb o e n hb hx=>?_,I.base.free,λb o e hx=>?_,I.base.tups,I.base.frzs,I.base.tbls⟩,⟨m,hn.sameBut hs (Zo (cne x c hc)),λj y v' e1 e2 e3=>?_⟩,λy c' e=>?_,I.free,I.freeC,λp hp=>?_,tracked ⟨oc,hoc,I.freeC x c hc⟩ hs,by simpa using I.len⟩ ⟨c,hs,.inr hc⟩
  ·exact(hs.2 b (Zr (Yh (Qz e) (I.ok.cab x c qX hc)))).trans (I.base.keep b o e n hb hx)
  ·obtain ⟨sl,e1⟩:=I.base.slot b o e n hb hx
   exact⟨sl,(hs.2 b (Zr (Yh (Qz e) (I.ok.cab x c qX hc)))).trans e1⟩
  ·obtain ⟨o',e1⟩:=I.base.there b o e hx
   exact⟨o',(hs.2 b (Zr (Yh (Qz e) (I.ok.cab x c qX hc)))).trans e1⟩
  ·by_cases hj:j=i
   ·subst hj
    rw[hi]at e1;cases e1
    rw[List.getElem?_set_self hiσ]at e2
    cases e2
    exact⟨u,r,.inr ⟨.inl hk,c,hc,bE⟩⟩
   ·rw [List.getElem?_set_ne (Zo hj)] at e2
    obtain⟨u',r',q⟩:=hl j y v' e1 e2 e3
    refine⟨u',r',?_⟩
    rcases q with q | ⟨k,c',e,z'⟩
    ·exact .inl q
    ·refine .inr ⟨k,c',e,z'.sameBut hs ?_⟩
     rintro rfl
     exact hj (nodup_ix hN e1 (I.ok.inj _ _ _ e hc▸hi))
  ·by_cases cV:c'=c
   ·subst cV;exact⟨_,bE⟩
   ·obtain ⟨w2,z2⟩:=I.cell y c' e
    exact⟨w2,z2.sameBut hs cV⟩
  ·obtain ⟨e,n,ne,nf,d⟩:=I.pin p hp
   refine⟨(hs.2 p.1 ?_).trans e,n,ne,nf,d⟩
   intro q
   rw[q,hoc]at e
   have q':oc=p.2:=Qt e
   exact d w' (by rw[←q'];exact qo)
def store_ok{M:Model}{A:Nm}{E:Na}{i:Nat}{x:Str}{v:V}{u:Value}{Q:Unit→Shared→Prop}(I:Inv X a6 σ H s)(hN:X.N.Nodup)(hi:X.N[i]?=some x)(hx:Loc X.env.scope x)(r:RelV v u)(h:∀s',Inv X a6 (σ.set i (some v)) H s'→Q () s')(hf:X.fn x=true∨X.env.scope.names.lookup x=some .local:=by first | exact .inl rfl | exact .inr rfl | assumption):wpAny M A (storeName X.env x u) Q E s :=
 zgc I hN hi hx r (λs' I' _=>h s' I') hf
def Inv.call'{s':Ng}{ch:Nk}(I:Inv X a6 σ H s)(ho:s'.os=s.os)(u:Un (frs X.stack) ch H H' s.heap s'.heap)(hok:HOk X.prog X.w H' s'.heap)(hg:AllBare s'.gens)(fS:∀b∈ch,(b∈X.ex∨X.s₀.heap.objs.size≤b)∧b≠X.env.locals∧(∀x c,X.env.cells.lookup x=some c→c≠b)∧∀p∈X.pn++a6,p.1≠b):Inv X a6 σ H' s':=by
 obtain⟨h',g',d',t',o'⟩:=s'
 have e:o'=s.os:=ho
 subst e
 exact I.call (g':=g') (t':=t') (d':=d') u hok hg fS
end
abbrev XK:=Value→Option Addr→Hp→Prop
abbrev St:=List (Option V)
abbrev VK:=V→Hp→Prop
abbrev TE:=St→Hp→VK→Prop
abbrev TT:=St→Hp→(Bool→Hp→Prop)→Prop
abbrev TA:=St→Hp→(List V→Hp→Prop)→Prop
structure Ends where
 nx:St→Hp→Prop
 rt:VK
 bk:St→Hp→Prop:=λ_ _=>False
 ct:St→Hp→Prop:=λ_ _=>False
abbrev TS:=Ends→St→Hp→Prop
inductive EP(X:Cx)(a6:Nd)(σ:St)(Q:VK)(u:Value)(s':Ng):Prop
 |mk (v:V) (H':Hp) (i:Inv X a6 σ H' s') (r:RelV v u) (q:Q v H'):EP X a6 σ Q u s'
inductive TP(X:Cx)(a6:Nd)(σ:St)(Q:Bool→Hp→Prop)(b:Bool)(s':Ng):Prop
 |mk (H':Hp) (i:Inv X a6 σ H' s') (q:Q b H'):TP X a6 σ Q b s'
inductive AP(X:Cx)(a6:Nd)(σ:St)(Q:List V→Hp→Prop)(us:Nh)(s':Ng):Prop
 |mk (vs:List V) (H':Hp) (i:Inv X a6 σ H' s') (r:Vals vs us) (q:Q vs H'):AP X a6 σ Q us s'
def SP(X:Cx)(a6:Nd)(D:Ends)(f:Flow)(s':Ng):Prop :=
 match f with
 |.next=>Ex2 λ σ' H'=>Aj2 (Inv X a6 σ' H' s') (D.nx σ' H')
 |.brk=>Ex2 λ σ' H'=>Aj2 (Inv X a6 σ' H' s') (D.bk σ' H')
 |.cont=>Ex2 λ σ' H'=>Aj2 (Inv X a6 σ' H' s') (D.ct σ' H')
 |.ret u=>Ex3 λv σ' H'=>Aj3 (Inv X a6 σ' H' s') (RelV v u) (D.rt v H')
def PE(X:Cx)(e:Expr)(t:TE):Prop :=
 ∀(a6:Nd) (s:Ng) (σ:St) (H:Hp) (Q:VK),Inv X a6 σ H s→t σ H Q→wpAny (model X.prog X.w) X.A (eval e X.env) (EP X a6 σ Q) X.xe s
def PT(X:Cx)(e:Expr)(t:TT):Prop :=
 ∀(a6:Nd) (s:Ng) (σ:St) (H:Hp) (Q:Bool→Hp→Prop),Inv X a6 σ H s→t σ H Q→wpAny (model X.prog X.w) X.A (isTrue e X.env (eval e X.env)) (TP X a6 σ Q) X.xe s
def PW(X:Cx)(e:Expr)(t:TT):Prop :=
 ∀(whole:Sem Value) (a6:Nd) (s:Ng) (σ:St) (H:Hp) (Q:Bool→Hp→Prop),Inv X a6 σ H s→t σ H Q→wpAny (model X.prog X.w) X.A (isTrue e X.env whole) (TP X a6 σ Q) X.xe s
def PW.pt{X:Cx}{e:Expr}{t:TT}(h:PW X e t):PT X e t:=h _
def PA(X:Cx)(es:Nq)(t:TA):Prop :=
 ∀(pos:Pos) (a6:Nd) (s:Ng) (σ:St) (H:Hp) (Q:List V→Hp→Prop),Inv X a6 σ H s→t σ H Q→wpAny (model X.prog X.w) X.A (spliced (backTo pos (starEach es X.env))) (AP X a6 σ Q) X.xe s
def PS(X:Cx)(st:Stmt)(t:TS):Prop :=
 ∀(a6:Nd) (s:Ng) (σ:St) (H:Hp) (D:Ends),Inv X a6 σ H s→t D σ H→wpAny (model X.prog X.w) X.A (exec st X.env) (SP X a6 D) X.xe s
def PSs(X:Cx)(st:List Stmt)(t:TS):Prop :=
 ∀(a6:Nd) (s:Ng) (σ:St) (H:Hp) (D:Ends),Inv X a6 σ H s→t D σ H→wpAny (model X.prog X.w) X.A (execs st X.env) (SP X a6 D) X.xe s
def thn{α:Type}{t:Sem α}{Q Q':α→Shared→Prop}{M:Model}{A:Nm}{E:Na}{s:Ng}(h:wpAny M A t Q E s)(hQ:∀a s,Q a s→Q' a s):wpAny M A t Q' E s:=wpAny_mono h hQ λ_ _ x=>x
end L2
namespace L2
open PySem PySem.Spec PyProof.Rows
section
variable{X:Cx}
def bin{a b:Expr}{ta tb:TE}(ha:PE X a ta)(hb:PE X b tb){a6:Nd}{s:Ng}{σ:St}{H:Hp}{R:V→V→Hp→Prop}(I:Inv X a6 σ H s)(h:ta σ H λx H1=>tb σ H1 λy H2=>R x y H2){α:Type}{Q:α→Shared→Prop}{f:Value→Value→Sem α}(hf:∀v u s2 x y H2,Inv X a6 σ H2 s2→RelV x v→RelV y u→R x y H2→wpAny (model X.prog X.w) X.A (f v u) Q X.xe s2) :
  wpAny (model X.prog X.w) X.A (eval a X.env) (λv s₁=>wpAny (model X.prog X.w) X.A (eval b X.env) (λu s₂=>wpAny (model X.prog X.w) X.A (f v u) Q X.xe s₂) X.xe s₁) X.xe s:=by
 refine thn (ha a6 s σ H _ I h) λv s1 ⟨x,H1,I1,r1,q1⟩=>?_
 refine thn (hb a6 s1 σ H1 _ I1 q1) λu s2 ⟨y,H2,I2,r2,q2⟩=>?_
 exact hf v u s2 x y H2 I2 r1 r2 q2
inductive RVar(o:Option (Option V))(H:Hp)(Q:VK):Prop
 |mk (v:V) (e:o=some (some v)) (q:Q v H):RVar o H Q
def tVar(i:Nat):TE:=λ σ H Q=>RVar σ[i]? H Q
def tC(v:V):TE:=λ_ H Q=>Q v H
def pe_var{i:Nat}{x:Str}{pos:Pos}(hN:X.N[i]?=some x)(hv:Vis X.env.scope x)(hd:(x==("__debug__" : Str))=false:=by decide)(aY:(x==("__classdict__" : Str))=false:=by decide):PE X (.Name x pos) (tVar i):=by
 intro a6 s σ H Q I h
 obtain⟨v,e,h⟩:=h
 obtain⟨m,hn,hl⟩:=I.loc
 obtain⟨u,r,l⟩:=hl i x v hN e hv
 have fin:EP X a6 σ Q u s:=⟨v,H,I,r,h⟩
 rcases l with⟨hk,hm⟩ | ⟨hk,c,hc,hZ⟩
 ·exact wpAny_Name (wpAny_loadName_local I.ok.kind hk hn hm fin) hd
 ·rcases hk with hk | hk
  ·exact wpAny_Name (wpAny_loadName_cell I.ok.kind hk hc hZ fin) hd
  ·exact wpAny_Name (wpAny_loadName_free I.ok.kind hk hc hZ fin aY) hd
def zai{i j pos}:PE X (.Constant (.int i) j pos) (tC (.int i)):=λ_ _ _ H _ I h=>wpAny_Constant_int ⟨.int i,H,I.tok _,⟨_,rfl⟩,h⟩
def pe_bl{b j pos}:PE X (.Constant (.bool b) j pos) (tC (.bl b)):=λ_ _ _ H _ I h=>Constant_bool ⟨.bl b,H,I,rfl,h⟩
def zd3{x j pos}:PE X (.Constant (.str x) j pos) (tC (.str x)):=λ_ _ _ H _ I h=>Calls.Constant_str ⟨.str x,H,I.tok _,⟨_,rfl⟩,h⟩
def Gl(X:Cx)(x:Str):Prop:=X.env.kindOf x=some .globalImplicit
def ld_glob{E:Na}{a6:Nd}{s:Ng}{σ:St}{H:Hp}{x:Str}{u:Value}{pos:Pos}{Q:Na}(I:Inv X a6 σ H s)(hg:Gl X x)(hm:X.mg x=some u)(h:Q u s)(hd:(x==("__debug__" : Str))=false:=by decide):wpAny (model X.prog X.w) X.A (eval (.Name x pos) X.env) Q E s :=
 Calls.Name_function_global I.ok.kind hg (Calls.loadGlobal_global (by rw[I.ok.glob];exact I.mod.glob.keeps I.bk) hm h) hd
def ld_blt{E:Na}{a6:Nd}{s:Ng}{σ:St}{H:Hp}{x:Str}{u:Value}{pos:Pos}{Q:Na}(I:Inv X a6 σ H s)(hg:Gl X x)(hm:X.mg x=none)(hv:bootBuiltins x=some u)(h:Q u s)(hn:x ≠ "__name__" := by decide)(hd:(x==("__debug__" : Str))=false:=by decide):wpAny (model X.prog X.w) X.A (eval (.Name x pos) X.env) Q E s:=by
 obtain⟨mb,h1,h2⟩:=I.mod.blt
 exact Calls.Name_function_global I.ok.kind hg (Calls.loadGlobal_builtin (by rw[I.ok.glob];exact I.mod.glob.keeps I.bk) hm (by rw[I.ok.blt];exact h1.keeps I.bk) ((h2 x hn).trans hv) h) hd
def pe_glob{x:Str}{v:V}{u:Value}{pos:Pos}(hg:Gl X x)(hm:X.mg x=some u)(r:RelV v u)(hd:(x==("__debug__" : Str))=false:=by decide):PE X (.Name x pos) (tC v) :=
 λ_ _ _ H _ I h=>ld_glob I hg hm ⟨v,H,I,r,h⟩ hd
variable{a b:Expr}{ta tb:TE}{pos:Pos}
def PC(X:Cx)(op:CmpOp)(a b:Expr)(t:TE):Prop :=
 ∀(a6:Nd) (s:Ng) (σ:St) (H:Hp) (Q:VK),Inv X a6 σ H s→t σ H Q →
  wpAny (model X.prog X.w) X.A (eval a X.env) (λv s₁=>wpAny (model X.prog X.w) X.A (eval b X.env) (λu s₂=>wpAny (model X.prog X.w) X.A (compareOp op v u) (EP X a6 σ Q) X.xe s₂) X.xe s₁) X.xe s
inductive RB(x:V)(H:Hp)(Q:Bool→Hp→Prop):Prop
 |mk (c:Bool) (e:x=.bl c) (q:Q c H):RB x H Q
def tB(t:TE):TT:=λ σ H Q=>t σ H λx H1=>RB x H1 Q
def pt_cmp{op:CmpOp}{t:TE}(h:PC X op a b t)(h1:behindInMarks op b=false:=by first | exact nobehind _ (by decide) (by decide) | rfl):PT X (.Compare a [op] [b] pos) (tB t):=by
 intro a6 s σ H Q I hw
 refine wpAny_isTrue_Compare1 (thn (h a6 s σ H _ I hw) λv s1 h1=>thn h1 λu s2 h2=>thn h2 λc s3 ⟨x,H1,I1,r1,q1⟩=>?_) h1
 obtain⟨d,rfl,q⟩:=q1
 cases r1
 exact wpAny_truthy_bool ⟨H1,I1,q⟩
def zgl{e:Expr}{t:TE}(h:PE X e t)(he:∀whole,isTrue e X.env whole=(do let v ←whole;standAt e.pos;holding [v] (truthy v)):=by intro _;rfl):PT X e (tB t):=by
 intro a6 s σ H Q I hw
 refine isTrue_plain (thn (h a6 s σ H _ I hw) λv s1 ⟨x,H1,I1,r1,q1⟩=>?_) (he _)
 obtain⟨d,rfl,q⟩:=q1
 cases r1
 exact wpAny_truthy_bool ⟨H1,I1,q⟩
variable{tA n8:TT}{rest:Nq}
def tAnd(t u:TT):TT:=λ σ H Q=>t σ H λc H1=>if c=true then u σ H1 Q else Q false H1
def tOr(t u:TT):TT:=λ σ H Q=>t σ H λc H1=>if c=true then Q true H1 else u σ H1 Q
def tNot(t:TT):TT:=λ σ H Q=>t σ H λc H1=>Q (!c) H1
def pw_and1(ha:PT X a tA):PW X (.BoolOp .And [a] pos) tA:=by
 intro wh a6 s σ H Q I h
 refine isTrue_and (thn (ha a6 s σ H Q I h) λc s1 e=>?_)
 cases c with
 |true=>exact isTrue_and_nil e
 |false=>exact e
def pw_or1(ha:PT X a tA):PW X (.BoolOp .Or [a] pos) tA:=by
 intro wh a6 s σ H Q I h
 refine isTrue_or (thn (ha a6 s σ H Q I h) λc s1 e=>?_)
 cases c with
 |false=>exact isTrue_or_nil e
 |true=>exact e
def pw_and(ha:PT X a tA)(hb:PW X (.BoolOp .And (b::rest) pos) n8):PW X (.BoolOp .And (a::b::rest) pos) (tAnd tA n8):=by
 intro wh a6 s σ H Q I h
 refine isTrue_and (thn (ha a6 s σ H _ I h) λc s1 ⟨H1,I1,q1⟩=>?_)
 cases c with
 |true=>exact hb wh a6 s1 σ H1 Q I1 q1
 |false=>exact⟨H1,I1,q1⟩
def pw_or(ha:PT X a tA)(hb:PW X (.BoolOp .Or (b::rest) pos) n8):PW X (.BoolOp .Or (a::b::rest) pos) (tOr tA n8):=by
 intro wh a6 s σ H Q I h
 refine isTrue_or (thn (ha a6 s σ H _ I h) λc s1 ⟨H1,I1,q1⟩=>?_)
 cases c with
 |true=>exact⟨H1,I1,q1⟩
 |false=>exact hb wh a6 s1 σ H1 Q I1 q1
def zfu(ha:PT X a tA):PT X (.UnaryOp .Not a pos) (tNot tA):=by
 intro a6 s σ H Q I h
 exact isTrue_not (wpAny_mono (ha a6 s σ H (λc H1=>Q (!c) H1) I h) (λc s2 z=>by obtain⟨a,b,d⟩:=z;exact⟨a,b,d⟩) λ_ _ e=>e)
def tAndV(ta tb:TE):TE:=λ σ H Q=>ta σ H λx H1=>RB x H1 λc H1=>if c=true then tb σ H1 Q else Q (.bl false) H1
def pe_one{op}{t:TE}(h:PE X a t):PE X (.BoolOp op [a] pos) t:=λa6 s σ H Q I hw=>BoolOp_one (h a6 s σ H Q I hw)
def pe_and(ha:PE X a ta)(hb:PE X (.BoolOp .And (b::rest) pos) tb):PE X (.BoolOp .And (a::b::rest) pos) (tAndV ta tb):=by
 intro a6 s σ H Q I h
 refine BoolOp_and (thn (ha a6 s σ H _ I h) λv s1 ⟨x,H1,I1,r1,q1⟩=>?_)
 obtain⟨c,rfl,q1⟩:=q1
 cases r1
 refine wpAny_truthy_bool ?_
 cases c with
 |true=>exact hb a6 s1 σ H1 Q I1 q1
 |false=>exact⟨.bl false,H1,I1,rfl,q1⟩
def tIf(t:TT)(ta tb:TE):TE:=λ σ H Q=>t σ H λc H1=>if c=true then ta σ H1 Q else tb σ H1 Q
def pe_ifExp{c:Expr}(hc:PT X c tA)(ha:PE X a ta)(hb:PE X b tb):PE X (.IfExp c a b pos) (tIf tA ta tb):=by
 intro a6 s σ H Q I h
 refine wpAny_IfExp (thn (hc a6 s σ H _ I h) λd s1 ⟨H1,I1,q1⟩=>?_)
 cases d with
 |true=>exact ha a6 s1 σ H1 Q I1 q1
 |false=>exact hb a6 s1 σ H1 Q I1 q1
end
end L2
namespace L2
open PySem PySem.Spec PyProof.Rows
def SqL(K:Nb)(H:Hp)(a:Nc)(xs:List V):Prop :=
 Rd H a (.lst xs) ∨
  ∃(o:Obj) (a8:Array Value) (n:Nat),K.lookup a=some o∧o.cls=.type "list" ∧ o.dict=none∧o.data=.seq a8 n∧a8.size≤sizeLine∧Vals xs a8.toList
def SqT(K:Nb)(H:Hp)(a:Nc)(xs:List V):Prop :=
 Rd H a (.tup xs) ∨
  ∃(o:Obj) (a8:Array Value) (n:Nat),K.lookup a=some o∧o.cls=.type "tuple" ∧ o.data=.seq a8 n∧a8.size≤sizeLine∧Vals xs a8.toList
def absV:Value→Option V
 |.none=>some .non
 |.bool b=>some (.bl b)
 |.int i _=>some (.int i)
 |.str x _=>some (.str x)
 |.bytes b _=>some (.byt b)
 |.float b _=>some (.flt b)
 |.ref a=>some (.ref a)
 |.type n=>some (.ty n)
 |_=>none
def RelV.abs{x:V}{u:Value}(r:RelV x u):absV u=some x:=by
 cases x with
 |non=>cases r;rfl
 |bl _=>cases r;rfl
 |int _=>obtain⟨t,rfl⟩:=r;rfl
 |str _=>obtain⟨t,rfl⟩:=r;rfl
 |byt _=>obtain⟨t,rfl⟩:=r;rfl
 |flt _=>obtain⟨t,rfl⟩:=r;rfl
 |ref _=>cases r;rfl
 |ty _=>cases r;rfl
def RelV.inj{x y:V}{u:Value}(r:RelV x u)(q:RelV y u):x=y:=Qt (r.abs.symm.trans q.abs)
theorem Vals.inj:∀{xs ys:List V} {us:Nh},Vals xs us→Vals ys us→xs=ys
 |_,_,_,.nil,.nil=>rfl
 |_,_,_,.cons r t,.cons r' t'=>by rw[r.inj r',Vals.inj t t']
section
variable{X:Cx}{a6:Nd}{σ:St}{H:Hp}{s:Ng}{a:Nc}{xs ys:List V}
def SqL.of{K:Nb}(h:H a=some (.lst xs)):SqL K H a xs:=.inl (.inl h)
def SqT.of{K:Nb}(h:H a=some (.tup xs)):SqT K H a xs:=.inl (.inl h)
def Inv.list(I:Inv X a6 σ H s)(h:SqL X.K H a xs):∃a8:List Value,Vals xs a8∧PlainL s.heap a a8.toArray∧xs.length≤sizeLine:=by
 rcases h with h | ⟨o,a8,n,hk,hc,hd,hs,hz,r⟩
 ·obtain ⟨z,a8,n,r,e⟩:=h.ok I.hok
  exact⟨a8,r,⟨_,n,e,rfl,rfl,rfl⟩,z⟩
 ·refine ⟨a8.toList,r,⟨o,n,I.kIn a o hk,hc,hd,by simpa using hs⟩,?_⟩
  have e:=r.length
  simp only[Ym]at e
  lia
def Inv.tuple(I:Inv X a6 σ H s)(h:SqT X.K H a xs):∃a8:List Value,Vals xs a8∧IsTup s.heap a a8.toArray∧xs.length≤sizeLine:=by
 rcases h with h | ⟨o,a8,n,hk,hc,hs,hz,r⟩
 ·obtain ⟨z,a8,r,p⟩:=h.ok I.hok
  exact⟨a8,r,p,z⟩
 ·refine ⟨a8.toList,r,⟨o,I.kIn a o hk,hc,n,by simpa using hs⟩,?_⟩
  have e:=r.length
  simp only[Ym]at e
  lia
def Inv.list_inj(I:Inv X a6 σ H s)(h:SqL X.K H a xs)(h':SqL X.K H a ys):xs=ys:=by
 obtain⟨a8,r,⟨o,n,e,_,_,d⟩,_⟩:=I.list h
 obtain⟨its',r',⟨o',n',e',_,_,d'⟩,_⟩:=I.list h'
 rw[e]at e';cases e'
 rw[d]at d'
 injection d' with d1 _
 have:a8=its':=by simpa using congrArg Array.toList d1
 subst this
 exact r.inj r'
def Inv.tuple_inj(I:Inv X a6 σ H s)(h:SqT X.K H a xs)(h':SqT X.K H a ys):xs=ys:=by
 obtain⟨a8,r,⟨o,e,_,n,d⟩,_⟩:=I.tuple h
 obtain⟨its',r',⟨o',e',_,n',d'⟩,_⟩:=I.tuple h'
 rw[e]at e';cases e'
 rw[d]at d'
 injection d' with d1 _
 have:a8=its':=by simpa using congrArg Array.toList d1
 subst this
 exact r.inj r'
end
abbrev Cx.wish(X:Cx)(E:Na):Cx:={X with xe:=E}
abbrev Cx.nox(X:Cx):Cx:=X.wish λ_ _=>False
def Cx.Ok.wish{X:Cx}(ok:X.Ok)(E:Na):(X.wish E).Ok :=
 ⟨ok.mod,ok.kind,ok.glob,ok.blt,ok.above,ok.inj,ok.has,ok.cab,ok.hd,ok.frames,ok.stk,ok.exf,ok.bs,ok.bsz,ok.noex,ok.exfs,ok.funs,ok.frf⟩
def Cx.Ok.unwish{X:Cx}{E:Na}(ok:(X.wish E).Ok):X.Ok :=
 ⟨ok.mod,ok.kind,ok.glob,ok.blt,ok.above,ok.inj,ok.has,ok.cab,ok.hd,ok.frames,ok.stk,ok.exf,ok.bs,ok.bsz,ok.noex,ok.exfs,ok.funs,ok.frf⟩
section
variable{X:Cx}{a6:Nd}{σ:St}{H:Hp}{s:Ng}{E:Na}
def Inv.wish(I:Inv X a6 σ H s)(E:Na):Inv (X.wish E) a6 σ H s:=⟨I.ok.wish E,I.os,I.bare,I.base,I.loc,I.cell,I.free,I.freeC,I.pin,I.hok,I.len⟩
def Inv.unwish(I:Inv (X.wish E) a6 σ H s):Inv X a6 σ H s:=⟨I.ok.unwish,I.os,I.bare,I.base,I.loc,I.cell,I.free,I.freeC,I.pin,I.hok,I.len⟩
def SP.unwish{D:Ends}{f:Flow}{s':Ng}(h:SP (X.wish E) a6 D f s'):SP X a6 D f s':=by
 cases f with
 |next=>obtain⟨σ',H',I,q⟩:=h;exact⟨σ',H',I.unwish,q⟩
 |brk=>obtain⟨σ',H',I,q⟩:=h;exact⟨σ',H',I.unwish,q⟩
 |cont=>obtain⟨σ',H',I,q⟩:=h;exact⟨σ',H',I.unwish,q⟩
 |ret u=>obtain⟨v,σ',H',I,r,q⟩:=h;exact⟨v,σ',H',I.unwish,r,q⟩
def PSs.nox{st:List Stmt}{t:TS}(h:PSs X.nox st t):PSs X st t:=λa6 s σ H D I hw =>
 wpAny_mono (h a6 s σ H D (I.wish _) hw) (λ_ _ q=>q.unwish) λ_ _ z=>False.elim z
end
section
variable{X:Cx}{st:Stmt}{rest:List Stmt}{t u:TS}{e:Expr}{te:TE}{pos:Pos}
def tNext:TS:=λD σ H=>D.nx σ H
def tSeq(t u:TS):TS:=λD σ H=>t {D with nx:=u D} σ H
def zbk:PSs X [] tNext:=λ_ _ σ H _ I h=>wpAny_execs_nil ⟨σ,H,I,h⟩
def zae(h1:PS X st t)(h2:PSs X rest u):PSs X (st::rest) (tSeq t u):=by
 intro a6 s σ H D I h
 refine wpAny_execs_cons (thn (h1 a6 s σ H {D with nx:=u D} I h) λf s1 q=>?_)
 cases f with
 |next =>
  obtain⟨σ',H',I',q⟩:=q
  exact h2 a6 s1 σ' H' D I' q
 |ret v=>exact q
 |brk=>exact q
 |cont=>exact q
def zah(h1:PS X st t):PSs X [st] t:=by
 intro a6 s σ H D I h
 refine wpAny_execs_cons (thn (h1 a6 s σ H D I h) λf s1 q=>?_)
 cases f with
 |next=>exact wpAny_execs_nil q
 |ret v=>exact q
 |brk=>exact q
 |cont=>exact q
def Inv.quiet{a6:Nd}{σ:St}{H:Hp}{s:Ng}(I:Inv X a6 σ H s):interactive X.env=false:=by simp[interactive,I.ok.kind]
def tDrop(te:TE):TS:=λD σ H=>te σ H λ_ H1=>D.nx σ H1
def zay(he:PE X e te)(hs:swapsWith e none pos.line X.env=pure false:=by rfl):PS X (.Expr e pos) (tDrop te):=by
 intro a6 s σ H D I h
 exact wpAny_Expr_any (thn (he a6 s σ H _ I h) λv s1 ⟨x,H1,I1,r1,q1⟩=>⟨σ,H1,I1,q1⟩) I.quiet hs
def tRet(te:TE):TS:=λD σ H=>te σ H D.rt
def zbh(he:PE X e te):PS X (.Return (some e) pos) (tRet te):=by
 intro a6 s σ H D I h
 exact wpAny_Return_some (thn (he a6 s σ H _ I h) λv s1 ⟨x,H1,I1,r1,q1⟩=>⟨x,σ,H1,I1,r1,q1⟩)
def tRetN:TS:=λD _ H=>D.rt .non H
def ps_retN:PS X (.Return none pos) tRetN:=λ_ _ σ H _ I h=>wpAny_Return_none ⟨.non,σ,H,I,rfl,h⟩
def tIfS(c:TT)(t u:TS):TS:=λD σ H=>c σ H λb H1=>if b=true then t D σ H1 else u D σ H1
def zc2{c:Expr}{a b:List Stmt}{tc:TT}(hc:PT X c tc)(ha:PSs X a t)(hb:PSs X b u):PS X (.If c a b pos) (tIfS tc t u):=by
 intro a6 s σ H D I h
 refine wpAny_If (thn (hc a6 s σ H _ I h) λd s1 ⟨H1,I1,q1⟩=>?_)
 cases d with
 |true=>exact ha a6 s1 σ H1 D I1 q1
 |false=>exact hb a6 s1 σ H1 D I1 q1
end
abbrev TG:=V→St→Hp→(St→Hp→Prop)→Prop
abbrev TGs:=List V→St→Hp→(St→Hp→Prop)→Prop
def PG(X:Cx)(target:Expr)(t:TG):Prop :=
 ∀(a6:Nd) (s:Ng) (σ:St) (H:Hp) (v:V) (u:Value) (Q:St→Hp→Prop),Inv X a6 σ H s→RelV v u→t v σ H Q →
  wpAny (model X.prog X.w) X.A (assign target X.env u) (λ_ s'=>Ex2 λ σ' H'=>Aj2 (Inv X a6 σ' H' s') (Q σ' H')) X.xe s
def PGs(X:Cx)(ts:Nq)(t:TGs):Prop :=
 ∀(a6:Nd) (s:Ng) (σ:St) (H:Hp) (vs:List V) (us:Nh) (Q:St→Hp→Prop),Inv X a6 σ H s→Vals vs us→t vs σ H Q →
  wpAny (model X.prog X.w) X.A (assignInOrder ((assignEach ts X.env).map (·.2)) us) (λ_ s'=>Ex2 λ σ' H'=>Aj2 (Inv X a6 σ' H' s') (Q σ' H')) X.xe s
abbrev TSet:=V→V→V→Hp→(Hp→Prop)→Prop
def PSet(X:Cx)(t:TSet):Prop :=
 ∀(a6:Nd) (s:Ng) (σ:St) (H:Hp) (o i v:V) (ov iv u:Value) (Q:Hp→Prop),Inv X a6 σ H s→RelV o ov→RelV i iv→RelV v u→t o i v H Q →
  wpAny (model X.prog X.w) X.A (setItem ov iv u) (λ_ s'=>∃H',Inv X a6 σ H' s'∧Q H') X.xe s
section
variable{X:Cx}{pos:Pos}
def gName(i:Nat):TG:=λv σ H Q=>Q (σ.set i (some v)) H
def pg_name{i:Nat}{x:Str}(hN:X.N.Nodup)(hi:X.N[i]?=some x)(hx:Loc X.env.scope x)(hf:X.fn x=true∨X.env.scope.names.lookup x=some .local:=by first | exact .inl rfl | exact .inr rfl | assumption):PG X (.Name x pos) (gName i):=by
 intro a6 s σ H v u Q I r h
 exact wpAny_assign_Name (store_ok I hN hi hx r (λs' I'=>⟨_,H,I',h⟩) hf)
def gNil:TGs:=λvs σ H Q=>vs=[]∧Q σ H
inductive RGC(vs:List V)(R:V→List V→Prop):Prop
 |mk (v:V) (r:List V) (e:vs=v::r) (q:R v r):RGC vs R
def gCons(t:TG)(u:TGs):TGs:=λvs σ H Q=>RGC vs λv r=>t v σ H λ σ' H'=>u r σ' H' Q
def zdf:PGs X [] gNil:=by
 intro a6 s σ H vs us Q I r h
 obtain⟨e,h⟩:=h
 subst e
 cases r
 exact assignInOrder_nil ⟨σ,H,I,h⟩
def zbb{e:Expr}{es:Nq}{t:TG}{u:TGs}(h1:PG X e t)(h2:PGs X es u)(hs:(assignEach (e::es) X.env).map (·.2)=assign e X.env::(assignEach es X.env).map (·.2):=by rfl):PGs X (e::es) (gCons t u):=by
 intro a6 s σ H vs us Q I r h
 obtain⟨v,vr,e1,h⟩:=h
 subst e1
 cases r with
 |cons r rr =>
  rw[hs]
  refine assignInOrder_cons (thn (h1 a6 s σ H _ _ _ I r h) λ_ s1 ⟨σ1,H1,I1,q1⟩=>?_)
  exact h2 a6 s1 σ1 H1 _ _ Q I1 rr q1
inductive RGT(K:Nb)(n:Nat)(v:V)(H:Hp)(R:List V→Prop):Prop
 |mk (a:Nc) (xs:List V) (e:v=.ref a) (s:SqT K H a xs) (l:xs.length=n) (q:R xs):RGT K n v H R
def gTup(K:Nb)(n:Nat)(t:TGs):TG:=λv σ H Q=>RGT K n v H λxs=>t xs σ H Q
def zhp{es:Nq}{k:Nat}{t:TGs}{n:Nat}(hc:X.calm=true)(h:PGs X es t)(hn:(assignEach es X.env).length=n:=by rfl)(aO:(assignEach es X.env).findIdx? (·.1)=none:=by rfl):PG X (.Tuple es k pos) (gTup X.K n t):=by
 intro a6 s σ H v u Q I r hw
 obtain⟨a,xs,e1,hq,hl,hw⟩:=hw
 subst e1
 cases r
 obtain⟨a8,rv,ht,hz⟩:=I.tuple hq
 refine assign_Tuple_tuple (I.ok.hd hc) ht (by simp[hn,←hl,rv.length]) aO λh' hx=>?_
 have I1:Inv X a6 σ H {s with heap:=h'}:=I.kept (t':=s.toks) λb o e=>hx b o (Zr (Qz e)) e
 exact h a6 _ σ H xs _ Q I1 (by simpa using rv) hw
def gSub(to ti:TE)(t:TSet):TG:=λv σ H Q=>to σ H λo H1=>ti σ H1 λi H2=>t o i v H2 λH3=>Q σ H3
def pg_sub{o i:Expr}{to ti:TE}{t:TSet}(ho:PE X o to)(hi:PE X i ti)(hs:PSet X t)(ha:∀ v,assign (.Subscript o i pos) X.env v=(do
   let ov ←holding [v] (eval o X.env)
   let iv ←holding [v,ov] (eval i X.env)
   standAt pos
   holding [v,ov,iv] (setItem ov iv v)
   release [v,ov,iv] []):=by intro _;rfl):PG X (.Subscript o i pos) (gSub to ti t):=by
 intro a6 s σ H v u Q I r h
 rw[ha]
 refine wpAny_bind (wpAny_holding (thn (ho a6 s σ H _ I h) λov s1 ⟨x,H1,I1,r1,q1⟩=>?_))
 refine wpAny_bind (wpAny_holding (thn (hi a6 s1 σ H1 _ I1 q1) λiv s2 ⟨y,H2,I2,r2,q2⟩=>?_))
 refine wpAny_bind (wpAny_standAt (wpAny_bind (wpAny_holding (thn (hs a6 s2 σ H2 x y v ov iv u _ I2 r1 r2 r q2) λ_ s3 ⟨H3,I3,q3⟩=>?_))))
 exact wpAny_release ⟨σ,H3,I3,q3⟩
def tAsg(te:TE)(g:TG):TS:=λD σ H=>te σ H λx H1=>g x σ H1 D.nx
def ps_asg{tg e:Expr}{te:TE}{g:TG}(he:PE X e te)(hg:PG X tg g)(hs:swapsWithSole [tg] e pos.line X.env=pure false:=by rfl)(hw:swappedStores [tg] e X.env=pure none:=by rfl)(h1:(assignEach [tg] X.env).map (·.2)=[assign tg X.env]:=by rfl):PS X (.Assign [tg] e pos) (tAsg te g):=by
 intro a6 s σ H D I h
 refine wpAny_Assign_stores (thn (he a6 s σ H _ I h) λv s1 ⟨x,H1,I1,r1,q1⟩=>?_) hs hw
 rw[h1]
 exact thn (hg a6 s1 σ H1 x v _ I1 r1 q1) λ_ s2 q=>q
def ps_set{i:Nat}{x:Str}{e:Expr}{te:TE}{bh:Pos}(hN:X.N.Nodup)(hi:X.N[i]?=some x)(hx:Loc X.env.scope x)(he:PE X e te)(hs:swapsWith e (some (.Name x bh)) pos.line X.env=pure false:=by rfl)(hf:X.fn x=true∨X.env.scope.names.lookup x=some .local:=by first | exact .inl rfl | exact .inr rfl | assumption) :
  PS X (.Assign [.Name x bh] e pos) (tAsg te (gName i)):=by
 intro a6 s σ H D I h
 refine wpAny_Assign_Name (thn (he a6 s σ H _ I h) λv s1 ⟨y,H1,I1,r1,q1⟩=>?_) hs
 exact store_ok I1 hN hi hx r1 (λs2 I2=>⟨_,H1,I2,q1⟩) hf
end
section
variable{X:Cx}{pos:Pos}
def tWhile(c:TT)(tb:TS):TS:=λD σ H=>∃W:Nat→St→Hp→Prop,(∃m,W m σ H)∧∀m σ H,W m σ H →
 c σ H λb H1=>if b=true then ∃N:St→Hp→Prop,(∀σ' H',N σ' H'→∃m',m'<m∧W m' σ' H')∧tb {D with nx:=N,ct:=N,bk:=D.nx} σ H1 else D.nx σ H1
def zdy{c:Expr}{body:List Stmt}{tc:TT}{tb:TS}(hp:PassesOwn (model X.prog X.w) X.A X.env X.xe)(hc:PT X c tc)(hb:PSs X body tb):PS X (.While c body [] pos) (tWhile tc tb):=by
 intro a6 s σ H D I h
 obtain⟨W,⟨m0,w0⟩,turn⟩:=h
 refine wpAny_While (codeAny_whileLoop (λn s'=>∃σ' H',Inv X a6 σ' H' s'∧W n σ' H') ?_ m0 ⟨σ,H,I,w0⟩)
 rintro n s1 ⟨σ1,H1,I1,w1⟩
 refine wpAny_passesOwn hp (thn (hc a6 s1 σ1 H1 _ I1 (turn n σ1 H1 w1)) λb s2 ⟨H2,I2,q2⟩=>?_)
 cases b with
 | true =>
  obtain⟨N,hN,q2⟩:=q2
  rw[if_pos rfl]
  refine wpAny_passesOwn hp (thn (hb a6 s2 σ1 H2 _ I2 q2) λf s3 q3=>?_)
  cases f with
  |next =>
   obtain⟨σ3,H3,I3,n3⟩:=q3
   obtain⟨m',hm,w3⟩:=hN σ3 H3 n3
   exact⟨m',hm,σ3,H3,I3,w3⟩
  |cont =>
   obtain⟨σ3,H3,I3,n3⟩:=q3
   obtain⟨m',hm,w3⟩:=hN σ3 H3 n3
   exact⟨m',hm,σ3,H3,I3,w3⟩
  |brk=>exact q3
  |ret v=>exact q3
 |false =>
  rw[if_neg Zh]
  exact wpAny_execs_nil ⟨σ1,H2,I2,q2⟩
end
structure It where
 go:Nat→Hp→Prop
 yld:Nat→Hp→V→Hp→Prop
 stop:Nat→Hp→Prop
def FpOk(X:Cx)(a6:Nd)(H:Hp)(b:Nc):Prop :=
 H b=none∧b≠X.env.locals∧b∉X.fs∧(b∈X.ex∨X.s₀.heap.objs.size≤b)∧(∀x c,X.env.cells.lookup x=some c→c≠b)∧∀p∈X.pn++a6,p.1≠b
def Inv.fpOk{X:Cx}{a6:Nd}{σ:St}{H H':Hp}{s:Ng}{b:Nc}(I:Inv X a6 σ H s)(hb:s.heap.objs.size≤b)(hn:H' b=none):FpOk X a6 H' b:=by
 refine⟨hn,Wk (Yh I.lt hb),I.nofs hb,.inr (Zj I.sz hb),λx c e z=>?_,λp hp z=>?_⟩
 ·obtain ⟨v,q⟩:=I.cell x c e
  exact absurd (Yh q.lt (by rw[z];exact hb)) (Wh _)
 ·exact absurd (Yh (Qz (I.pin p hp).1) (by rw[z];exact hb)) (Wh _)
structure Turn(P:Nj)(w:Nl)(K:Nb)(tg:Expr)(J:It)(fp:Nk)(it:Nc)(tn:Nat→Heap→Prop):Prop where
 mem:it∈fp
 obj:∀i h,tn i h→∀b∈fp,∃o,h.get? b=some o∧∀v,o.data≠.cell v
 keep:∀i h h',tn i h→(∀b∈fp,∀o,h.get? b=some o→h'.get? b=some o)→tn i h'
 item:∀(X:Cx),X.prog=P→X.w=w→X.K=K→X.calm=true→∀(i:Nat) (a6:Nd) (s:Ng) (σ:St) (H:Hp) (E:Na),Inv X a6 σ H s→(∀b∈fp,FpOk X a6 H b)→tn i s.heap→J.go i H →
  wpAny (model P w) X.A (pyNext (.ref it)) (λr s1=>∃u,r=some u ∧
   wpAny (model P w) X.A (letOwnedTupleGo tg (.ref it) u) (λ_ s2=>∃x H',Inv X a6 σ H' s2∧RelV x u∧J.yld i H x H'∧tn (i+1) s2.heap∧∀b∈fp,H' b=none) E s1) E s
 done:∀(X:Cx),X.prog=P→X.w=w→X.K=K→X.calm=true→∀(i:Nat) (a6:Nd) (s:Ng) (σ:St) (H:Hp) (E:Na),Inv X a6 σ H s→(∀b∈fp,FpOk X a6 H b)→tn i s.heap→J.stop i H →
  wpAny (model P w) X.A (pyNext (.ref it)) (λr s1=>r=none∧Inv X a6 σ H s1) E s
 self:∀(A:Nm) (i:Nat) (s:Ng) (Q:Na) (E:Na),tn i s.heap→Q (.ref it) s→wpAny (model P w) A (pyIter (.ref it)) Q E s
abbrev TI:=St→Hp→(It→Hp→Prop)→Prop
inductive PIE(X:Cx)(a6:Nd)(σ:St)(tg:Expr)(R:It→Hp→Prop)(itv:Value)(s2:Ng):Prop
 |mk (it:Nc) (fp:Nk) (tn:Nat→Heap→Prop) (J:It) (H':Hp) (h0:itv=.ref it) (h1:Inv X a6 σ H' s2) (h2:Turn X.prog X.w X.K tg J fp it tn) (h3:tn 0 s2.heap) (h4:(∀b∈fp,FpOk X a6 H' b)) (h5:R J H'):PIE X a6 σ tg R itv s2
def PI(X:Cx)(tg iter:Expr)(wi:TI):Prop :=
 ∀(a6:Nd) (s:Ng) (σ:St) (H:Hp) (R:It→Hp→Prop),Inv X a6 σ H s→wi σ H R →
  wpAny (model X.prog X.w) X.A (eval iter X.env) (λv s1=>wpAny (model X.prog X.w) X.A (pyIter v) (PIE X a6 σ tg R) X.xe s1) X.xe s
def go_of{M:Model}{A:Nm}{E:Na}{s:Ng}{tg:Expr}{it:Nc}{u:Value}{o:Obj}{n:String}{vs:Array Value}{Q:Unit→Shared→Prop}(ho:s.heap.get? it=some o)(hc:o.cls=.type n)(hd:o.data=.fields vs)(hn:["enumerate", "zip", "dict_itemiterator", "dict_reverseitemiterator", "odict_iterator", "itertools.zip_longest", "itertools.pairwise"].contains n=false)(hQ:Q () s):wpAny M A (letOwnedTupleGo tg (.ref it) u) Q E s:=by
 unfold letOwnedTupleGo
 cases tg <;> first
  |exact wpAny_pure hQ
  | (cases u <;> first
    |exact wpAny_pure hQ
    | (refine wpAny_bind (wpAny_load ho ?_)
       rw[hc,hd]
       show wpAny M A (if(["enumerate", "zip", "dict_itemiterator", "dict_reverseitemiterator", "odict_iterator", "itertools.zip_longest", "itertools.pairwise"].contains n&&vs[0]?==some (rawInt _))=true then _ else _) Q E s
       rw[if_neg (by intro h;rw[hn,Bool.false_and]at h;cases h)]
       exact wpAny_pure hQ))
def Itl(K:Nb)(a:Nc):It :=
 ⟨λi H=>∃xs x,SqL K H a xs∧xs[i]?=some x,λi H x H'=>H'=H∧∀xs,SqL K H a xs→xs[i]?=some x,λi H=>∃xs,SqL K H a xs∧xs.length≤i⟩
def Itt(K:Nb)(a:Nc):It :=
 ⟨λi H=>∃xs x,SqT K H a xs∧xs[i]?=some x,λi H x H'=>H'=H∧∀xs,SqT K H a xs→xs[i]?=some x,λi H=>∃xs,SqT K H a xs∧xs.length≤i⟩
def Itr(lo:Int)(n:Nat):It:=⟨λi _=>i<n,λi H x H'=>H'=H∧x=.int (lo+i),λi _=>n≤i⟩
theorem turn_list{P:Nj}{w:Nl}{K:Nb}{tg:Expr}(a it:Nc):Turn P w K tg (Itl K a) [it] it (λi h=>h.IsListIter it a i) where
 mem:=by simp
 obj:=λi h st b hb=>by
  have e:b=it:=by simpa using hb
  subst e
  obtain⟨o,e,c,d⟩:=st
  exact⟨o,e,λv z=>by rw[d]at z;cases z⟩
 keep:=λi h h' st k=>st.at λo e=>k it (by simp) o e
 item:=by
  intro X hP hw hK hc i a6 s σ H E I hf st hg
  subst hP hw hK
  obtain⟨xs,x,hq,hx⟩:=hg
  obtain⟨a8,rv,p,hz⟩:=I.list hq
  obtain⟨u,hu,ru⟩:=rv.get hx
  obtain⟨f0,f1,f2,f3,f4,f5⟩:=hf it (by simp)
  refine wpAny_pyNext_list_item st p.isList (x:=u) (by simpa using hu) λh' a7 sb=>?_
  have I1:Inv X a6 σ H {s with heap:=h'}:=I.turned (t':=s.toks) (λb o hb e=>(sb.2 b hb).trans e) f0 f1 f3 f4 f5
  obtain⟨o,e,c,d⟩:=id a7
  exact⟨u,rfl,go_of (s:={s with heap:=h'}) e c d (by decide) ⟨x,H,I1,ru,⟨rfl,λys hy=>by rw[I.list_inj hy hq];exact hx⟩,a7,λb hb=>(hf b hb).1⟩⟩
 done:=by
  intro X hP hw hK hc i a6 s σ H E I hf st hg
  subst hP hw hK
  obtain⟨xs,hq,hx⟩:=hg
  obtain⟨a8,rv,p,hz⟩:=I.list hq
  obtain⟨f0,f1,f2,f3,f4,f5⟩:=hf it (by simp)
  have hl:=rv.length
  exact wpAny_pyNext_list_end (I.ok.hd hc) st p.isList (by simp;exact zd1 ‹_› ‹_›) λh' eb=>⟨rfl,I.turned (t':=s.toks) (λb o hb e=>eb b o hb e) f0 f1 f3 f4 f5⟩
 self:=λ_ _ _ _ _ st h=>wpAny_pyIter_listiter st h
theorem turn_tuple{P:Nj}{w:Nl}{K:Nb}{tg:Expr}(a it:Nc):Turn P w K tg (Itt K a) [it] it (λi h=>h.IsTupleIter it a i) where
 mem:=by simp
 obj:=λi h st b hb=>by
  have e:b=it:=by simpa using hb
  subst e
  obtain⟨o,e,c,d⟩:=st
  exact⟨o,e,λv z=>by rw[d]at z;cases z⟩
 keep:=λi h h' st k=>st.at λo e=>k it (by simp) o e
 item:=by
  intro X hP hw hK hc i a6 s σ H E I hf st hg
  subst hP hw hK
  obtain⟨xs,x,hq,hx⟩:=hg
  obtain⟨a8,rv,p,hz⟩:=I.tuple hq
  obtain⟨u,hu,ru⟩:=rv.get hx
  obtain⟨f0,f1,f2,f3,f4,f5⟩:=hf it (by simp)
  refine wpAny_pyNext_tuple_item st (show s.heap.IsTuple a a8.toArray from p) (x:=u) (by simpa using hu) λh' a7 sb=>?_
  have I1:Inv X a6 σ H {s with heap:=h'}:=I.turned (t':=s.toks) (λb o hb e=>(sb.2 b hb).trans e) f0 f1 f3 f4 f5
  obtain⟨o,e,c,d⟩:=id a7
  exact⟨u,rfl,go_of (s:={s with heap:=h'}) e c d (by decide) ⟨x,H,I1,ru,⟨rfl,λys hy=>by rw[I.tuple_inj hy hq];exact hx⟩,a7,λb hb=>(hf b hb).1⟩⟩
 done:=by
  intro X hP hw hK hc i a6 s σ H E I hf st hg
  subst hP hw hK
  obtain⟨xs,hq,hx⟩:=hg
  obtain⟨a8,rv,p,hz⟩:=I.tuple hq
  obtain⟨f0,f1,f2,f3,f4,f5⟩:=hf it (by simp)
  have hl:=rv.length
  exact wpAny_pyNext_tuple_end (I.ok.hd hc) st (show s.heap.IsTuple a a8.toArray from p) (by simp;exact zd1 ‹_› ‹_›) λh' eb=>⟨rfl,I.turned (t':=s.toks) (λb o hb e=>eb b o hb e) f0 f1 f3 f4 f5⟩
 self:=λ_ _ _ _ _ st h=>wpAny_pyIter_tupleiter st h
theorem turn_range{P:Nj}{w:Nl}{K:Nb}{tg:Expr}(it:Nc)(lo:Int)(n:Nat):Turn P w K tg (Itr lo n) [it] it (λi h=>IsRangeIter h it (lo+(i:Nat)*1) ((n:Int)-(i:Nat)) 1) where
 mem:=by simp
 obj:=λi h st b hb=>by
  have e:b=it:=by simpa using hb
  subst e
  exact⟨_,st,λv z=>by
   have z':Data.fields _=Data.cell v:=z
   cases z'⟩
 keep:=λi h h' st k=>k it (by simp) _ st
 item:=by
  intro X hP hw hK hc i a6 s σ H E I hf st hg
  subst hP hw hK
  obtain⟨f0,f1,f2,f3,f4,f5⟩:=hf it (by simp)
  have W:=Walks.range (prog:=X.prog) (w:=X.w) (I.ok.hd hc) it lo 1 n
  refine W.item i s _ _ hg st λv h' tk hv a7 kk=>?_
  obtain⟨t,rfl⟩:=hv
  have I1:Inv X a6 σ H {s with heap:=h',toks:=tk}:=I.turned (λb o hb e=>kk b o (by simpa using hb) e) f0 f1 f3 f4 f5
  refine⟨_,rfl,go_of (s:={s with heap:=h',toks:=tk}) (n := "range_iterator") a7 rfl rfl (by decide) ⟨.int (lo+i),H,I1,⟨t,?_⟩,⟨rfl,rfl⟩,a7,λb hb=>(hf b hb).1⟩⟩
  rw[Int.mul_one]
 done:=by
  intro X hP hw hK hc i a6 s σ H E I hf st hg
  subst hP hw hK
  obtain⟨f0,f1,f2,f3,f4,f5⟩:=hf it (by simp)
  exact wpAny_pyNext_range_end (I.ok.hd hc) st (by have:n≤i:=hg;lia) λh' eb=>⟨rfl,I.turned (t':=s.toks) (λb o hb e=>eb b o hb e) f0 f1 f3 f4 f5⟩
 self:=λ_ _ _ _ _ st h=>wpAny_pyIter_rangeiter st h
end L2
namespace L2
open PySem PySem.Spec PyProof.Rows
section
variable{X:Cx}{tg:Expr}
inductive RI1(x:V)(S R:Addr→Prop):Prop
 |mk (a:Nc) (e:x=.ref a) (s:S a) (q:R a):RI1 x S R
def iList(K:Nb)(tl:TE):TI:=λ σ H R=>tl σ H λx H1=>RI1 x (λa=>∃xs,SqL K H1 a xs) λa=>R (Itl K a) H1
def iTup(K:Nb)(tl:TE):TI:=λ σ H R=>tl σ H λx H1=>RI1 x (λa=>∃xs,SqT K H1 a xs) λa=>R (Itt K a) H1
def zax{l:Expr}{tl:TE}(hl:PE X l tl):PI X tg l (iList X.K tl):=by
 intro a6 s σ H R I h
 refine thn (hl a6 s σ H _ I h) λv s1 ⟨x,H1,I1,r1,q1⟩=>?_
 obtain⟨a,e,⟨xs,hq⟩,q⟩:=q1
 subst e
 cases r1
 obtain⟨a8,rv,p,hz⟩:=I1.list hq
 refine wpAny_pyIter_list p.isList ?_
 refine⟨s1.heap.objs.size,[s1.heap.objs.size],_,_,H1,rfl,I1.kept (t':=s1.toks) λb o e=>Qi _ e,turn_list a _,⟨_,Zd _ rfl,rfl,rfl⟩,λb hb=>?_,q⟩
 have e:b=s1.heap.objs.size:=by simpa using hb
 subst e
 exact I1.fpOk (Qf _) (I1.hok.fresh (Qf _))
def pi_tup{l:Expr}{tl:TE}(hl:PE X l tl):PI X tg l (iTup X.K tl):=by
 intro a6 s σ H R I h
 refine thn (hl a6 s σ H _ I h) λv s1 ⟨x,H1,I1,r1,q1⟩=>?_
 obtain⟨a,e,⟨xs,hq⟩,q⟩:=q1
 subst e
 cases r1
 obtain⟨a8,rv,p,hz⟩:=I1.tuple hq
 refine wpAny_pyIter_tuple (show s1.heap.IsTuple a a8.toArray from p) ?_
 refine⟨s1.heap.objs.size,[s1.heap.objs.size],_,_,H1,rfl,I1.kept (t':=s1.toks) λb o e=>Qi _ e,turn_tuple a _,⟨_,Zd _ rfl,rfl,rfl⟩,λb hb=>?_,q⟩
 have e:b=s1.heap.objs.size:=by simpa using hb
 subst e
 exact I1.fpOk (Qf _) (I1.hok.fresh (Qf _))
def range_it{a6:Nd}{σ:St}{H:Hp}{s:Ng}{R:It→Hp→Prop}{E:Na}{lo hi:Int}{t u v:Tok}{tk:Nat}(I:Inv X a6 σ H s)(h1:-(2 ^ 62)≤lo)(h2:lo<2 ^ 62)(h3:-(2 ^ 62)≤hi)(h4:hi<2 ^ 62)(q:R (Itr lo (hi-lo).toNat) H):wpAny (model X.prog X.w) X.A (pyIter (.ref s.heap.objs.size)) (PIE X a6 σ tg R) E {s with heap:=s.heap.push {cls:=.type "range",data:=.fields #[.int lo t,.int hi u,.int 1 v]},toks:=tk}:=by
 refine wpAny_pyIter_range (IsRange.new ..) (small_one h1 h2 h3 h4) ?_
 have I1:Inv X a6 σ H {s with heap:=s.heap.push {cls:=.type "range",data:=.fields #[.int lo t,.int hi u,.int 1 v]},toks:=tk}:=I.kept λb o e=>Qi _ e
 refine⟨(s.heap.push {cls:=.type "range",data:=.fields #[.int lo t,.int hi u,.int 1 v]}).objs.size,[(s.heap.push {cls:=.type "range",data:=.fields #[.int lo t,.int hi u,.int 1 v]}).objs.size],_,_,H,rfl,
  I1.kept (t':=tk) λb o e=>Qi _ e,turn_range _ lo (hi-lo).toNat,?_,λb hb=>?_,q⟩
 ·have e1:lo+((0:Nat):Int)*1=lo:=by simp
  have e2:(((hi-lo).toNat:Nat):Int)-((0:Nat):Int)=Builtin.Range.rangeSize lo hi 1:=by rw[rangeSize_one];split<;>lia
  show IsRangeIter _ _ (lo+((0:Nat):Int)*1) ((((hi-lo).toNat:Nat):Int)-((0:Nat):Int)) 1
  rw[e1,e2]
  exact Zd _ rfl
 ·have e:b=(s.heap.push { cls:=.type "range",data:=.fields #[.int lo t,.int hi u,.int 1 v] }).objs.size:=by simpa using hb
  subst e
  exact I1.fpOk (Qf _) (I1.hok.fresh (Qf _))
inductive RR1(vs:List V)(R:Int→Prop):Prop
 |mk (j:Int) (e:vs=[.int j]) (l:-(2 ^ 62)≤j) (u:j<2 ^ 62) (q:R j):RR1 vs R
def iRng1(ta:TA):TI:=λ σ H R=>ta σ H λvs H1=>RR1 vs λj=>R (Itr 0 j.toNat) H1
def zc5{a:Expr}{ta:TA}{p pos:Pos}(hg:Gl X "range")(hm:X.mg "range" = none)(ha:PA X [a] ta)(hs:starEach [a] X.env=[(false,eval a X.env)]:=by rfl):PI X tg (.Call (.Name "range" p) [a] [] pos) (iRng1 ta):=by
 intro a6 s σ H R I h
 refine Call_ (ld_blt I hg hm boot_range (Xc (thn (ha pos a6 s σ H _ I h) λus s1 ⟨vs,H1,I1,r1,q1⟩=>?_) hs rfl))
 obtain⟨j,e,q1,q2,q⟩:=q1
 subst e
 cases r1 with
 |cons r rr =>
  cases rr
  obtain⟨t,rfl⟩:=r
  exact call_range_1 (range_it I1 (by lia) (by lia) q1 q2 (by simpa using q))
def tFor(wi:TI)(g:TG)(tb:TS):TS:=λD σ H=>wi σ H λJ H1=>∃W:Nat→Nat→St→Hp→Prop,(∃m,W 0 m σ H1)∧∀i m σ H,W i m σ H →
 (J.stop i H∧D.nx σ H)∨(J.go i H∧∃N:St→Hp→Prop,(∀σ' H',N σ' H'→∃m',m'<m∧W (i+1) m' σ' H')∧∀x H',J.yld i H x H'→g x σ H' λ σ2 H2=>tb {D with nx:=N,ct:=N,bk:=D.nx} σ2 H2)
def zcx(fp:Nk)(h:Nn):List (Addr×Obj):=fp.filterMap λb=>(h.get? b).map λo=>(b,o)
def zbw{fp:Nk}{h:Nn}{b:Nc}{o:Obj}(hb:b∈fp)(e:h.get? b=some o):(b,o)∈zcx fp h:=List.mem_filterMap.mpr ⟨b,hb,by rw[e];rfl⟩
def zgs{fp:Nk}{h:Nn}{p:Addr×Obj}(hp:p∈zcx fp h):p.1∈fp∧h.get? p.1=some p.2:=by
 obtain⟨b,hb,e⟩:=List.mem_filterMap.mp hp
 cases q:h.get? b with
 |none=>rw[q]at e;cases e
 |some o =>
  rw[q]at e
  have e':(b,o)=p:=Qt e
  subst e'
  exact⟨hb,q⟩
def Inv.pinned{a6:Nd}{σ:St}{H:Hp}{s:Ng}{fp:Nk}(I:Inv X a6 σ H s)(hf:∀b∈fp,FpOk X a6 H b)(ho:∀b∈fp,∃o,s.heap.get? b=some o∧∀v,o.data≠.cell v):Inv X (a6++zcx fp s.heap) σ H s :=
 I.pins_of λp hp=>(Qe.mp hp).elim (λz=>I.pin p (Qp _ z)) λz=>by
  obtain⟨hb,e⟩:=zgs z
  obtain⟨f0,f1,f2,_⟩:=hf p.1 hb
  obtain⟨o,e',d⟩:=ho p.1 hb
  rw[e]at e';cases e'
  exact⟨e,f0,f1,f2,d⟩
def Inv.unpinned{a6 pl:Nd}{σ:St}{H:Hp}{s:Ng}(I:Inv X (a6++pl) σ H s):Inv X a6 σ H s:=I.pins_of λp hp=>I.pin p (Qp _ (Qr _ hp))
def zbm{iter:Expr}{body:List Stmt}{wi:TI}{g:TG}{tb:TS}{pos:Pos}(hp:PassesOwn (model X.prog X.w) X.A X.env X.xe)(hc:X.calm=true)(hi:PI X tg iter wi)(hg:PG X tg g)(hb:PSs X body tb)(hs:∀x,foldedSetIterable iter X.env x=pure x:=by intro _;rfl):PS X (.For tg iter body [] pos) (tFor wi g tb):=by
 intro a6 s σ H D I h
 refine wpAny_For (thn (hi a6 s σ H _ I h) λv s1 h1=>thn h1 λitv s2 h2=>?_) hs
 obtain⟨it,fp,tn,J,H2,e,I2,T,av,f2,W,⟨m0,w0⟩,turn⟩:=h2
 subst e
 have stat:∀{H':Hp},(∀b∈fp,H' b=none)→∀b∈fp,FpOk X a6 H' b:=λhn b hb=>⟨hn b hb,(f2 b hb).2⟩
 refine codeAny_forLoop_any (λn s'=>Ex3 λi σ' H'=>Aj4 (Inv X a6 σ' H' s') (tn i s'.heap) (∀b∈fp,H' b=none) (W i n σ' H')) ?_ m0 ⟨0,σ,H2,I2,av,λb hb=>(f2 b hb).1,w0⟩
 rintro n s3 ⟨i,σ3,H3,I3,ag,fr3,w3⟩
 rcases turn i n σ3 H3 w3 with⟨stop,qn⟩ | ⟨go,N,hN,step⟩
 ·refine wpAny_passesOwn hp (thn (T.done X rfl rfl rfl hc i a6 s3 σ3 H3 X.xe I3 (stat fr3) ag stop) fun r s4 ⟨hr,I4⟩=>?_)
  subst hr
  exact wpAny_execs_nil ⟨σ3,H3,I4,qn⟩
 ·refine wpAny_passesOwn hp (thn (T.item X rfl rfl rfl hc i a6 s3 σ3 H3 X.xe I3 (stat fr3) ag go) fun r s4 ⟨u,hr,h4⟩=>?_)
  subst hr
  refine wpAny_passesOwn hp (thn h4 λ_ s5 ⟨x,H5,I5,r5,y5,ic,fr5⟩=>?_)
  have jK:=I5.pinned (stat fr5) (T.obj _ _ ic)
  refine wpAny_passesOwn hp (thn (hg _ s5 σ3 H5 x u _ jK r5 (step x H5 y5)) λ_ s6 ⟨σ6,H6,I6,q6⟩=>?_)
  refine wpAny_passesOwn hp (thn (hb _ s6 σ6 H6 _ I6 q6) λf s7 q7=>?_)
  have again:∀{σ7:St} {H7:Hp},Inv X (a6++zcx fp s5.heap) σ7 H7 s7→N σ7 H7→∃m,m<n∧Ex3 λi σ' H'=>Aj4 (Inv X a6 σ' H' s7) (tn i s7.heap) (∀b∈fp,H' b=none) (W i m σ' H'):=λ{σ7 H7} I7 n7=>by
   obtain⟨m',hm,w7⟩:=hN σ7 H7 n7
   refine⟨m',hm,i+1,σ7,H7,I7.unpinned,T.keep _ _ _ ic λb hb o e=>(I7.pin (b,o) (Qp _ (Qp _ (zbw hb e)))).1,λb hb=>?_,w7⟩
   obtain⟨o,e,d⟩:=T.obj _ _ ic b hb
   exact(I7.pin (b,o) (Qp _ (Qp _ (zbw hb e)))).2.1
  cases f with
  |next=>obtain⟨σ7,H7,I7,n7⟩:=q7;exact again I7 n7
  |cont=>obtain⟨σ7,H7,I7,n7⟩:=q7;exact again I7 n7
  |brk=>obtain⟨σ7,H7,I7,q7⟩:=q7;exact⟨σ7,H7,I7.unpinned,q7⟩
  |ret v=>obtain⟨x7,σ7,H7,I7,r7,q7⟩:=q7;exact⟨x7,σ7,H7,I7.unpinned,r7,q7⟩
end
def zbq{K:Nb}{a:Nc}{xs:List V}{g:TG}{tb:TS}{D:Ends}{σ:St}{H:Hp}(Pv:Nat→St→Hp→Prop)(h0:Pv 0 σ H)(hl:∀i σ H,i≤xs.length→Pv i σ H→SqL K H a xs)(hs:∀i x σ H,xs[i]?=some x→Pv i σ H→g x σ H λ σ2 H2=>tb {D with nx:=Pv (i+1),ct:=Pv (i+1),bk:=D.nx} σ2 H2)(hd:∀σ H,Pv xs.length σ H→D.nx σ H) :
  ∃W:Nat→Nat→St→Hp→Prop,(∃m,W 0 m σ H)∧∀i m σ H,W i m σ H →
   ((Itl K a).stop i H∧D.nx σ H)∨((Itl K a).go i H∧∃N:St→Hp→Prop,(∀σ' H',N σ' H'→∃m',m'<m∧W (i+1) m' σ' H')∧∀x H',(Itl K a).yld i H x H'→g x σ H' λ σ2 H2=>tb {D with nx:=N,ct:=N,bk:=D.nx} σ2 H2):=by
 refine⟨λi m σ H=>m=xs.length-i∧i≤xs.length∧Pv i σ H,⟨xs.length,by simp,Zn _,h0⟩,?_⟩
 rintro i m σ H ⟨rfl,hi,p⟩
 have q:=hl i σ H hi p
 by_cases ad:i<xs.length
 ·refine .inr ⟨⟨xs,xs[i],q,by simp [ad]⟩,Pv (i+1),fun σ' H' p'=>⟨xs.length - (i+1),by exact zar1 ‹_›,rfl,ad,p'⟩,fun x H' y=>?_⟩
  obtain⟨e,y⟩:=y
  subst e
  exact hs i x σ _ (y xs q) p
 ·have e:i=xs.length:=by exact zar3 ‹_› ‹_›
  subst e
  exact .inl ⟨⟨xs,q,Qf _⟩,hd σ H p⟩
def for_tup{K:Nb}{a:Nc}{xs:List V}{g:TG}{tb:TS}{D:Ends}{σ:St}{H:Hp}(Pv:Nat→St→Hp→Prop)(h0:Pv 0 σ H)(hl:∀i σ H,i≤xs.length→Pv i σ H→SqT K H a xs)(hs:∀i x σ H,xs[i]?=some x→Pv i σ H→g x σ H λ σ2 H2=>tb {D with nx:=Pv (i+1),ct:=Pv (i+1),bk:=D.nx} σ2 H2)(hd:∀σ H,Pv xs.length σ H→D.nx σ H) :
  ∃W:Nat→Nat→St→Hp→Prop,(∃m,W 0 m σ H)∧∀i m σ H,W i m σ H →
   ((Itt K a).stop i H∧D.nx σ H)∨((Itt K a).go i H∧∃N:St→Hp→Prop,(∀σ' H',N σ' H'→∃m',m'<m∧W (i+1) m' σ' H')∧∀x H',(Itt K a).yld i H x H'→g x σ H' λ σ2 H2=>tb {D with nx:=N,ct:=N,bk:=D.nx} σ2 H2):=by
 refine⟨λi m σ H=>m=xs.length-i∧i≤xs.length∧Pv i σ H,⟨xs.length,by simp,Zn _,h0⟩,?_⟩
 rintro i m σ H ⟨rfl,hi,p⟩
 have q:=hl i σ H hi p
 by_cases ad:i<xs.length
 ·refine .inr ⟨⟨xs,xs[i],q,by simp [ad]⟩,Pv (i+1),fun σ' H' p'=>⟨xs.length - (i+1),by exact zar1 ‹_›,rfl,ad,p'⟩,fun x H' y=>?_⟩
  obtain⟨e,y⟩:=y
  subst e
  exact hs i x σ _ (y xs q) p
 ·have e:i=xs.length:=by exact zar3 ‹_› ‹_›
  subst e
  exact .inl ⟨⟨xs,q,Qf _⟩,hd σ H p⟩
def zc9{lo:Int}{n:Nat}{g:TG}{tb:TS}{D:Ends}{σ:St}{H:Hp}(Pv:Nat→St→Hp→Prop)(h0:Pv 0 σ H)(hs:∀i σ H,i<n→Pv i σ H→g (.int (lo+i)) σ H λ σ2 H2=>tb {D with nx:=Pv (i+1),ct:=Pv (i+1),bk:=D.nx} σ2 H2)(hd:∀σ H,Pv n σ H→D.nx σ H) :
  ∃W:Nat→Nat→St→Hp→Prop,(∃m,W 0 m σ H)∧∀i m σ H,W i m σ H →
   ((Itr lo n).stop i H∧D.nx σ H)∨((Itr lo n).go i H∧∃N:St→Hp→Prop,(∀σ' H',N σ' H'→∃m',m'<m∧W (i+1) m' σ' H')∧∀x H',(Itr lo n).yld i H x H'→g x σ H' λ σ2 H2=>tb {D with nx:=N,ct:=N,bk:=D.nx} σ2 H2):=by
 refine⟨λi m σ H=>m=n-i∧i≤n∧Pv i σ H,⟨n,by simp,Zn _,h0⟩,?_⟩
 rintro i m σ H ⟨rfl,hi,p⟩
 by_cases ad:i<n
 ·refine .inr ⟨ad,Pv (i+1),fun σ' H' p'=>⟨n - (i+1),by exact zar1 ‹_›,rfl,ad,p'⟩,fun x H' y=>?_⟩
  obtain⟨e,y⟩:=y
  subst e y
  exact hs i σ _ ad p
 ·have e:i=n:=by exact zar3 ‹_› ‹_›
  subst e
  exact .inl ⟨Qf _,hd σ H p⟩
end L2
namespace L2
open PySem PySem.Spec PyProof.Rows
abbrev R2:=V→V→Hp→VK→Prop
def OpR(X:Cx)(f:Value→Value→Sem Value)(r:R2):Prop :=
 ∀(a6:Nd) (s:Ng) (σ:St) (H:Hp) (x y:V) (v u:Value) (Q:VK),Inv X a6 σ H s→RelV x v→RelV y u→r x y H Q →
  wpAny (model X.prog X.w) X.A (f v u) (EP X a6 σ Q) X.xe s
def UnR(X:Cx)(f:Value→Sem Value)(r:V→Hp→VK→Prop):Prop :=
 ∀(a6:Nd) (s:Ng) (σ:St) (H:Hp) (x:V) (v:Value) (Q:VK),Inv X a6 σ H s→RelV x v→r x H Q →
  wpAny (model X.prog X.w) X.A (f v) (EP X a6 σ Q) X.xe s
def zce(X:Cx)(f:Value)(r:List V→Hp→VK→Prop):Prop :=
 ∀(a6:Nd) (s:Ng) (σ:St) (H:Hp) (xs:List V) (us:Nh) (Q:VK),Inv X a6 σ H s→Vals xs us→r xs H Q →
  wpAny (model X.prog X.w) X.A (call f us) (EP X a6 σ Q) X.xe s
def TruR(X:Cx)(r:V→Hp→(Bool→Hp→Prop)→Prop):Prop :=
 ∀(a6:Nd) (s:Ng) (σ:St) (H:Hp) (x:V) (v:Value) (Q:Bool→Hp→Prop),Inv X a6 σ H s→RelV x v→r x H Q →
  wpAny (model X.prog X.w) X.A (truthy v) (TP X a6 σ Q) X.xe s
def tOp(r:R2)(ta tb:TE):TE:=λ σ H Q=>ta σ H λx H1=>tb σ H1 λy H2=>r x y H2 Q
def tUn(r:V→Hp→VK→Prop)(ta:TE):TE:=λ σ H Q=>ta σ H λx H1=>r x H1 Q
inductive RrI(C:Int→Int→Prop)(g:Int→Int→V)(x:V)(y:V)(H:Hp)(Q:VK):Prop
 |mk (i:_) (j:_) (h0:x=.int i) (h1:y=.int j) (h2:C i j) (h3:Q (g i j) H):RrI C g x y H Q
def rI(C:Int→Int→Prop)(g:Int→Int→V):R2:=λx y H Q=>RrI C g x y H Q
inductive RrI0(g:Int→Int→V)(x:V)(y:V)(H:Hp)(Q:VK):Prop
 |mk (i:_) (j:_) (h0:x=.int i) (h1:y=.int j) (h2:Q (g i j) H):RrI0 g x y H Q
def rI0(g:Int→Int→V):R2:=λx y H Q=>RrI0 g x y H Q
def rU(g:Int→V):V→Hp→VK→Prop:=λx H Q=>∃i,x=.int i∧Q (g i) H
section
variable{X:Cx}{a b c:Expr}{ta tb tc:TE}{pos:Pos}
def binT(ha:PE X a ta)(hb:PE X b tb){a6:Nd}{s:Ng}{σ:St}{H:Hp}{R:V→V→Hp→Prop}(I:Inv X a6 σ H s)(h:ta σ H λx H1=>tb σ H1 λy H2=>R x y H2){Q:Na}{f:Value→Value→Sem Value}(hf:∀v u s2 x y H2,Inv X a6 σ H2 s2→RelV x v→RelV y u→R x y H2→wpAny (model X.prog X.w) X.A (f v u) Q X.xe s2) :
  wpAny (model X.prog X.w) X.A (eval a X.env) (λv s₁=>wpAny (model X.prog X.w) X.A (eval b X.env) (λu s₂=>wpAny (model X.prog X.w) X.A (f v u) Q X.xe s₂) X.xe s₁) X.xe s:=by
 refine thn (ha a6 s σ H _ I h) λv s1 ⟨x,H1,I1,r1,q1⟩=>?_
 refine thn (hb a6 s1 σ H1 _ I1 q1) λu s2 ⟨y,H2,I2,r2,q2⟩=>?_
 exact hf v u s2 x y H2 I2 r1 r2 q2
def zat{op:Operator}{r:R2}(ho:OpR X (binaryOp op) r)(ha:PE X a ta)(hb:PE X b tb):PE X (.BinOp a op b pos) (tOp r ta tb):=by
 intro a6 s σ H Q I h
 exact wpAny_BinOp (binT ha hb I h λv u s2 x y H2 I2 rx ry q=>ho a6 s2 σ H2 x y v u Q I2 rx ry q)
def pe_un{op:UnaryOp}{r:V→Hp→VK→Prop}(ho:UnR X (unaryOp op) r)(ha:PE X a ta):PE X (.UnaryOp op a pos) (tUn r ta):=by
 intro a6 s σ H Q I h
 exact UnaryOp_ (thn (ha a6 s σ H _ I h) λv s1 ⟨x,H1,I1,r1,q1⟩=>ho a6 s1 σ H1 x v Q I1 r1 q1)
def opI{f:Value→Value→Sem Value}{C:Int→Int→Prop}{g:Int→Int→Int}(rule:∀(i j:Int) (t u:Tok) (s:Ng) (Q:Na) (E:Na),C i j→Q (.int (g i j) s.toks) {s with toks:=s.toks+1}→wpAny (model X.prog X.w) X.A (f (.int i t) (.int j u)) Q E s) :
  OpR X f (rI C λi j=>.int (g i j)):=by
 intro a6 s σ H x y v u Q I rx ry h
 obtain⟨i,j,rfl,rfl,hc,q⟩:=h
 obtain⟨t,rfl⟩:=rx
 obtain⟨t',rfl⟩:=ry
 exact rule i j t t' s _ _ hc ⟨.int (g i j),H,I.tok _,⟨_,rfl⟩,q⟩
def opI0{f:Value→Value→Sem Value}{g:Int→Int→Int}(rule:∀(i j:Int) (t u:Tok) (s:Ng) (Q:Na) (E:Na),Q (.int (g i j) s.toks) {s with toks:=s.toks+1}→wpAny (model X.prog X.w) X.A (f (.int i t) (.int j u)) Q E s) :
  OpR X f (rI0 λi j=>.int (g i j)):=by
 intro a6 s σ H x y v u Q I rx ry h
 obtain⟨i,j,rfl,rfl,q⟩:=h
 obtain⟨t,rfl⟩:=rx
 obtain⟨t',rfl⟩:=ry
 exact rule i j t t' s _ _ ⟨.int (g i j),H,I.tok _,⟨_,rfl⟩,q⟩
def opB0{f:Value→Value→Sem Value}{g:Int→Int→Bool}(rule:∀(i j:Int) (t u:Tok) (s:Ng) (Q:Na) (E:Na),Q (.bool (g i j)) s→wpAny (model X.prog X.w) X.A (f (.int i t) (.int j u)) Q E s) :
  OpR X f (rI0 λi j=>.bl (g i j)):=by
 intro a6 s σ H x y v u Q I rx ry h
 obtain⟨i,j,rfl,rfl,q⟩:=h
 obtain⟨t,rfl⟩:=rx
 obtain⟨t',rfl⟩:=ry
 exact rule i j t t' s _ _ ⟨.bl (g i j),H,I,rfl,q⟩
def CDiv(i j:Int):Prop:=0<j∧j<1073741824
def CPow(i j:Int):Prop:=0≤j∧j≤1000000∧i.natAbs<2 ^ 64
def CMul(i j:Int):Prop:=(-(2 ^ 64)<i∧i<2 ^ 64)∨(-(2 ^ 64)<j∧j<2 ^ 64)
def CMul.ok{i j:Int}(h:CMul i j):IntMulOk i j:=by
 rcases h with⟨h1,h2⟩ | ⟨h1,h2⟩
 ·exact .of_left (intBits_le_64 h1 h2)
 ·exact .of_right (intBits_le_64 h1 h2)
def zbo:OpR X (binaryOp .Add) (rI0 λi j=>.int (i+j)):=opI0 λ_ _ _ _ _ _ _ q=>add_int q
def op_sub:OpR X (binaryOp .Sub) (rI0 λi j=>.int (i-j)):=opI0 λ_ _ _ _ _ _ _ q=>sub_int q
def zgr:OpR X (binaryOp .Mult) (rI CMul λi j=>.int (i*j)):=opI λ_ _ _ _ _ _ _ hc q=>mul_int q hc.ok
def zfi:OpR X (binaryOp .FloorDiv) (rI CDiv λi j=>.int (i/j)):=opI λi j _ _ _ _ _ hc q=>by
 have h1:(0:Int)<j:=hc.1
 have h2:j<1073741824:=hc.2
 exact floordiv_int (by lia) (by rw[Int.fdiv_eq_ediv_of_nonneg i (by lia)];exact q) (.inl (PyProof.noPylong_small (by lia)))
def zco:OpR X (binaryOp .Mod) (rI (λ_ j=>0<j) λi j=>.int (i%j)):=opI λi j _ _ _ _ _ hc q=>by
 have h1:(0:Int)<j:=hc
 exact mod_int' (by lia) (by rw[Int.fmod_eq_emod_of_nonneg i (by lia)];exact q)
def op_pow:OpR X (binaryOp .Pow) (rI CPow λi j=>.int (i ^ j.toNat)):=opI λ_ _ _ _ _ _ _ hc q=>pow_int_small hc.1 hc.2.1 hc.2.2 q
def unI{f:Value→Sem Value}{g:Int→Int}(rule:∀(i:Int) (t:Tok) (s:Ng) (Q:Na) (E:Na),Q (.int (g i) s.toks) {s with toks:=s.toks+1}→wpAny (model X.prog X.w) X.A (f (.int i t)) Q E s) :
  UnR X f (rU λi=>.int (g i)):=by
 intro a6 s σ H x v Q I rx h
 obtain⟨i,rfl,q⟩:=h
 obtain⟨t,rfl⟩:=rx
 exact rule i t s _ _ ⟨.int (g i),H,I.tok _,⟨_,rfl⟩,q⟩
def un_neg:UnR X (unaryOp .USub) (rU λi=>.int (-i)):=unI λ_ _ _ _ _ q=>neg_int q
end
def scal:V→V→Bool
 |.non,.non=>true | .non,.int _=>true | .int _,.non=>true | .non,.bl _=>true | .bl _,.non=>true | .non,.str _=>true | .str _,.non=>true
 |.int _,.int _=>true | .bl _,.bl _=>true | .str _,.str _=>true | .byt _,.byt _=>true
 |.int _,.str _=>true | .str _,.int _=>true | .bl _,.str _=>true | .str _,.bl _=>true
 |_,_=>false
def rEq:R2:=λx y H Q=>scal x y=true∧Q (.bl (decide (x=y))) H
def rNe:R2:=λx y H Q=>scal x y=true∧Q (.bl (!decide (x=y))) H
def dec_int{i j:Int}:decide (V.int i=V.int j)=(i==j):=by
 rw[Yr]
 simp
def dec_bl{i j:Bool}:decide (V.bl i=V.bl j)=(i==j):=by
 rw[Yr]
 simp
def dec_str{i j:Str}:decide (V.str i=V.str j)=(i==j):=by
 rw[Yr]
 simp
def dec_byt{i j:Array UInt8}:decide (V.byt i=V.byt j)=(i.toList==j.toList):=by
 rw[Yr]
 cases i
 cases j
 simp
section
variable{X:Cx}{a b c:Expr}{ta tb tc:TE}{pos:Pos}
def za9{a6:Nd}{σ:St}{H:Hp}{s:Ng}{Q:VK}{k k':Bool}(I:Inv X a6 σ H s)(q:Q (.bl k) H)(e:k=k'):EP X a6 σ Q (.bool k') s:=by
 subst e
 exact⟨.bl k,H,I,rfl,q⟩
def op_eq:OpR X (compareOp .Eq) rEq:=by
 intro a6 s σ H x y v u Q I rx ry h
 obtain⟨hs,q⟩:=h
 cases x with
 |non =>
  cases rx
  cases y with
  |non=>cases ry;exact PySem.EqNone.eq_none_none (za9 I q (by simp))
  |bl j=>cases ry;exact PySem.EqNone.eq_none_bool (za9 I q (by simp))
  |int j=>obtain⟨t',rfl⟩:=ry;exact PySem.EqNone.eq_none_int (za9 I q (by simp))
  |str j=>obtain⟨t',rfl⟩:=ry;exact PySem.EqNone.eq_none_str (za9 I q (by simp))
  |_=>exact absurd (show false=true from hs) Zh
 |bl i =>
  cases rx
  cases y with
  |non=>cases ry;exact PySem.EqNone.eq_bool_none (za9 I q (by simp))
  |bl j=>cases ry;exact eq_bool (za9 I q dec_bl)
  |str j=>obtain⟨t',rfl⟩:=ry;exact PySem.EqMixed.eq_bool_str (za9 I q (by simp))
  |_=>exact absurd (show false=true from hs) Zh
 |int i =>
  obtain⟨t,rfl⟩:=rx
  cases y with
  |non=>cases ry;exact PySem.EqNone.eq_int_none (za9 I q (by simp))
  |int j=>obtain⟨t',rfl⟩:=ry;exact eq_int (za9 I q dec_int)
  |str j=>obtain⟨t',rfl⟩:=ry;exact PySem.EqMixed.eq_int_str (za9 I q (by simp))
  |_=>exact absurd (show false=true from hs) Zh
 |str i =>
  obtain⟨t,rfl⟩:=rx
  cases y with
  |non=>cases ry;exact PySem.EqNone.eq_str_none (za9 I q (by simp))
  |bl j=>cases ry;exact PySem.EqMixed.eq_str_bool (za9 I q (by simp))
  |int j=>obtain⟨t',rfl⟩:=ry;exact PySem.EqMixed.eq_str_int (za9 I q (by simp))
  |str j=>obtain⟨t',rfl⟩:=ry;exact eq_str (za9 I q dec_str)
  |_=>exact absurd (show false=true from hs) Zh
 |byt i =>
  obtain⟨t,rfl⟩:=rx
  cases y with
  |byt j=>obtain⟨t',rfl⟩:=ry;exact PySem.W.eq_bytes (za9 I q dec_byt)
  |_=>exact absurd (show false=true from hs) Zh
 |_=>cases y<;>exact absurd (show false=true from hs) Zh
def op_ne:OpR X (compareOp .NotEq) rNe:=by
 intro a6 s σ H x y v u Q I rx ry h
 obtain⟨hs,q⟩:=h
 cases x with
 |non =>
  cases rx
  cases y with
  |non=>cases ry;exact PySem.EqNone.ne_none_none (za9 I q (by simp))
  |bl j=>cases ry;exact PySem.EqNone.ne_none_bool (za9 I q (by simp))
  |int j=>obtain⟨t',rfl⟩:=ry;exact PySem.EqNone.ne_none_int (za9 I q (by simp))
  |str j=>obtain⟨t',rfl⟩:=ry;exact PySem.EqNone.ne_none_str (za9 I q (by simp))
  |_=>exact absurd (show false=true from hs) Zh
 |bl i =>
  cases rx
  cases y with
  |non=>cases ry;exact PySem.EqNone.ne_bool_none (za9 I q (by simp))
  |bl j=>cases ry;exact ne_bool (za9 I q (congrArg not dec_bl))
  |str j=>obtain⟨t',rfl⟩:=ry;exact PySem.EqMixed.ne_bool_str (za9 I q (by simp))
  |_=>exact absurd (show false=true from hs) Zh
 |int i =>
  obtain⟨t,rfl⟩:=rx
  cases y with
  |non=>cases ry;exact PySem.EqNone.ne_int_none (za9 I q (by simp))
  |int j=>obtain⟨t',rfl⟩:=ry;exact ne_int (za9 I q (congrArg not dec_int))
  |str j=>obtain⟨t',rfl⟩:=ry;exact PySem.EqMixed.ne_int_str (za9 I q (by simp))
  |_=>exact absurd (show false=true from hs) Zh
 |str i =>
  obtain⟨t,rfl⟩:=rx
  cases y with
  |non=>cases ry;exact PySem.EqNone.ne_str_none (za9 I q (by simp))
  |bl j=>cases ry;exact PySem.EqMixed.ne_str_bool (za9 I q (by simp))
  |int j=>obtain⟨t',rfl⟩:=ry;exact PySem.EqMixed.ne_str_int (za9 I q (by simp))
  |str j=>obtain⟨t',rfl⟩:=ry;exact ne_str (za9 I q (congrArg not dec_str))
  |_=>exact absurd (show false=true from hs) Zh
 |byt i =>
  obtain⟨t,rfl⟩:=rx
  cases y with
  |byt j=>obtain⟨t',rfl⟩:=ry;exact PySem.W.ne_bytes (za9 I q (congrArg not dec_byt))
  |_=>exact absurd (show false=true from hs) Zh
 |_=>cases y<;>exact absurd (show false=true from hs) Zh
def op_lt:OpR X (compareOp .Lt) (rI0 λi j=>.bl (decide (i<j))):=opB0 λ_ _ _ _ _ _ _ q=>lt_int q
def op_le:OpR X (compareOp .LtE) (rI0 λi j=>.bl (decide (i≤j))):=opB0 λ_ _ _ _ _ _ _ q=>le_int q
def op_gt:OpR X (compareOp .Gt) (rI0 λi j=>.bl (decide (j<i))):=opB0 λ_ _ _ _ _ _ _ q=>gt_int q
def zb8(b:Expr){op:CmpOp}(h:op≠.In:=by decide)(h2:op≠.NotIn:=by decide):behindInMarks op b=false:=by
 have e1:(op==CmpOp.In)=false:=by cases op<;>first | rfl | exact absurd rfl h
 have e2:(op==CmpOp.NotIn)=false:=by cases op<;>first | rfl | exact absurd rfl h2
 cases b<;>simp[behindInMarks,e1,e2]
def pe_cmpR{op:CmpOp}{r:R2}(ho:OpR X (compareOp op) r)(ha:PE X a ta)(hb:PE X b tb)(hm:behindInMarks op b=false):PE X (.Compare a [op] [b] pos) (tOp r ta tb):=by
 intro a6 s σ H Q I h
 exact wpAny_Compare1 (binT ha hb I h λv u s2 x y H2 I2 rx ry q=>ho a6 s2 σ H2 x y v u Q I2 rx ry q) hm
def tTest(t:TE):TT:=λ σ H Q=>t σ H λx H'=>RB x H' Q
def za4{op:CmpOp}{r:R2}(ho:OpR X (compareOp op) r)(ha:PE X a ta)(hb:PE X b tb)(hm:behindInMarks op b=false):PT X (.Compare a [op] [b] pos) (tTest (tOp r ta tb)):=by
 intro a6 s σ H Q I h
 refine wpAny_isTrue_Compare1 (thn (ha a6 s σ H _ I h) λv s1 ⟨x,H1,I1,r1,q1⟩=>thn (hb a6 s1 σ H1 _ I1 q1) λu s2 ⟨y,H2,I2,r2,q2⟩ =>
  thn (ho a6 s2 σ H2 x y v u _ I2 r1 r2 q2) λc s3 ⟨z,H3,I3,r3,k,e,q3⟩=>?_) hm
 subst e
 cases r3
 exact wpAny_truthy_bool ⟨H3,I3,q3⟩
def tChain(r r':R2)(ta tb tc:TE):TE:=λ σ H Q=>ta σ H λx H1=>tb σ H1 λy H2=>r x y H2 λz H3=>RB z H3 λk H3 =>
 (if k=true then tc σ H3 λw' H4=>r' y w' H4 Q else Q (.bl false) H3)
def pe_chain{op oP:CmpOp}{r r':R2}(ho:OpR X (compareOp op) r)(aU:OpR X (compareOp oP) r')(ha:PE X a ta)(hb:PE X b tb)(hc:PE X c tc)(hm:lastMarks [op,oP] [b,c]=false:=by with_unfolding_all rfl):PE X (.Compare a [op,oP] [b,c] pos) (tChain r r' ta tb tc):=by
 intro a6 s σ H Q I h
 refine Compare_chain (thn (ha a6 s σ H _ I h) λv s1 ⟨x,H1,I1,r1,q1⟩=>chain_link (thn (hb a6 s1 σ H1 _ I1 q1) λu s2 ⟨y,H2,I2,r2,q2⟩ =>
  thn (ho a6 s2 σ H2 x y v u _ I2 r1 r2 q2) λd s3 ⟨z,H3,I3,r3,k,e,q3⟩=>?_)) hm
 subst e
 cases r3
 refine wpAny_truthy_bool ?_
 cases k with
 |false=>exact ite_ff ⟨.bl false,H3,I3,rfl,q3⟩
 |true=>exact ite_tt (chain_last (thn (hc a6 s3 σ H3 _ I3 q3) λw' s4 ⟨z',H4,I4,r4,q4⟩=>aU a6 s4 σ H4 y z' u w' Q I4 r2 r4 q4))
def TruV(K:Nb)(x:V)(H:Hp)(k:Bool):Prop :=
 match x with
 |.non=>k=false
 |.bl b=>k=b
 |.int i=>k=(i != 0)
 |.str y=>y.length≤sizeLine∧k=((y.length:Int) != 0)
 |.byt y=>y.size≤sizeLine∧k=((y.size:Int) != 0)
 |.ref p=>(∃xs,SqL K H p xs∧k=!xs.isEmpty)∨(∃xs,SqT K H p xs∧k=!xs.isEmpty)∨∃kvs,H p=some (.dK kvs)∧k=!kvs.isEmpty
 |_=>False
def isEmpty_kv{κ:Type}{kvs:List (κ×V)}{vs:List (κ×Value)}(r:KV kvs vs):(!vs.isEmpty)=!kvs.isEmpty:=by
 cases r<;>rfl
def zht{xs:List V}{a8:Nh}(r:Vals xs a8):(!a8.toArray.isEmpty)=!xs.isEmpty:=by
 cases r<;>simp
def zet:(sizeLine:Nat)<2 ^ 63:=by rw[sizeLine_eq];decide
inductive RTr(K:Nb)(x:V)(H:Hp)(Q:Bool→Hp→Prop):Prop
 |mk (k:Bool) (t:TruV K x H k) (q:Q k H):RTr K x H Q
def tru_ok:TruR X (λx H Q=>RTr X.K x H Q):=by
 intro a6 s σ H x v Q I rx h
 obtain⟨k,e,q⟩:=h
 have hl:=zet
 have hs:sizeLine=16777216:=sizeLine_eq
 cases x with
 |non =>
  cases rx
  have e':k=false:=e
  subst e'
  exact truthy_none ⟨H,I,q⟩
 |bl b =>
  cases rx
  have e':k=b:=e
  subst e'
  exact wpAny_truthy_bool ⟨H,I,q⟩
 |int i =>
  obtain⟨t,rfl⟩:=rx
  have e':k=(i != 0):=e
  subst e'
  exact PySem.P.truthy_int ⟨H,I,q⟩
 |str y =>
  obtain⟨t,rfl⟩:=rx
  obtain⟨hy,e'⟩:y.length≤sizeLine∧k=((y.length:Int) != 0):=e
  subst e'
  exact PySem.P.truthy_str (by lia) ⟨H,I.tok _,q⟩
 |byt y =>
  obtain⟨t,rfl⟩:=rx
  obtain⟨hy,e'⟩:y.size≤sizeLine∧k=((y.size:Int) != 0):=e
  subst e'
  exact PySem.W.truthy_bytes (by lia) ⟨H,I.tok _,q⟩
 | ref p =>
  cases rx
  have e':(∃xs,SqL X.K H p xs∧k=!xs.isEmpty)∨(∃xs,SqT X.K H p xs∧k=!xs.isEmpty)∨∃kvs,H p=some (.dK kvs)∧k=!kvs.isEmpty:=e
  rcases e' with⟨xs,hx,e'⟩ | ⟨xs,hx,e'⟩ | ⟨kvs,hx,e'⟩
  ·subst e'
   obtain⟨a8,r,pl,hz⟩:=I.list hx
   have aa:=r.length
   exact wpAny_truthy_list pl.isList (by simp only[Qq];lia) ⟨H,I.tok _,by rw[zht r];exact q⟩
  ·subst e'
   obtain⟨a8,r,pl,hz⟩:=I.tuple hx
   have aa:=r.length
   exact truthy_tuple pl (by simp only[Qq];lia) ⟨H,I.tok _,by rw[zht r];exact q⟩
  ·subst e'
   obtain⟨hz,hS,vs,r,m⟩:kvs.length≤sizeLine∧(p==sysModules)=false∧∃vs,KV kvs vs∧s.heap.DictOf (zar X.prog X.w) p vs:=I.hok p _ hx
   have aa:kvs.length=vs.length:=Zx r
   exact wpAny_truthy_dict hS m (by lia) ⟨H,I.tok _,by rw[isEmpty_kv r];exact q⟩
 |_=>exact(show False from e).elim
def zf8(ha:PE X a ta)(he:∀whole,isTrue a X.env whole=(do let v ←whole;standAt a.pos;holding [v] (truthy v))) :
  PT X a (λ σ H Q=>ta σ H λx H'=>RTr X.K x H' Q):=by
 intro a6 s σ H Q I h
 exact isTrue_plain (thn (ha a6 s σ H _ I h) λv s1 ⟨x,H1,I1,r1,q1⟩=>tru_ok a6 s1 σ H1 x v Q I1 r1 q1) (he _)
def zfj:OpR X (binaryOp .Add) (λx y H Q=>Ex2 λi j=>Aj4 (x=.str i) (y=.str j) (i.length+j.length≤sizeLine) (Q (.str (i++j)) H)):=by
 intro a6 s σ H x y v u Q I rx ry h
 obtain⟨i,j,rfl,rfl,hz,q⟩:=h
 obtain⟨t,rfl⟩:=rx
 obtain⟨t',rfl⟩:=ry
 exact add_str (λt' tk=>⟨.str (i++j),H,I.tok _,⟨_,rfl⟩,q⟩) hz
def vals1{x:V}{us:Nh}(r:Vals [x] us):∃u,us=[u]∧RelV x u:=by
 cases r with
 |cons r1 r2=>cases r2;exact⟨_,rfl,r1⟩
def vals2{x y:V}{us:Nh}(r:Vals [x,y] us):∃u w',us=[u,w']∧RelV x u∧RelV y w':=by
 cases r with
 |cons r1 r2 =>
  cases r2 with
  |cons r3 r4=>cases r4;exact⟨_,_,rfl,r1,r3⟩
def call_max2(hc:X.calm=true):zce X (.builtin "max") (λxs H Q=>Ex2 λi j=>Aj2 (xs=[.int i,.int j]) (Q (.int (if j>i then j else i)) H)):=by
 intro a6 s σ H xs us Q I r h
 obtain⟨i,j,rfl,q⟩:=h
 obtain⟨u,w',rfl,⟨t,rfl⟩,⟨t',rfl⟩⟩:=vals2 r
 refine max_two_ints (I.ok.hd hc) λh' tk k=>⟨_,H,I.kept k,?_,q⟩
 by_cases hj:j>i
 ·rw[if_pos hj,if_pos hj];exact⟨_,rfl⟩
 ·rw[if_neg hj,if_neg hj];exact⟨_,rfl⟩
def call_min2(hc:X.calm=true):zce X (.builtin "min") (λxs H Q=>Ex2 λi j=>Aj2 (xs=[.int i,.int j]) (Q (.int (if j<i then j else i)) H)):=by
 intro a6 s σ H xs us Q I r h
 obtain⟨i,j,rfl,q⟩:=h
 obtain⟨u,w',rfl,⟨t,rfl⟩,⟨t',rfl⟩⟩:=vals2 r
 refine min_two_ints (I.ok.hd hc) λh' tk k=>⟨_,H,I.kept k,?_,q⟩
 by_cases hj:j<i
 ·rw[if_pos hj,if_pos hj];exact⟨_,rfl⟩
 ·rw[if_neg hj,if_neg hj];exact⟨_,rfl⟩
end
end L2
namespace L2
open PySem PySem.Spec PyProof.Rows
structure ObjM(h:Nn)(x dx C:Nc)(mA:Nf):Prop where
 obj:h.get? x=some (PySem.W.instObj C dx)
 ns:h.Ns1 dx mA
 ne:dx≠x
def lookIn_ns{h:Nn}{dx:Nc}{mA:Nf}(n:h.Ns1 dx mA):∃od,h.get? dx=some od∧∀name,PySem.W.lookIn name od=some (mA name):=by
 obtain⟨o,es,ep,ho,hd,hk,_,hm⟩:=n
 refine⟨o,ho,λname=>?_⟩
 have e:=hm name
 unfold nsFind findBy at e
 rw[←Array.find?_toList]at e
 unfold PySem.W.lookIn
 rw[hd]
 dsimp only
 split
 ·rename_i y q
  rw[q]at e
  exact congrArg some e
 ·rename_i q
  rw[q]at e
  have a:es.toList.any (·.refKey)=false:=by
   rw[List.any_eq_false]
   intro y hy
   obtain⟨z,t,jg⟩:=hk y (Array.mem_toList_iff.mp hy)
   simp[DictEntry.refKey,jg]
  have a':¬es.toList.any (·.refKey)=true:=by rw[a];exact Zh
  rw[if_neg a']
  exact congrArg some e
def ObjM.look{h:Nn}{x dx C:Nc}{mA:Nf}(I:ObjM h x dx C mA):∃od,PySem.W.InstAt h x (PySem.W.instObj C dx) C (some od)∧∀name,PySem.W.lookIn name od=some (mA name) :=
 let⟨od,ho,hl⟩:=lookIn_ns I.ns
 ⟨od,⟨I.obj,rfl,rfl,ho⟩,hl⟩
section
variable{prog:Nj}{w:Nl}{A:Nm}{E:Na}{s:Ng}{K:Nb}{x dx C f:Nc}{mA:Nf}{name:Str}{v:Value}
def get_map{expr:Bool}{Q:Na}(X:K.In s.heap)(I:ObjM s.heap x dx C mA)(hg:PySem.W.plainGet K C name=true)(hh:PySem.W.hasDictIn K C=true)(ha:PySem.W.findIn K (.ref C) name=some none)(hv:mA name=some v)(dI:PySem.W.handedIn v=true)(h:Q v {s with toks:=s.toks+1}) :
  wpAny (model prog w) A (getAttr (.ref x) name expr) Q E s:=by
 obtain⟨od,J,hl⟩:=I.look
 exact PySem.W.get_value X J (PySem.W.plainGet_of hg).1 (PySem.W.findObj_own hh ha rfl (by rw[hl,hv])) dI h
def set_map{ns:Ni}{Q:Unit→Shared→Prop}(X:K.In s.heap)(I:ObjM s.heap x dx C mA)(hs:PySem.W.findIn K (.ref C) "__setattr__" = some (some (.builtin "object.__setattr__")))(hp:PySem.W.plainOver K C=true)(ht:PySem.W.takerIn K C name=some none)(hh:PySem.W.hasDictIn K C=true)(hw:PySem.Within mA ns)(hsz:ns.length≤sizeLine)(h:∀h',ObjM h' x dx C (λy=>if y=name then some v else mA y)→Heap.SameBut dx s.heap h'→Q () {s with heap:=h',toks:=s.toks+2}) :
  wpAny (model prog w) A (setAttr (.ref x) name v) Q E s:=by
 obtain⟨od,J,hl⟩:=I.look
 refine PySem.W.set_plain X J hs (PySem.W.osa_open (s:={s with toks:=s.toks+1}) (r:=none) X J hp ht λb=>?_)
 obtain⟨cd,hc,gD⟩:=PySem.W.any_some hh
 have hx:s.heap.get? x=some ⟨.ref C,some dx,.plain,#[]⟩:=I.obj
 refine wpAny_bind (wpAny_pure (wpAny_bind (wpAny_bind (wpAny_loadPart hx (wpAny_bind (PySem.W.Looks.here (s:={s with toks:=s.toks+1}) (PySem.W.looks_clsIn X hc) ?_))))))
 rw[gD]
 refine wpAny_pure (a:=some dx) (wpAny_bind (wpAny_pure (wpAny_bind ?_)))
 refine wpAny_nsSet1 (s:={s with toks:=s.toks+1}) I.ns λh' bd cE=>?_
 obtain⟨oD,esD,epD,hoD,hdD,hcD⟩:=bd.count (PySem.Within.cons name v hw)
 refine wpAny_bind (wpAny_lookBehind hoD (by rw[hdD];exact pastItsLine_dict (Zj hcD (by rw[Zb];exact zar4 ‹_›))) ?_)
 exact wpAny_pure (h _ ⟨(cE.2 _ (Zo I.ne)).trans I.obj,bd,I.ne⟩ cE)
def make_map{R:Nv}{vs:Nh}{kw:List (Str×Value)}(X:K.In s.heap)(hm:PySem.W.makesIn K C=true)(hi:PySem.W.findIn K (.ref C) "__init__" = some (some (.ref f)))(hf:PySem.W.typeIn K (.ref f)=some (.type "function"))(h:codeAny (model prog w) (A.under (.builtin "type.__call__" ⟨.ref C::vs,kw⟩)) (.call (.ref f) ⟨.ref (s.heap.objs.size+1)::vs,kw⟩) (PySem.W.InitBack (s.heap.objs.size+1) R)
   {s with heap:=(s.heap.push PySem.W.emptyDict).push (PySem.W.instObj C s.heap.objs.size)}) :
  codeAny (model prog w) A (.call (.ref C) ⟨vs,kw⟩) R s:=by
 obtain⟨hh,g,d,t,os⟩:=s
 exact PySem.W.make_core (PySem.W.makes_of X hm) (PySem.W.looks_findIn X hi) (λself=>PySem.W.bind_fn X self hf) (.inl rfl) h
end
def putF(f:Str)(v:V):List (Str×V)→List (Str×V)
 |[]=>[(f,v)]
 |(g,x)::r=>if g=f then(g,v)::r else(g,x)::putF f v r
theorem zg1(f g:Str)(v:V):∀fs:List (Str×V),(putF f v fs).lookup g=if g=f then some v else fs.lookup g
 | []=>by
  show List.lookup g [(f,v)]=_
  by_cases h:g=f
  ·have hb:(g == f)=true:=beq_iff_eq.mpr h
   simp only[List.lookup,hb,if_pos h]
  ·have hb:(g == f)=false:=beq_eq_false_iff_ne.mpr h
   simp only[List.lookup,hb,if_neg h]
 | (k,x)::r=>by
  have ih:=zg1 f g v r
  rw[show putF f v ((k,x)::r)=(if k=f then(k,v)::r else(k,x)::putF f v r) from rfl]
  by_cases hk:k=f
  ·rw [if_pos hk]
   by_cases h:g=k
   ·have hb:(g == k)=true:=beq_iff_eq.mpr h
    simp only[List.lookup,hb,if_pos (h.trans hk)]
   ·have hb:(g == k)=false:=beq_eq_false_iff_ne.mpr h
    simp only[List.lookup,hb,if_neg (λe:g=f=>h (e.trans hk.symm))]
  ·rw [if_neg hk]
   by_cases h:g=k
   ·have hb:(g == k)=true:=beq_iff_eq.mpr h
    simp only[List.lookup,hb,if_neg (λe:g=f=>hk (h.symm.trans e))]
   ·have hb:(g == k)=false:=beq_eq_false_iff_ne.mpr h
    simp only[List.lookup,hb]
    exact ih
theorem zg4(f:Str)(v:V):∀fs:List (Str×V),f∈(putF f v fs).map (·.1)∧∀g,g∈fs.map (·.1)→g∈(putF f v fs).map (·.1)
 |[]=>⟨by simp[putF],λg h=>by simp at h⟩
 | (k,x)::r=>by
  obtain⟨i1,i2⟩:=zg4 f v r
  rw[show putF f v ((k,x)::r)=(if k=f then(k,v)::r else(k,x)::putF f v r) from rfl]
  by_cases hk:k=f
  ·rw [if_pos hk]
   subst hk
   exact⟨by simp,λg h=>by simpa using h⟩
  ·rw [if_neg hk]
   refine⟨?_,λg h=>?_⟩
   ·rw [Qj]
    exact Qg _ i1
   ·rw [Qj] at h ⊢
    rcases Qh.mp h with e | e
    ·exact Qh.mpr (.inl e)
    ·exact Qg _ (i2 g e)
theorem zg2(f:Str)(v:V):∀fs:List (Str×V),(putF f v fs).length≤fs.length+1
 |[]=>by simp[putF]
 |(k,x)::r=>by
  have ih:=zg2 f v r
  rw[show putF f v ((k,x)::r)=(if k=f then(k,v)::r else(k,x)::putF f v r) from rfl]
  by_cases hk:k=f
  ·rw[if_pos hk,Zb,Zb];exact Yd _ _
  ·rw[if_neg hk,Zb,Zb];exact zar4 ‹_›
def RelO.some_of{v:V}{o:Option Value}(r:RelO (some v) o):∃u,o=some u∧RelV v u:=by
 cases o with
 |none=>exact(show False from r).elim
 |some u=>exact⟨u,rfl,r⟩
def handed_of{v:V}{u:Value}(r:RelV v u):PySem.W.handedIn u=true:=by
 cases v with
 |non=>cases(show u=Value.none from r);rfl
 |bl b=>cases(show u=Value.bool b from r);rfl
 |int i=>obtain⟨t,e⟩:=(show ∃t,u=Value.int i t from r);cases e;rfl
 |str x=>obtain⟨t,e⟩:=(show ∃t,u=Value.str x t from r);cases e;rfl
 |byt b=>obtain⟨t,e⟩:=(show ∃t,u=Value.bytes b t from r);cases e;rfl
 |flt b=>obtain⟨t,e⟩:=(show ∃t,u=Value.float b t from r);cases e;rfl
 |ref a=>cases(show u=Value.ref a from r);rfl
 |ty n=>cases(show u=Value.type n from r);rfl
section
variable{P:Nj}{w:Nl}{H H':Hp}{h h':Nn}{a C dx:Nc}{fs fs':List (Str×V)}
def ins_get(hok:HOk P w H h)(e:H a=some (.ins C dx fs)):∃mA,ObjM h a dx C mA∧(∀f,RelO (fs.lookup f) (mA f))∧PySem.Within mA (fs.map (·.1))∧fs.length≤1000∧H dx=some (.own a):=by
 obtain⟨d,z,ne,ob,mA,n,r,q⟩:=(show zbt P w H h a (.ins C dx fs) from hok a _ e)
 exact⟨mA,⟨ob,n,ne⟩,r,q,z,d⟩
end
structure Cls(K:Nb)(C:Nc):Prop where
 pg:PySem.W.plainGet K C Str.empty=true
 hd:PySem.W.hasDictIn K C=true
 po:PySem.W.plainOver K C=true
 sa:PySem.W.findIn K (.ref C) "__setattr__" = some (some (.builtin "object.__setattr__"))
def Cls.get{K:Nb}{C:Nc}(c:Cls K C)(f:Str):PySem.W.plainGet K C f=true:=c.pg
def ze7(K:Nb)(C:Nc)(f:Str):Prop:=PySem.W.findIn K (.ref C) f=some none
def ze7.taker{K:Nb}{C:Nc}{f:Str}(n:ze7 K C f):PySem.W.takerIn K C f=some none:=by
 unfold PySem.W.takerIn
 rw[show PySem.W.findIn K (.ref C) f=some none from n]
 rfl
section
variable{X:Cx}{a6:Nd}{σ:St}{H:Hp}{s:Ng}{a C dx:Nc}{fs:List (Str×V)}{f:Str}{v:V}{A:Nm}{E:Na}
def getattr_ok{b:Bool}{Q:Na}(I:Inv X a6 σ H s)(e:H a=some (.ins C dx fs))(c:Cls X.K C)(n:ze7 X.K C f)(l:fs.lookup f=some v)(h:∀u s',Inv X a6 σ H s'→RelV v u→Q u s'):wpAny (model X.prog X.w) A (getAttr (.ref a) f b) Q E s:=by
 obtain⟨mA,O,r,_,_,_⟩:=ins_get I.hok e
 obtain⟨u,hu,ru⟩:=RelO.some_of (v:=v) (o:=mA f) (by rw[←l];exact r f)
 exact get_map I.kIn O (c.get f) c.hd n hu (handed_of ru) (h u _ (I.tok _) ru)
def setattr_ok{y:V}{u:Value}{Q:Unit→Shared→Prop}(I:Inv X a6 σ H s)(e:H a=some (.ins C dx fs))(c:Cls X.K C)(n:ze7 X.K C f)(hl:fs.length<1000)(ry:RelV y u)(h:∀s',Inv X a6 σ (upd H a (.ins C dx (putF f y fs))) s'→Q () s'):wpAny (model X.prog X.w) A (setAttr (.ref a) f u) Q E s:=by
 obtain⟨mA,O,r,wi,_,ho⟩:=ins_get I.hok e
 have hz:(fs.map (·.1)).length≤sizeLine:=by rw[Qa,sizeLine_eq];lia
 refine set_map I.kIn O c.sa c.po n.taker c.hd wi hz λh' O' sb=>h _ ?_
 have hd:∃o,h'.get? dx=some o:=let⟨o,_,_,e',_⟩:=O'.ns;⟨o,e'⟩
 refine I.write (x:=a) (e:=dx) (by rw[e];exact True.intro) (.inr ho) (λb q hb z=>(sb.2 b hb).trans z) hd ?_
 refine⟨by rw[zaf O.ne];exact ho,?_,O.ne,O'.obj,_,O'.ns,λg=>?_,λg hg=>?_⟩
 ·have:=zg2 f y fs;exact Zj ‹_› ‹_›
 ·show RelO ((putF f y fs).lookup g) (if g=f then some u else mA g)
  rw[zg1]
  by_cases q:g=f
  ·rw[if_pos q,if_pos q];exact ry
  ·rw[if_neg q,if_neg q];exact r g
 ·by_cases q:g=f
  ·rw[q];exact(zg4 f y fs).1
  ·refine (zg4 f y fs).2 g (wi g fun z=>hg ?_)
   show(if g=f then some u else mA g)=none
   rw[if_neg q];exact z
def Inv.made(I:Inv X a6 σ H s):Inv X a6 σ (upd (upd H s.heap.objs.size (.own (s.heap.objs.size+1))) (s.heap.objs.size+1) (.ins C s.heap.objs.size []))
  {s with heap:=(s.heap.push PySem.W.emptyDict).push (PySem.W.instObj C s.heap.objs.size)}:=by
 have e1:(s.heap.push PySem.W.emptyDict).get? s.heap.objs.size=some PySem.W.emptyDict:=Zd s.heap rfl
 have e2:((s.heap.push PySem.W.emptyDict).push (PySem.W.instObj C s.heap.objs.size)).get? (s.heap.objs.size+1)=some (PySem.W.instObj C s.heap.objs.size):=by
  have:=Zd (s.heap.push PySem.W.emptyDict) (o:=PySem.W.instObj C s.heap.objs.size) rfl
  rwa[Uv]at this
 have e3:(s.heap.push PySem.W.emptyDict).Ns s.heap.objs.size (λ_=>none):=⟨PySem.W.emptyDict,#[],_,e1,rfl,(λe he=>absurd he (by simp)),λ_=>rfl⟩
 have I1:=I.laid (a:=s.heap.objs.size) (o:=.own (s.heap.objs.size+1)) (h':=s.heap.push PySem.W.emptyDict) (t':=s.toks) (λb u q=>Qi _ q) (Qf _) ⟨_,e1⟩
 refine I1.laid (a:=s.heap.objs.size+1) (o:=.ins C s.heap.objs.size []) (t':=s.toks) (λb u q=>Qi _ q) (Nat.le_of_eq (Uv _ _)) ?_
 have ne:s.heap.objs.size≠s.heap.objs.size+1:=Zr (Wg _)
 refine⟨by rw[zaf ne,zac],Zn _,ne,e2,λ_=>none,(Heap.Ns1.of_empty e3).at λo q=>Qi _ q,λ_=>True.intro,λy hy=>absurd rfl hy⟩
def attr_of{prog:Nj}{w:Nl}{env:Env}{e:Expr}{f:Str}{pos:Pos}{s:Ng}{Q:Na}(hb:attributeBase e f env (eval e env)=eval e env)(h:wpAny (model prog w) A (eval e env) (λo s₁=>wpAny (model prog w) A (getAttr o f true) Q E s₁) E s):wpAny (model prog w) A (eval (.Attribute e f pos) env) Q E s :=
 Attribute_any_ h (by rw[arm_eval_Attribute,hb])
end
inductive RFld(K:Nb)(f:Str)(x:V)(H:Hp)(Q:VK):Prop
 |mk (a C dx:Nc) (fs:List (Str×V)) (v:V) (e:x=.ref a) (h:H a=some (.ins C dx fs)) (c:Cls K C) (n:ze7 K C f) (l:fs.lookup f=some v) (q:Q v H):RFld K f x H Q
def tFld(K:Nb)(ta:TE)(f:Str):TE:=λ σ H Q=>ta σ H λx H1=>RFld K f x H1 Q
inductive RFs(K:Nb)(f:Str)(x y:V)(H:Hp)(N:Hp→Prop):Prop
 |mk (a C dx:Nc) (fs:List (Str×V)) (e:x=.ref a) (h:H a=some (.ins C dx fs)) (c:Cls K C) (n:ze7 K C f) (l:fs.length<1000) (q:N (upd H a (.ins C dx (putF f y fs)))):RFs K f x y H N
def sFld(K:Nb)(ta tv:TE)(f:Str):TS:=λD σ H=>tv σ H λy H1=>ta σ H1 λx H2=>RFs K f x y H2 (D.nx σ)
section
variable{X:Cx}{o e value:Expr}{f:Str}{pos bh tpos:Pos}{ta tv:TE}
def pe_fld(he:PE X e ta)(hb:attributeBase e f X.env (eval e X.env)=eval e X.env):PE X (.Attribute e f pos) (tFld X.K ta f):=by
 intro a6 s σ H Q I h
 refine attr_of hb (thn (he a6 s σ H _ I h) λu s1 ⟨x,H1,I1,rx,a,C,dx,fs,v,ex,ea,c,n,l,q⟩=>?_)
 subst ex
 obtain rfl:u=Value.ref a:=rx
 exact getattr_ok I1 ea c n l λu' s2 I2 ru=>⟨v,H1,I2,ru,q⟩
def ps_fld(ha:PE X o ta)(hv:PE X value tv)(hs:swapsWith value (some (.Attribute o f bh)) pos.line X.env=pure false):PS X (.Assign [.Attribute o f bh] value pos) (sFld X.K ta tv f):=by
 intro a6 s σ H D I h
 refine plainObj_wpAny_Assign_Attribute (thn (hv a6 s σ H _ I h) λu s1 ⟨y,H1,I1,ry,q⟩=>thn (ha a6 s1 σ H1 _ I1 q) λov s2 ⟨x,H2,I2,rx,a,C,dx,fs,ex,ea,c,n,l,q2⟩=>?_) hs
 subst ex
 obtain rfl:ov=Value.ref a:=rx
 exact setattr_ok I2 ea c n l ry λs3 I3=>⟨σ,_,I3,q2⟩
end
section
variable{X:Cx}{a6:Nd}{σ:St}{H:Hp}{s:Ng}{A:Nm}{E:Na}{Q:Na}{c:Value}{b:Bool}
end
end L2
namespace L2
open PySem PySem.Spec PyProof.Rows
structure Room(k:Nat)(A:Nm):Prop where
 hd:A.handled=none
 dp:A.depth+3*k+5<recursionLimit
 un:A.units+16*k+200<cLine
def Room.mono{j k:Nat}{A:Nm}(r:Room k A)(h:j≤k):Room j A:=⟨r.hd,by have:=r.dp;lia,by have:=r.un;lia⟩
def Room.deeper{k:Nat}{A:Nm}(r:Room (k+1) A)(env:Env):Room k (A.deeper env) :=
 ⟨r.hd,by have:=r.dp;show A.depth+1+3*k+5<_;lia,by have:=r.un;show A.units+3+16*k+200<_;lia⟩
def make_depth{A:Nm}{C:Nc}{us:Nh}{kw:List (Str×Value)}:(A.under (.builtin "type.__call__" ⟨.ref C::us,kw⟩)).depth=A.depth+1:=by
 first | rfl | simp[Around.under,Code.weight,Code.isCreation,Code.isGuard,Code.isCaller,Code.frames,Code.isFrame,guardIds]
def make_units{A:Nm}{C:Nc}{us:Nh}{kw:List (Str×Value)}:(A.under (.builtin "type.__call__" ⟨.ref C::us,kw⟩)).units=A.units+1:=by
 first | rfl | simp[Around.under,Code.cUnits,Code.frames,Code.isFrame]
def Room.make{k:Nat}{A:Nm}(r:Room (k+1) A)(C:Nc)(us:Nh)(kw:List (Str×Value)):Room k (A.under (.builtin "type.__call__" ⟨.ref C::us,kw⟩)) :=
 ⟨r.hd,by have:=r.dp;rw[make_depth];lia,by have:=r.un;rw[make_units];lia⟩
def Room.depth{k:Nat}{A:Nm}(r:Room k A):A.depth<recursionLimit:=by have:=r.dp;lia
def Room.units{k:Nat}{A:Nm}(r:Room k A):A.units+64<cLine:=by have:=r.un;lia
def tNil:TA:=λ_ H Q=>Q [] H
def tCons(ta:TE)(tr:TA):TA:=λ σ H Q=>ta σ H λx H1=>tr σ H1 λxs H2=>Q (x::xs) H2
section
variable{X:Cx}{e:Expr}{es:Nq}{te:TE}{t:TA}{pos:Pos}
def zad:PA X [] tNil:=λ_ _ _ _ H Q I h=>Calls.spliced_nil ⟨[],H,I,.nil,h⟩
def zaa(ha:PE X e te)(hr:PA X es t)(hs:starEach (e::es) X.env=(false,eval e X.env)::starEach es X.env:=by rfl):PA X (e::es) (tCons te t):=by
 intro pos a6 s σ H Q I h
 rw[hs]
 show wpAny _ _ (spliced ((false,eval e X.env)::backTo pos (starEach es X.env))) _ _ s
 refine Calls.spliced_cons (thn (ha a6 s σ H _ I h) λu s1 ⟨x,H1,I1,r1,q1⟩=>?_)
 exact thn (hr pos a6 s1 σ H1 _ I1 q1) λus s2 ⟨xs,H2,I2,r2,q2⟩=>⟨x::xs,H2,I2,.cons r1 r2,q2⟩
def tTup(t:TA):TE:=λ σ H Q=>t σ H λxs H1=>xs.length≤sizeLine∧∀p,H1 p=none→Q (.ref p) (upd H1 p (.tup xs))
def tLst(t:TA):TE:=λ σ H Q=>t σ H λxs H1=>xs.length≤sizeLine∧∀p,H1 p=none→Q (.ref p) (upd H1 p (.lst xs))
def zdl{x1}(h:PA X es t):PE X (.Tuple es x1 pos) (tTup t):=by
 intro a6 s σ H Q I hq
 refine wpAny_Tuple_spliced (thn (h pos a6 s σ H _ I hq) λus s1 ⟨xs,H1,I1,r,z,q⟩=>⟨by rw[←r.length];exact z,?_⟩)
 have hf:H1 s1.heap.objs.size=none:=I1.hok.fresh (Qf _)
 refine⟨.ref s1.heap.objs.size,upd H1 s1.heap.objs.size (.tup xs),I1.laid (t':=s1.toks) (λb u e=>Qi _ e) (Qf _) ?_,rfl,q _ hf⟩
 exact⟨z,us,r,⟨_,Zd _ rfl,rfl,_,rfl⟩⟩
def zbi(h:PA X es t):PE X (.List es pos) (tLst t):=by
 intro a6 s σ H Q I hq
 refine wpAny_List_spliced (thn (h pos a6 s σ H _ I hq) λus s1 ⟨xs,H1,I1,r,z,q⟩=>⟨by rw[←r.length];exact z,?_⟩)
 have hf:H1 s1.heap.objs.size=none:=I1.hok.fresh (Qf _)
 refine⟨.ref s1.heap.objs.size,upd H1 s1.heap.objs.size (.lst xs),I1.laid (t':=s1.toks) (λb u e=>Qi _ e) (Qf _) ?_,rfl,q _ hf⟩
 exact⟨z,us,0,r,Zd _ rfl⟩
end
abbrev Sp:=List V→Hp→VK→XK→Prop
abbrev CXT:=List Env→Hp→Shared→XK→Value→Shared→Prop
structure Env0(P:Nj)(w:Nl)(K:Nb)(mg:Nf)(base:Nn)(A:Nm)(outer:List Env)(s:Ng)(H:Hp):Prop where
 frames:A.frames=some outer
 mod:Mod K mg base
 bs:∀b o,base.get? b=some o→s.heap.get? b=some o∧H b=none
 bsz:base.objs.size≤s.heap.objs.size
 funs:s.heap.FunFrames base outer
 frf:∀b∈frs outer,H b=none
 hok:HOk P w H s.heap
 bare:AllBare s.gens
inductive CE(outer:List Env)(P:Nj)(w:Nl)(H:Hp)(s:Ng)(Q:VK)(u:Value)(s':Ng):Prop
 |mk (v:_) (H':_) (h0:s'.os=s.os) (h1:AllBare s'.gens) (h2:Un (frs outer) [] H H' s.heap s'.heap) (h3:HOk P w H' s'.heap) (h4:RelV v u) (h5:Q v H'):CE outer P w H s Q u s'
def CR(CX:CXT)(outer:List Env)(P:Nj)(w:Nl)(H:Hp)(s:Ng)(Q:VK)(E:XK)(r:Result)(s':Ng):Prop :=
 match r with
 |.ok (.ret u)=>CE outer P w H s Q u s'
 |.ok _=>False
 |.error e=>CX outer H s E e s'
structure FnOk(P:Nj)(w:Nl)(K:Nb)(mg:Nf)(base:Nn)(CX:CXT)(k:Nat)(f:Nc)(fd:Nt)(ps:Ni)(sp:Sp):Prop where
 len:∀vs H Q E,sp vs H Q E→vs.length=ps.length
 run:∀(A:Nm) (outer:List Env) (s:Ng) (H:Hp) (args:Args) (us:Nh) (vs:List V) (Q:VK) (E:XK),Room k A→Env0 P w K mg base A outer s H→BindsTo s fd args (ps.zip us)→Vals vs us→sp vs H Q E →
  codeAny (model P w) A (.call (.ref f) args) (CR CX outer P w H s Q E) s
def FnOk.imp{P:Nj}{w:Nl}{K:Nb}{mg:Nf}{base:Nn}{CX:CXT}{k:Nat}{f:Nc}{fd:Nt}{ps:Ni}{sp sp':Sp}(F:FnOk P w K mg base CX k f fd ps sp)(h:∀vs H Q E,sp' vs H Q E→sp vs H Q E):FnOk P w K mg base CX k f fd ps sp' :=
 ⟨λvs H Q E q=>F.len vs H Q E (h _ _ _ _ q),λA outer s H args us vs Q E hr he hb hv hs=>F.run A outer s H args us vs Q E hr he hb hv (h _ _ _ _ hs)⟩
def Env0.make{P:Nj}{w:Nl}{K:Nb}{mg:Nf}{base:Nn}{A:Nm}{outer:List Env}{s:Ng}{H:Hp}(e:Env0 P w K mg base A outer s H)(C:Nc)(us:Nh)(kw:List (Str×Value)) :
  Env0 P w K mg base (A.under (.builtin "type.__call__" ⟨.ref C::us,kw⟩)) outer s H:=⟨by first | exact e.frames | (simpa[Around.under,Code.envs,Code.isFrame,pushEnvs] using e.frames),e.mod,e.bs,e.bsz,e.funs,e.frf,e.hok,e.bare⟩
section
variable{X:Cx}{a6:Nd}{σ:St}{H:Hp}{s s':Ng}
def Inv.env0(I:Inv X a6 σ H s):Env0 X.prog X.w X.K X.mg X.base X.A X.stack s H :=
 ⟨I.ok.frames,I.ok.mod,I.bs,Zj I.ok.bsz I.sz,I.stack,I.stkFree,I.hok,I.bare⟩
def Inv.after{Q:VK}{u:Value}(I:Inv X a6 σ H s)(h:CE X.stack X.prog X.w H s Q u s'):EP X a6 σ Q u s':=by
 obtain⟨v,H',os,bare,un,hok,r,q⟩:=h
 obtain⟨hh,g,d,t,oO⟩:=s'
 obtain rfl:oO=s.os:=os
 exact⟨v,H',I.call (h':=hh) (g':=g) (d':=d) (t':=t) (ch:=[]) un hok bare (λb z=>absurd z (by simp)),r,q⟩
end
def tCall(sp:Sp)(dvs:List V)(E:XK)(t:TA):TE:=λ σ H Q=>t σ H λvs H1=>sp (vs++dvs) H1 Q E
def tMake(C:Nc)(sp:Sp)(dvs:List V)(E:XK)(t:TA):TE:=λ σ H Q=>t σ H λvs H1=>∀x dx,H1 x=none→H1 dx=none→dx≠x →
 sp (.ref x::(vs++dvs)) (upd (upd H1 dx (.own x)) x (.ins C dx [])) (λv H2=>v=.non∧Q (.ref x) H2) E
def Binds(K:Nb)(fd:Nt)(ps:Ni)(ds:Nh):Prop :=
 ∀(s:Ng) (us:Nh),K.In s.heap→(us++ds).length=ps.length→BindsTo s fd ⟨us,[]⟩ (ps.zip (us++ds))
def Binds.all{K:Nb}{fd:Nt}{ps:Ni}(h:∀us:List Value,us.length=ps.length→bindArgs fd ⟨us,[]⟩=pure (ps.zip us)):Binds K fd ps []:=λs us _ hl=>by
 rw[Zy]at hl ⊢
 exact .of_eq (h us hl)
def Passes(CX:CXT)(X:Cx)(E:XK):Prop:=∀(a6:Nd) (σ:St) (H:Hp) (s:Ng) (e:Value) (s':Ng),Inv X a6 σ H s→CX X.stack H s E e s'→X.xe e s'
section
variable{X:Cx}{CX:CXT}{k:Nat}{f C:Nc}{fd:Nt}{ps:Ni}{sp:Sp}{dvs:List V}{ds:Nh}{E:XK}{x m:Str}{p pos apos:Pos}{e o:Expr}{es:Nq}{ta:TE}{t:TA}
def run_fn{a6:Nd}{σ:St}{H:Hp}{s:Ng}{Q:VK}{us:Nh}{vs:List V}(F:FnOk X.prog X.w X.K X.mg X.base CX k f fd ps sp)(hr:Room k X.A)(hb:Binds X.K fd ps ds)(hd:Vals dvs ds)(hx:Passes CX X E)(I:Inv X a6 σ H s)(r:Vals vs us)(h:sp (vs++dvs) H Q E):wpAny (model X.prog X.w) X.A (call (.ref f) us) (EP X a6 σ Q) X.xe s:=by
 have r2:Vals (vs++dvs) (us++ds):=r.append hd
 have hl:(us++ds).length=ps.length:=by rw[←r2.length];exact F.len _ _ _ _ h
 refine wpAny_call (codeAny_mono (F.run X.A X.stack s H ⟨us,[]⟩ (us++ds) (vs++dvs) Q E hr I.env0 (hb s us I.kIn hl) r2 h) λr s' hq=>?_)
 cases r with
 |error e=>exact hx a6 σ H s e s' I hq
 |ok fl =>
  cases fl with
  |ret u=>exact I.after hq
  |next=>exact False.elim hq
  |brk=>exact False.elim hq
  |cont=>exact False.elim hq
def zam(F:FnOk X.prog X.w X.K X.mg X.base CX k f fd ps sp)(hr:Room k X.A)(hg:Gl X x)(hm:X.mg x=some (.ref f))(hk:PySem.W.keepIn X.K (.ref f)=true)(hb:Binds X.K fd ps ds)(hd:Vals dvs ds)(hx:Passes CX X E)(ha:PA X (e::es) t)(gC:(x==("__debug__" : Str))=false:=by decide)(he:starEach (e::es) X.env=(false,eval e X.env)::starEach es X.env:=by rfl)(cp:(backTo pos (starEach es X.env)).any (·.1)=false:=by rfl) :
  PE X (.Call (.Name x p) (e::es) [] pos) (tCall sp dvs E t):=by
 intro a6 s σ H Q I h
 refine wpAny_Call_Name_kw (ld_glob I hg hm ?_ gC)
 refine PySem.W.callWith_K (h₀:=X.base) I.ok.mod.kin hk (thn (ha pos a6 s σ H _ I h) λus s1 ⟨vs,H1,I1,r,q⟩=>⟨I1.kIn,?_⟩) he cp
 exact run_fn F hr hb hd hx I1 r q
structure Mk(K:Nb)(C f:Nc):Prop where
 makes:PySem.W.makesIn K C=true
 init:PySem.W.findIn K (.ref C) "__init__" = some (some (.ref f))
 fn:PySem.W.isFn K (.ref f)=true
 kp:PySem.W.keepIn K (.ref C)=true
def run_make{a6:Nd}{σ:St}{H:Hp}{s:Ng}{Q:VK}{us:Nh}{vs:List V}(M:Mk X.K C f)(F:FnOk X.prog X.w X.K X.mg X.base CX k f fd ps sp)(hr:Room (k+1) X.A)(hb:Binds X.K fd ps ds)(hd:Vals dvs ds)(hx:Passes CX X E)(I:Inv X a6 σ H s)(r:Vals vs us)(h:∀x dx,H x=none→H dx=none→dx≠x→sp (.ref x::(vs++dvs)) (upd (upd H dx (.own x)) x (.ins C dx [])) (λv H2=>v=.non∧Q (.ref x) H2) E) :
  wpAny (model X.prog X.w) X.A (call (.ref C) us) (EP X a6 σ Q) X.xe s:=by
 have hq:=h (s.heap.objs.size+1) s.heap.objs.size (I.hok.fresh (Kh _)) (I.hok.fresh (Qf _)) (Zr (Wg _))
 have I2:=Inv.made (C:=C) I
 have r2:Vals (V.ref (s.heap.objs.size+1)::(vs++dvs)) (Value.ref (s.heap.objs.size+1)::(us++ds)):=.cons rfl (r.append hd)
 have hl:(Value.ref (s.heap.objs.size+1)::us++ds).length=ps.length:=by
  have e:=r2.length
  rw[F.len _ _ _ _ hq]at e
  exact e.symm
 refine wpAny_call (make_map (f:=f) I.kIn M.makes M.init (beq_iff_eq.mp M.fn) (codeAny_mono (F.run _ X.stack _ _ ⟨Value.ref (s.heap.objs.size+1)::us,[]⟩ (Value.ref (s.heap.objs.size+1)::(us++ds)) _ _ E (hr.make C us [])
  (I2.env0.make C us []) (hb _ (Value.ref (s.heap.objs.size+1)::us) I2.kIn hl) r2 hq) λr s' gi=>?_))
 cases r with
 |error e=>exact hx a6 σ _ _ e s' I2 gi
 | ok fl =>
  cases fl with
  |ret u =>
   obtain⟨v,H',I3,rv,ev,q3⟩:=I2.after gi
   subst ev
   exact⟨rv,⟨V.ref (s.heap.objs.size+1),H',I3,rfl,q3⟩⟩
  |next=>exact False.elim gi
  |brk=>exact False.elim gi
  |cont=>exact False.elim gi
def pe_make(M:Mk X.K C f)(F:FnOk X.prog X.w X.K X.mg X.base CX k f fd ps sp)(hr:Room (k+1) X.A)(hg:Gl X x)(hm:X.mg x=some (.ref C))(hb:Binds X.K fd ps ds)(hd:Vals dvs ds)(hx:Passes CX X E)(ha:PA X (e::es) t)(gC:(x==("__debug__" : Str))=false:=by decide)(he:starEach (e::es) X.env=(false,eval e X.env)::starEach es X.env:=by rfl)(cp:(backTo pos (starEach es X.env)).any (·.1)=false:=by rfl) :
  PE X (.Call (.Name x p) (e::es) [] pos) (tMake C sp dvs E t):=by
 intro a6 s σ H Q I h
 refine wpAny_Call_Name_kw (ld_glob I hg hm ?_ gC)
 refine PySem.W.callWith_K (h₀:=X.base) I.ok.mod.kin M.kp (thn (ha pos a6 s σ H _ I h) λus s1 ⟨vs,H1,I1,r,q⟩=>⟨I1.kIn,?_⟩) he cp
 exact run_make M F hr hb hd hx I1 r q
end
section
variable{X:Cx}{CX:CXT}{k:Nat}{f C:Nc}{fd:Nt}{ps ks:Ni}{sp:Sp}{E:XK}{x m:Str}{p pos apos kpos:Pos}{e o:Expr}{es:Nq}{kws:List Keyword}{te ta:TE}{t tk:TA}{nm:Option Str}
variable{g:List Value→List Value→List Value}{gV:List V→List V→List V}
end
structure zas(N P:Ni)(sc:Scope):Prop where
 kind:sc.kind=.function
 co:sc.isCoroutine=false
 gen:sc.isGenerator=false
 nd:N.Nodup
 pre:N.take P.length=P
 par:∀x∈P,sc.names.lookup x=some .local∨sc.names.lookup x=some .cell
 nofree:∀y∈sc.names,y.2≠.free
theorem bindL_out{kindOf:Str→Option NameKind}{x:Str}:∀{binds:List (Str×Value)} {m:Nf},(∀v,(x,v)∉binds)→bindL kindOf binds m x=m x
 |[],_,_=>rfl
 | (n,v)::r,m,h=>by
  unfold bindL
  rw[bindL_out λw hw=>h w (Qg _ hw)]
  split
  ·have:x≠n:=by rintro rfl;exact h v Qd
   simp[this]
  ·rfl
theorem bindC_out{kindOf:Str→Option NameKind}{x:Str}:∀{binds:List (Str×Value)} {m:Nf},(∀v,(x,v)∉binds)→bindC kindOf binds m x=m x
 |[],_,_=>rfl
 | (n,v)::r,m,h=>by
  unfold bindC
  rw[bindC_out λw hw=>h w (Qg _ hw)]
  split
  ·rfl
  ·have:x≠n:=by rintro rfl;exact h v Qd
   simp[this]
theorem bindL_get{kindOf:Str→Option NameKind}{x:Str}{v:Value}:∀{P:Ni} {vs:Nh} {i:Nat} {m:Nf},P.Nodup→P[i]?=some x→vs[i]?=some v→kindOf x=some .local →
  bindL kindOf (P.zip vs) m x=some v
 |[],_,_,_,_,h,_,_=>by simp at h
 |_::_,[],_,_,_,_,h,_=>by simp at h
 |p::P,w::vs,0,m,nd,h1,h2,hk=>by
  simp at h1 h2;subst h1;subst h2
  show bindL kindOf ((p,w)::P.zip vs) m p=_
  unfold bindL
  rw[bindL_out λv hv=>(Za.mp nd).1 (List.of_mem_zip hv).1,if_pos hk]
  simp
 |p::P,w::vs,i+1,m,nd,h1,h2,hk=>by
  show bindL kindOf ((p,w)::P.zip vs) m x=_
  unfold bindL
  exact bindL_get (i:=i) (Za.mp nd).2 (by simpa using h1) (by simpa using h2) hk
theorem bindC_get{kindOf:Str→Option NameKind}{x:Str}{v:Value}:∀{P:Ni} {vs:Nh} {i:Nat} {m:Nf},P.Nodup→P[i]?=some x→vs[i]?=some v→kindOf x≠some .local →
  bindC kindOf (P.zip vs) m x=some v
 |[],_,_,_,_,h,_,_=>by simp at h
 |_::_,[],_,_,_,_,h,_=>by simp at h
 |p::P,w::vs,0,m,nd,h1,h2,hk=>by
  simp at h1 h2;subst h1;subst h2
  show bindC kindOf ((p,w)::P.zip vs) m p=_
  unfold bindC
  rw[bindC_out λv hv=>(Za.mp nd).1 (List.of_mem_zip hv).1,if_neg hk]
  simp
 |p::P,w::vs,i+1,m,nd,h1,h2,hk=>by
  show bindC kindOf ((p,w)::P.zip vs) m x=_
  unfold bindC
  exact bindC_get (i:=i) (Za.mp nd).2 (by simpa using h1) (by simpa using h2) hk
def start(N:Ni)(vs:List V):St:=vs.map some++List.replicate (N.length-vs.length) none
def cxOf(CX:CXT)(P:Nj)(w:Nl)(K:Nb)(mg:Nf)(base:Nn)(N:Ni)(qual:Str)(scope:Scope)(f:Nc)(cd:Value)(A:Nm)(outer:List Env)(s:Ng)(H:Hp)(E:XK):Cx where
 prog:=P
 w:=w
 K:=K
 mg:=mg
 base:=base
 A:=A.deeper (envOfC qual scope s.heap.objs.size f cd)
 N:=N
 s₀:=s
 H₀:=H
 env:=envOfC qual scope s.heap.objs.size f cd
 outer:=outer
 stack:=envOfC qual scope s.heap.objs.size f cd::outer
 ex:=[]
 calm:=true
 fn:=λ_=>true
 pn:=[]
 xe:=λe s'=>wpAny (model P w) (A.deeper (envOfC qual scope s.heap.objs.size f cd)) (leaving (envOfC qual scope s.heap.objs.size f cd) e) (λ_ kK=>CX outer H s E e kK) (λe' kK=>CX outer H s E e' kK) s'
def cell_has{sc:Scope}{n:Nat}{x:Str}(h:sc.names.lookup x=some .cell):∃c,(cellsFrom n sc.names []).lookup x=some c:=by
 have q:=PySem.W.cellsFrom_some sc.names n [] (.inl h)
 exact Option.isSome_iff_exists.mp q
def inv_start{CX:CXT}{P:Nj}{w:Nl}{K:Nb}{mg:Nf}{base:Nn}{N ps:Ni}{qual:Str}{scope:Scope}{f:Nc}{cd:Value}{A:Nm}{outer:List Env}{s s1:Ng}{H:Hp}{E:XK}{us:Nh}{vs:List V}(S:zas N ps scope)(hd:A.handled=none)(e0:Env0 P w K mg base A outer s H)(hl:vs.length=ps.length)(r:Vals vs us)(x:InCallC s s.heap.objs.size (bindL (envOfC qual scope s.heap.objs.size f cd).kindOf (ps.zip us) λ_=>none) (cellsFrom (s.heap.objs.size+1) scope.names []) (bindC (envOfC qual scope s.heap.objs.size f cd).kindOf (ps.zip us) λ_=>none) s1) :
  Inv (cxOf CX P w K mg base N qual scope f cd A outer s H E) [] (start N vs) H s1:=by
 have cp:ps.length≤N.length:=by have:=congrArg List.length S.pre;rw[Zf]at this;lia
 obtain⟨h1,tk,rfl,hk⟩:=x.done
 have noA:∀b:Addr,b∉(cxOf CX P w K mg base N qual scope f cd A outer s H E).ex:=λb z=>absurd (show b∈([]:List Addr) from z) (by simp)
 refine⟨⟨e0.mod,S.kind,rfl,rfl,Qf _,λy z c h1 h2=>?_,λy hy=>?_,λy c _ h=>?_,λ_=>hd,Around.frames_deeper e0.frames,.inr ⟨rfl,rfl⟩,λb z=>absurd z (noA b),e0.bs,e0.bsz,λb _ _=>noA b,λb z=>absurd z (noA b),e0.funs,e0.frf⟩,
  rfl,e0.bare,Un.kept hk,⟨_,x.toInCall.ns,λi y v h1 h2 h3=>?_⟩,λy c h=>⟨_,x.cell y c h⟩,e0.hok.fresh (Qf _),λy c h=>?_,λp hp=>absurd (show p∈([]:List (Addr×Obj)) from hp) (by simp),e0.hok.kept hk,?_⟩
 ·exact name_of_addr x.apart (Wy h1) (Wy h2)
 ·have hy:scope.names.lookup y=some .cell∨scope.names.lookup y=some .free:=hy
  rcases hy with hy | hy
  ·exact cell_has hy
  ·exact absurd rfl (S.nofree _ (Wy hy))
 ·exact Zt (x.above y c (Wy h))
 ·have hi:i < vs.length:=by
   unfold start at h2
   by_cases hi:i<vs.length
   ·exact hi
   ·rw [Uo (by simpa using hi)] at h2
    rw[List.getElem?_replicate]at h2
    split at h2<;>cases h2
  have ha:vs[i]?=some v:=by
   unfold start at h2
   rw[Xf (by simpa using hi),Qu]at h2
   cases e:vs[i]? with
   |none=>rw[e]at h2;cases h2
   |some a=>rw[e]at h2;cases h2;rfl
  obtain⟨u,hu,rv⟩:=r.get ha
  have hp:ps[i]?=some y:=by
   rw[←S.pre,List.getElem?_take_of_lt (by exact zar7 ‹_› ‹_›)];exact h1
  have ndP:ps.Nodup:=by rw[←S.pre];exact S.nd.sublist (Jp _ _)
  refine⟨u,rv,?_⟩
  rcases S.par y (Yq hp) with k | k
  ·exact .inl ⟨k,bindL_get ndP hp hu k⟩
  ·obtain ⟨c,e⟩:=cell_has (n:=s.heap.objs.size+1) k
   refine .inr ⟨.inl k,c,e,?_⟩
   have q:=x.cell y c e
   rw[bindC_get ndP hp hu (by show scope.names.lookup y≠_;rw[k];decide)]at q
   exact q
 ·exact e0.hok.fresh (Zt (x.above y c (Wy h)))
 ·unfold start
  show _=N.length
  rw[Ql,Qa,Jo]
  lia
def fn_of{CX:CXT}{P:Nj}{w:Nl}{K:Nb}{mg:Nf}{base:Nn}{k:Nat}{f:Nc}{name qual:Str}{params:Arguments}{body:List Stmt}{scope:Scope}{dV kV doc pm cdv ct oc:Value}{an od:Option Addr}{osl:Array (Option Value)}{N ps:Ni}{sp:Sp}(lk:K.lookup f=some ⟨oc,od,.func (PySem.W.fnOf name qual params body scope dV kV doc pm an cdv ct),osl⟩)(aY:PySem.W.codeIn K cdv qual=true)(S:zas N ps scope)(len:∀vs H Q E,sp vs H Q E→vs.length=ps.length)(cz:∀ (A:Nm) (outer:List Env) (s:Ng) (H:Hp) (vs:List V) (Q:VK) (E:XK),Room k (A.deeper (envOfC qual scope s.heap.objs.size f cdv))→sp vs H Q E →
   ∃t,PSs (cxOf CX P w K mg base N qual scope f cdv A outer s H E) body t∧t {nx:=λ_ H'=>Q .non H',rt:=Q} (start N vs) H) :
  FnOk P w K mg base CX (k+1) f (PySem.W.fnOf name qual params body scope dV kV doc pm an cdv ct) ps sp:=by
 refine⟨len,λA outer s H args us vs Q E hr e0 hb r bH=>?_⟩
 have hl:=len _ _ _ _ bH
 have KX:K.In s.heap:=e0.mod.kin.keeps λb o e=>(e0.bs b o e).1
 have lim:s.heap.NoLimit:=e0.mod.nolimit.keeps λb o e=>(e0.bs b o e).1
 have d8:∀y∈ps.zip us,scope.names.lookup y.1=some .local∨(scope.names.lookup y.1=some .cell∧((cellsFrom (s.heap.objs.size+1) scope.names []).lookup y.1).isSome=true):=λ⟨n,v⟩ hy=>by
  rcases S.par n (List.of_mem_zip hy).1 with q | q
  ·exact .inl q
  ·exact .inr ⟨q,PySem.W.cellsFrom_some _ _ _ (.inl q)⟩
 refine codeAny_call_function hr.depth (KX _ _ lk) rfl S.co S.gen rfl (PySem.W.codeRec_of KX aY) (hb _ _ _ _ ?_)
 refine wpAny_newFunctionEnv_cells S.kind d8 λenv he s1 x=>?_
 subst he
 refine⟨lim.keeps x.toInCall.keep,codeAny_func ?_⟩
 obtain⟨t,ht,hq⟩:=cz A outer s H vs Q E (hr.deeper _) bH
 have I:Inv (cxOf CX P w K mg base N qual scope f cdv A outer s H E) [] (start N vs) H s1:=inv_start S hr.hd e0 hl r x
 refine wpAny_mono (ht [] s1 (start N vs) H _ I hq) (λfl s' hs=>?_) λe s' hs=>hs
 have fin:∀{σ':St} {H':Hp} {v:V} {u:Value},Inv (cxOf CX P w K mg base N qual scope f cdv A outer s H E) [] σ' H' s'→RelV v u→Q v H'→CE outer P w H s Q u s' :=
  λ{σ' H' v u} J rv q=>⟨v,H',J.os,J.bare,J.base,J.hok,rv,q⟩
 cases fl with
 |ret u =>
  obtain⟨v,σ',H',J,rv,q⟩:=hs
  exact fin J rv q
 |next =>
  obtain⟨σ',H',J,q⟩:=hs
  exact fin (v:=V.non) (u:=Value.none) J rfl q
 |brk =>
  obtain⟨_,_,_,q⟩:=hs
  exact False.elim q
 |cont =>
  obtain⟨_,_,_,q⟩:=hs
  exact False.elim q
end L2
namespace L2
open PySem PySem.Spec PyProof.Rows
section
variable{X:Cx}{x:Str}{p pos:Pos}{e:Expr}{es:Nq}{t:TA}{id T:String}{r:List V→Hp→VK→Prop}
def tCB(r:List V→Hp→VK→Prop)(t:TA):TE:=λ σ H Q=>t σ H λvs H1=>r vs H1 Q
def zaj(hc:zce X (.builtin id) r)(hg:Gl X x)(hm:X.mg x=none)(hv:bootBuiltins x=some (.builtin id))(ha:PA X (e::es) t)(hn:x ≠ "__name__" := by decide)(gC:(x==("__debug__" : Str))=false:=by decide)(he:starEach (e::es) X.env=(false,eval e X.env)::starEach es X.env:=by rfl)(cp:(backTo pos (starEach es X.env)).any (·.1)=false:=by rfl):PE X (.Call (.Name x p) (e::es) [] pos) (tCB r t):=by
 intro a6 s σ H Q I h
 refine wpAny_Call_Name_kw (ld_blt I hg hm hv ?_ hn gC)
 exact PyProof.Rows.callWith_builtin1 (thn (ha pos a6 s σ H _ I h) λus s1 ⟨vs,H1,I1,r1,q1⟩=>hc a6 s1 σ H1 vs us Q I1 r1 q1) he cp
def zc6(hc:zce X (.type T) r)(hg:Gl X x)(hm:X.mg x=none)(hv:bootBuiltins x=some (.type T))(ha:PA X (e::es) t)(hn:x ≠ "__name__" := by decide)(gC:(x==("__debug__" : Str))=false:=by decide)(he:starEach (e::es) X.env=(false,eval e X.env)::starEach es X.env:=by rfl)(cp:(backTo pos (starEach es X.env)).any (·.1)=false:=by rfl):PE X (.Call (.Name x p) (e::es) [] pos) (tCB r t):=by
 intro a6 s σ H Q I h
 refine wpAny_Call_Name_kw (ld_blt I hg hm hv ?_ hn gC)
 exact Xc (thn (ha pos a6 s σ H _ I h) λus s1 ⟨vs,H1,I1,r1,q1⟩=>hc a6 s1 σ H1 vs us Q I1 r1 q1) he cp
end
end L2
namespace L2
open PySem PySem.Spec PyProof.Rows
section
variable{κ:Type}[DecidableEq κ]
def valV(kvs:List (κ×V))(k:κ):Option V:=(kvs.find? λkv=>decide (kv.1=k)).map (·.2)
def putK(kvs:List (κ×V))(k:κ)(v:V):List (κ×V) :=
 if(kvs.any λkv=>decide (kv.1=k))=true then kvs.map (λkv=>if kv.1=k then(kv.1,v) else kv) else kvs++[(k,v)]
def zdb{p:κ×V}{r:List (κ×V)}{k:κ}(e:p.1=k):valV (p::r) k=some p.2:=by simp[valV,Jz,e]
def zbx{p:κ×V}{r:List (κ×V)}{k:κ}(e:¬p.1=k):valV (p::r) k=valV r k:=by simp[valV,Jz,e]
theorem zh3(k:κ):∀kvs:List (κ×V),(kvs.any λkv=>decide (kv.1=k))=(valV kvs k).isSome
 |[]=>rfl
 |p::r=>by
  rw[Kq]
  by_cases e:p.1=k
  ·simp only[zdb e,decide_eq_true e,Bool.true_or,Option.isSome_some]
  ·rw[zbx e,decide_eq_false e,Bool.false_or];exact zh3 k r
def zee(kvs:List (κ×V))(k:κ)(v:V):(putK kvs k v).length≤kvs.length+1:=by
 unfold putK
 split
 ·rw[Qa];exact Yd _ _
 ·rw[Ql,Zb,Jk];exact Qf _
def zf7{kvs:List (κ×V)}{k:κ}(v:V)(h:valV kvs k=none):putK kvs k v=kvs++[(k,v)]:=by
 unfold putK
 rw[zh3,h]
 exact if_neg (by decide)
def RelO.isSome_eq{o:Option V}{u:Option Value}(r:RelO o u):o.isSome=u.isSome:=by
 cases o with
 |none=>cases u with
  |none=>rfl
  |some _=>exact(show False from r).elim
 |some _=>cases u with
  |none=>exact(show False from r).elim
  |some _=>rfl
def RelO.getD{o:Option V}{u:Option Value}{d:V}{d':Value}(r:RelO o u)(rd:RelV d d'):RelV (o.getD d) (u.getD d'):=by
 cases o with
 |none=>cases u with
  |none=>exact rd
  |some _=>exact(show False from r).elim
 |some _=>cases u with
  |none=>exact(show False from r).elim
  |some _=>exact r
def KV.val{kvs:List (κ×V)}{vs:List (κ×Value)}(r:KV kvs vs)(k:κ):RelO (valV kvs k) (valueAt vs k):=by
 unfold KV at r
 induction r with
 |nil=>exact True.intro
 | @cons p q ps qs h t ih =>
  obtain⟨h1,h2⟩:=h
  by_cases e:p.1=k
  ·have e':q.1=k:=h1.symm.trans e
   have b:valueAt (q::qs) k=some q.2:=by simp[valueAt,Jz,e']
   rw[zdb e,b];exact h2
  ·have e':¬ q.1=k:=fun z=>e (h1.trans z)
   have b:valueAt (q::qs) k=valueAt qs k:=by simp[valueAt,Jz,e']
   rw[zbx e,b];exact ih
def KV.any{kvs:List (κ×V)}{vs:List (κ×Value)}(r:KV kvs vs)(k:κ):(kvs.any λkv=>decide (kv.1=k))=vs.any λkv=>decide (kv.1=k):=by
 unfold KV at r
 induction r with
 |nil=>rfl
 |cons h t ih=>rw[Kq,Kq,ih,h.1]
def KV.repl{kvs:List (κ×V)}{vs:List (κ×Value)}(r:KV kvs vs)(k:κ){y:V}{u:Value}(ry:RelV y u) :
  KV (kvs.map λkv=>if kv.1=k then(kv.1,y) else kv) (vs.map λkv=>if kv.1=k then(kv.1,u) else kv):=by
 unfold KV at r ⊢
 induction r with
 |nil=>exact .nil
 |@cons p q ps qs h t ih =>
  rw[Qj,Qj]
  refine .cons ?_ ih
  obtain⟨h1,h2⟩:=h
  by_cases e:p.1=k
  ·rw[if_pos e,if_pos (h1.symm.trans e)];exact⟨h1,ry⟩
  ·rw[if_neg e,if_neg (λz=>e (h1.trans z))];exact⟨h1,h2⟩
def KV.put{kvs:List (κ×V)}{vs:List (κ×Value)}(r:KV kvs vs)(k:κ){y:V}{u:Value}(ry:RelV y u):KV (putK kvs k y) (stored vs k u):=by
 unfold putK stored
 rw[r.any k]
 by_cases e:(vs.any λkv=>decide (kv.1=k))=true
 ·rw[if_pos e,if_pos e];exact r.repl k ry
 ·rw[if_neg e,if_neg e];exact Paired.snoc r ⟨rfl,ry⟩
def KV.length{kvs:List (κ×V)}{vs:List (κ×Value)}(r:KV kvs vs):kvs.length=vs.length:=Zx r
end
def kV_is{P:Nj}{w:Nl}{k:Key}{u:Value}(r:RelV (kV k) u):(zar P w).is k u=true:=by
 cases k with
 |inl i=>obtain⟨t,e⟩:=(show ∃t,u=Value.int i t from r);subst e;exact mixKind_int P w i t
 |inr x=>obtain⟨t,e⟩:=(show ∃t,u=Value.str x t from r);subst e;exact zgz P w x t
theorem items_are{P:Nj}{w:Nl}:∀{ks:List Key} {us:Nh},Vals (ks.map kV) us→ItemsAre (zar P w) ks us
 |[],_,r=>by rw[Xd]at r;cases r;exact .nil
 |k::ks,_,r=>by
  rw[Qj]at r
  cases r with
  |cons h t=>exact .cons (kV_is h) (items_are t)
abbrev KT(H:Hp):List (List Key×V)→List (List Key×Addr×Value)→Prop:=Paired λp q=>p.1=q.1∧H q.2.1=some (.tup (p.1.map kV))∧RelV p.2 q.2.2
def KT.val{H:Hp}{kvs:List (List Key×V)}{xs:List (List Key×Addr×Value)}(r:KT H kvs xs)(k:List Key):RelO (valV kvs k) ((atKey xs k).map (·.2)):=by
 induction r with
 |nil=>exact True.intro
 | @cons p q ps qs h t ih =>
  obtain⟨h1,_,h2⟩:=h
  by_cases e:p.1=k
  ·have e':q.1=k:=h1.symm.trans e
   have b:atKey (q::qs) k=some q.2:=by simp[atKey,Jz,e']
   rw[zdb e,b];exact h2
  ·have e':¬ q.1=k:=fun z=>e (h1.trans z)
   have b:atKey (q::qs) k=atKey qs k:=by simp[atKey,Jz,e']
   rw[zbx e,b];exact ih
def KT.repl{H:Hp}{kvs:List (List Key×V)}{xs:List (List Key×Addr×Value)}(r:KT H kvs xs)(k:List Key){y:V}{u:Value}(ry:RelV y u) :
  KT H (kvs.map λkv=>if kv.1=k then(kv.1,y) else kv) (xs.map (putAt k u)):=by
 induction r with
 |nil=>exact .nil
 |@cons p q ps qs h t ih =>
  rw[Qj,Qj]
  refine .cons ?_ ih
  obtain⟨h1,h2,h3⟩:=h
  unfold putAt
  by_cases e:p.1=k
  ·rw[if_pos e,if_pos (h1.symm.trans e)];exact⟨h1,h2,ry⟩
  ·rw[if_neg e,if_neg (λz=>e (h1.trans z))];exact⟨h1,h2,h3⟩
def KT.put{H:Hp}{kvs:List (List Key×V)}{xs:List (List Key×Addr×Value)}(r:KT H kvs xs)(k:List Key){b:Nc}{y:V}{u:Value}(hb:H b=some (.tup (k.map kV)))(ry:RelV y u) :
  KT H (putK kvs k y) (storedH xs k b u):=by
 have e:(kvs.any λkv=>decide (kv.1=k))=(atKey xs k).isSome:=by
  rw[zh3,(r.val k).isSome_eq,Option.isSome_map]
 unfold putK storedH
 rw[e]
 by_cases q:(atKey xs k).isSome=true
 ·rw[if_pos q,if_pos q];exact r.repl k ry
 ·rw[if_neg q,if_neg q];exact Paired.snoc r ⟨rfl,hb,ry⟩
def KT.keeps{H H':Hp}{kvs:List (List Key×V)}{xs:List (List Key×Addr×Value)}(r:KT H kvs xs)(ht:∀b ys,H b=some (.tup ys)→H' b=some (.tup ys)):KT H' kvs xs :=
 Paired.mapP r λ_ _ z=>⟨z.1,ht _ _ z.2.1,z.2.2⟩
section
variable{P:Nj}{w:Nl}{H:Hp}{h:Nn}{a:Nc}
def rd_of{u:HO}(ok:HOk P w H h)(e:Rd H a u):zbt P w H h a u:=e.ok ok
def dk_rd{kvs:List (Key×V)}(ok:HOk P w H h)(e:Rd H a (.dK kvs)):kvs.length≤sizeLine∧(a==sysModules)=false∧∃vs,KV kvs vs∧h.DictOf (zar P w) a vs :=
 show zbt P w H h a (.dK kvs) from rd_of ok e
def dk_of{kvs:List (Key×V)}(ok:HOk P w H h)(e:H a=some (.dK kvs)):kvs.length≤sizeLine∧(a==sysModules)=false∧∃vs,KV kvs vs∧h.DictOf (zar P w) a vs:=dk_rd ok (.inl e)
def key_of{ks:List Key}(ok:HOk P w H h)(e:H a=some (.tup (ks.map kV))):(tupleKind (zar P w)).is h ks a:=by
 obtain⟨_,a8,r,o,h1,h2,n,h3⟩:=(show zbt P w H h a (.tup (ks.map kV)) from ok a _ e)
 exact⟨o,a8.toArray,n,h1,h2,h3,by simpa using items_are r⟩
def dt_rd{kvs:List (List Key×V)}(ok:HOk P w H h)(e:Rd H a (.dT kvs)):kvs.length≤sizeLine∧(a == sysModules)=false ∧
  ∃xs,KT H kvs xs∧h.DictOfH (tupleKind (zar P w)) a xs:=by
 obtain⟨z,y,xs,r,o,es,ep,h1,h2,h3,h4,h5⟩:=(show zbt P w H h a (.dT kvs) from rd_of ok e)
 refine⟨z,y,xs,r,o,es,ep,h1,h2,h3,h4,λx hx=>?_,h5⟩
 have all:∀{l:List (List Key×V)} {m:List (List Key×Addr×Value)},KT H l m→∀x∈m,(tupleKind (zar P w)).is h x.1 x.2.1:=by
  intro l m q
  induction q with
  |nil=>intro x hx;exact nomatch hx
  | @cons p q ps qs hq t ih =>
   intro x hx
   rcases Qh.mp hx with e | hx
   ·subst e
    exact key_of ok (by rw[←hq.1];exact hq.2.1)
   ·exact ih x hx
 exact all r x hx
def dt_of{kvs:List (List Key×V)}(ok:HOk P w H h)(e:H a=some (.dT kvs)):kvs.length≤sizeLine∧(a==sysModules)=false ∧
  ∃xs,KT H kvs xs∧h.DictOfH (tupleKind (zar P w)) a xs:=dt_rd ok (.inl e)
end
def DGet(H:Hp)(a:Nc)(y:V)(r:Option V):Prop :=
 (∃kvs k,Rd H a (.dK kvs)∧y=kV k∧r=valV kvs k)∨∃kvs k b,Rd H a (.dT kvs)∧y=.ref b∧H b=some (.tup (k.map kV))∧r=valV kvs k
def DPut(H:Hp)(a:Nc)(y v:V)(H':Hp):Prop :=
 (∃kvs k,H a=some (.dK kvs)∧y=kV k∧kvs.length<sizeLine∧H'=upd H a (.dK (putK kvs k v))) ∨
 ∃kvs k b,H a=some (.dT kvs)∧y=.ref b∧H b=some (.tup (k.map kV))∧kvs.length<sizeLine∧H'=upd H a (.dT (putK kvs k v))
def DGet.k{H:Hp}{a:Nc}{kvs:List (Key×V)}{k:Key}(e:H a=some (.dK kvs)):DGet H a (kV k) (valV kvs k):=.inl ⟨kvs,k,.inl e,rfl,rfl⟩
def DGet.t{H:Hp}{a b:Nc}{kvs:List (List Key×V)}{k:List Key}(e:H a=some (.dT kvs))(eb:H b=some (.tup (k.map kV))):DGet H a (.ref b) (valV kvs k):=.inr ⟨kvs,k,b,.inl e,rfl,eb,rfl⟩
def DPut.k{H:Hp}{a:Nc}{kvs:List (Key×V)}{k:Key}{v:V}(e:H a=some (.dK kvs))(hl:kvs.length<sizeLine):DPut H a (kV k) v (upd H a (.dK (putK kvs k v))):=.inl ⟨kvs,k,e,rfl,hl,rfl⟩
def DPut.t{H:Hp}{a b:Nc}{kvs:List (List Key×V)}{k:List Key}{v:V}(e:H a=some (.dT kvs))(eb:H b=some (.tup (k.map kV)))(hl:kvs.length<sizeLine) :
  DPut H a (.ref b) v (upd H a (.dT (putK kvs k v))):=.inr ⟨kvs,k,b,e,rfl,eb,hl,rfl⟩
section
variable{X:Cx}{a6:Nd}{σ:St}{H:Hp}{s:Ng}{a:Nc}{y v:V}{u r:Value}{o:Option V}{A:Nm}{E:Na}
def Inv.big(I:Inv X a6 σ H s):sysModules<s.heap.objs.size:=by
 have h:mainGlobals<s.heap.objs.size:=(I.mod.glob.keeps I.bk).lt
 exact Wu (by decide) h
def d_getItem{Q:Na}(hu:A.units+1<cLine)(I:Inv X a6 σ H s)(g:DGet H a y (some v))(ry:RelV y u)(h:∀w' s',Inv X a6 σ H s'→RelV v w'→Q w' s') :
  wpAny (model X.prog X.w) A (getItem (.ref a) u) Q E s:=by
 rcases g with⟨kvs,k,e,ey,l⟩ | ⟨kvs,k,b,e,ey,eb,l⟩
 ·subst ey
  obtain⟨z,hd,vs,rel,dd⟩:=dk_rd I.hok e
  obtain⟨w',hw,db⟩:=RelO.some_of (v:=v) (o:=valueAt vs k) (by rw[l];exact rel.val k)
  exact wpAny_getItem_of (kV_is ry) dd.mapOf hw (h w' _ (I.tok _) db)
 ·subst ey
  cases(show u=Value.ref b from ry)
  obtain⟨z,hd,xs,rel,dd⟩:=dt_rd I.hok e
  obtain⟨w',hw,db⟩:=RelO.some_of (v:=v) (o:=(atKey xs k).map (·.2)) (by rw[l];exact rel.val k)
  obtain⟨p,hp,aL⟩:=Option.map_eq_some_iff.mp hw
  refine wpAny_getItem_heap (tupleKind_room_in1 hu) (key_of I.hok eb) dd hp ?_
  rw[aL]
  exact h w' _ (I.tok _) db
def d_notIn{Q:Na}(hu:A.units+1<cLine)(I:Inv X a6 σ H s)(g:DGet H a y o)(ry:RelV y u)(h:∀s',Inv X a6 σ H s'→Q (.bool (!o.isSome)) s') :
  wpAny (model X.prog X.w) A (compareOp .NotIn u (.ref a)) Q E s:=by
 rcases g with⟨kvs,k,e,ey,l⟩ | ⟨kvs,k,b,e,ey,eb,l⟩
 ·subst ey
  obtain⟨z,hd,vs,rel,dd⟩:=dk_rd I.hok e
  refine wpAny_notIn_of (kV_is ry) hd dd.mapOf ?_
  rw[←(rel.val k).isSome_eq,←l]
  exact h _ (I.tok _)
 ·subst ey
  cases(show u=Value.ref b from ry)
  obtain⟨z,hd,xs,rel,dd⟩:=dt_rd I.hok e
  refine wpAny_notIn_heap (tupleKind_room_in1 hu) (key_of I.hok eb) hd dd ?_
  have q:=(rel.val k).isSome_eq
  rw[Option.isSome_map]at q
  rw[←q,←l]
  exact h _ (I.tok _)
def d_write{h':Nn}{t':Nat}{ob:HO}(I:Inv X a6 σ H s)(mu:Mut (H a))(hs:Heap.SameBut a s.heap h')(he:∃q,h'.get? a=some q)(new:zbt X.prog X.w (upd H a ob) h' a ob) :
  Inv X a6 σ (upd H a ob) {s with heap:=h',toks:=t'} :=
 I.write (x:=a) (e:=a) mu (.inl rfl) (λb q hb z=>(hs.2 b hb).trans z) he new
def dk_new{P:Nj}{w:Nl}{H':Hp}{h':Nn}{kvs:List (Key×V)}{vs:List (Key×Value)}(z:kvs.length≤sizeLine)(hd:(a==sysModules)=false)(rel:KV kvs vs)(dd:h'.DictOf (zar P w) a vs) :
  zbt P w H' h' a (.dK kvs):=⟨z,hd,vs,rel,dd⟩
def d_setItem{H':Hp}{Q:Unit→Shared→Prop}(hu:A.units+1<cLine)(I:Inv X a6 σ H s)(g:DPut H a y v H')(ry:RelV y u)(rv:RelV v r)(h:∀s',Inv X a6 σ H' s'→Q () s') :
  wpAny (model X.prog X.w) A (setItem (.ref a) u r) Q E s:=by
 rcases g with⟨kvs,k,e,ey,l,eH⟩ | ⟨kvs,k,b,e,ey,eb,l,eH⟩
 ·subst ey eH
  obtain⟨z,hd,vs,rel,dd⟩:=dk_of I.hok e
  have hz:vs.length≤sizeLine:=by rw[←rel.length];exact z
  have hl:(putK kvs k v).length≤sizeLine:=by have:=zee kvs k v;exact Zj ‹_› ‹_›
  refine wpAny_setItem_pairs (hsz:=hz) (kV_is ry) dd λh' jG hs=>h _ ?_
  have he:∃q,h'.get? a=some q:=let⟨q,_,_,hq,_⟩:=jG;⟨q,hq⟩
  exact d_write I (by rw[e];exact True.intro) hs he (dk_new hl hd (rel.put k rv) jG)
 ·subst ey eH
  cases(show u=Value.ref b from ry)
  obtain⟨z,hd,xs,rel,dd⟩:=dt_of I.hok e
  have hz:xs.length≤sizeLine:=by rw[←Zx rel];exact z
  have hl:(putK kvs k v).length≤sizeLine:=by have:=zee kvs k v;exact Zj ‹_› ‹_›
  refine wpAny_setItem_heap (hsz:=hz) (tupleKind_room_in1 hu) (key_of I.hok eb) dd λh' jG hs=>h _ ?_
  obtain⟨q,es,ep,hq,h2,h3,h4,_,h5⟩:=jG
  refine d_write I (by rw[e];exact True.intro) hs ⟨q,hq⟩ ⟨hl,hd,_,(rel.put k eb rv).keeps λc ys ec=>?_,q,es,ep,hq,h2,h3,h4,h5⟩
  rw[zaf (za3 ec e (λz=>nomatch z))]
  exact ec
end
section
variable{X:Cx}{a6:Nd}{σ:St}{H:Hp}{s:Ng}{a:Nc}{kvs:List (Key×V)}{k:Key}{u:Value}{A:Nm}{E:Na}
end
def NoSl(i:Expr):Prop:=∀ov iv,subscripted i false ov iv=operate [ov,iv] (getItem ov iv)
def subD_of{prog:Nj}{w:Nl}{A:Nm}{E:Na}{s:Ng}{env:Env}{value slice:Expr}{pos:Pos}{T id:String}{Q:Na}(hl:typeLookup (.type T) "__getitem__" = pure (some (.builtin id)))(hs:NoSl slice)(h:wpAny (model prog w) A (eval value env) (λo s₁=>wpAny (model prog w) A (eval slice env) (λi s₂=>s₂.TypeIs o T∧wpAny (model prog w) A (getItem o i) Q E s₂) E s₁) E s) :
  wpAny (model prog w) A (eval (.Subscript value slice pos) env) Q E s:=by
 refine Subscript_ (wpAny_mono h (λo s₁ h₁=>wpAny_mono h₁ (λi s₂ h₂=>?_) λ_ _ x=>x) λ_ _ x=>x)
 obtain⟨hT,h₂⟩:=h₂
 unfold subscriptTail
 refine wpAny_bind ?_
 rw[getitemInPython_of_ne hT.not_modules]
 refine wpAny_bind (wpAny_specialOf hT hl ?_)
 have fin:wpAny (model prog w) A (subscripted slice false o i) (λr s₃=>wpAny (model prog w) A (letTemporaryGo value o r >>= λ_=>pure r) Q E s₃) E s₂:=by
  rw[hs o i]
  exact wpAny_operating (wpAny_mono h₂ (λr s₃ h₃=>wpAny_bind (wpAny_letTemporaryGo (wpAny_pure h₃))) λ_ _ x=>x)
 first
  |exact wpAny_pure (wpAny_bind fin)
  |exact wpAny_bind (wpAny_pure (wpAny_bind fin))
  |exact wpAny_bind fin
def dict_typeIs{X:Cx}{a6:Nd}{σ:St}{H:Hp}{s:Ng}{a:Nc}{y:V}{o:Option V}(I:Inv X a6 σ H s)(g:DGet H a y o):s.TypeIs (.ref a) "dict" := by
 rcases g with⟨kvs,k,e,_,_⟩ | ⟨kvs,k,b,e,_,_,_⟩
 ·obtain ⟨_,_,vs,_,dd⟩:=dk_rd I.hok e
  exact dd.typeIs
 ·obtain ⟨_,_,xs,_,dd⟩:=dt_rd I.hok e
  exact dd.typeIs
inductive RDG(x y:V)(H:Hp)(Q:VK):Prop
 |mk (a:Nc) (v:V) (e:x=.ref a) (g:DGet H a y (some v)) (q:Q v H):RDG x y H Q
inductive RDI(x y:V)(H:Hp)(R:Option V→Prop):Prop
 |mk (a:Nc) (o:Option V) (e:x=.ref a) (g:DGet H a y o) (q:R o):RDI x y H R
inductive RDP(x y v:V)(H:Hp)(N:Hp→Prop):Prop
 |mk (a:Nc) (H4:Hp) (e:x=.ref a) (p:DPut H a y v H4) (q:N H4):RDP x y v H N
def tDGet(td ty:TE):TE:=λ σ H Q=>td σ H λx H1=>ty σ H1 λy H2=>RDG x y H2 Q
def tDNotIn(ty td:TE):TE:=λ σ H Q=>ty σ H λy H1=>td σ H1 λx H2=>RDI x y H2 λo=>Q (.bl (!o.isSome)) H2
def sDPut(td ty tv:TE):TS:=λD σ H=>tv σ H λv H1=>td σ H1 λx H2=>ty σ H2 λy H3=>RDP x y v H3 (D.nx σ)
section
variable{X:Cx}{o i e value:Expr}{pos bh tpos:Pos}{td ty tv:TE}
def pe_dget(hu:X.A.units+1<cLine)(ho:PE X o td)(hi:PE X i ty)(hs:NoSl i):PE X (.Subscript o i pos) (tDGet td ty):=by
 intro a6 s σ H Q I h
 refine subD_of PySem.F.slot_dict_getitem.lookup hs (thn (ho a6 s σ H _ I h) λu s1 ⟨x,H1,I1,rx,q1⟩=>thn (hi a6 s1 σ H1 _ I1 q1) λiv s2 ⟨y,H2,I2,ry,a,v,ex,g,q2⟩=>?_)
 subst ex
 obtain rfl:u=Value.ref a:=rx
 exact⟨dict_typeIs I2 g,d_getItem hu I2 g ry λw' s3 I3 db=>⟨v,H2,I3,db,q2⟩⟩
def zgo(hu:X.A.units+1<cLine)(hi:PE X i ty)(ho:PE X o td):PC X .NotIn i o (tDNotIn ty td):=by
 intro a6 s σ H Q I h
 refine thn (hi a6 s σ H _ I h) λiv s1 ⟨y,H1,I1,ry,q1⟩=>thn (ho a6 s1 σ H1 _ I1 q1) λu s2 ⟨x,H2,I2,rx,a,ov,ex,g,q2⟩=>?_
 subst ex
 obtain rfl:u=Value.ref a:=rx
 exact d_notIn hu I2 g ry λs3 I3=>⟨.bl (!ov.isSome),H2,I3,rfl,q2⟩
def zih(hu:X.A.units+1<cLine)(ho:PE X o td)(hi:PE X i ty)(hv:PE X value tv)(hs:swapsWith value (some (.Subscript o i bh)) pos.line X.env=pure false) :
  PS X (.Assign [.Subscript o i bh] value pos) (sDPut td ty tv):=by
 intro a6 s σ H D I h
 refine wpAny_Assign_Subscript (thn (hv a6 s σ H _ I h) λr s1 ⟨v,H1,I1,rv,q1⟩=>thn (ho a6 s1 σ H1 _ I1 q1) λu s2 ⟨x,H2,I2,rx,q2⟩=>thn (hi a6 s2 σ H2 _ I2 q2) λiv s3 ⟨y,H3,I3,ry,a,H4,ex,g,q3⟩=>?_) hs
 subst ex
 obtain rfl:u=Value.ref a:=rx
 exact d_setItem hu I3 g ry rv λs4 I4=>⟨σ,H4,I4,q3⟩
end
def dk_empty{P:Nj}{w:Nl}{H:Hp}(h:Nn)(hb:sysModules<h.objs.size):zbt P w H (h.push {cls:=.type "dict",data:=.dict #[]}) h.objs.size (.dK []) :=
 ⟨Zn _,beq_eq_false_iff_ne.mpr (Zo (Zr hb)),[],.nil,Heap.DictOf.new h⟩
def dt_empty{P:Nj}{w:Nl}{H:Hp}(h:Nn)(hb:sysModules<h.objs.size):zbt P w H (h.push {cls:=.type "dict",data:=.dict #[]}) h.objs.size (.dT []) :=
 ⟨Zn _,beq_eq_false_iff_ne.mpr (Zo (Zr hb)),[],.nil,_,#[],0,Zd _ rfl,⟨rfl,rfl,rfl⟩,rfl,rfl,Yb⟩
def tDNewK:TE:=λ_ H Q=>∀p,H p=none→Q (.ref p) (upd H p (.dK []))
def tDNewT:TE:=λ_ H Q=>∀p,H p=none→Q (.ref p) (upd H p (.dT []))
section
variable{X:Cx}{pos:Pos}
def pe_dnewK:PE X (.Dict [] [] pos) tDNewK:=λa6 s σ H Q I h =>
 wpAny_Dict_empty ⟨.ref s.heap.objs.size,_,I.laid (a:=s.heap.objs.size) (o:=.dK []) (t':=s.toks) (λ_ _ q=>Qi _ q) (Qf _) (dk_empty s.heap I.big),rfl,h _ (I.hok.fresh (Qf _))⟩
def pe_dnewT:PE X (.Dict [] [] pos) tDNewT:=λa6 s σ H Q I h =>
 wpAny_Dict_empty ⟨.ref s.heap.objs.size,_,I.laid (a:=s.heap.objs.size) (o:=.dT []) (t':=s.toks) (λ_ _ q=>Qi _ q) (Qf _) (dt_empty s.heap I.big),rfl,h _ (I.hok.fresh (Qf _))⟩
end
def tPairs:List (TE×TE)→St→Hp→(List (V×V)→Hp→Prop)→Prop
 |[],_,H,Q=>Q [] H
 |(tk,tv)::r,σ,H,Q=>tk σ H λx H1=>tv σ H1 λy H2=>tPairs r σ H2 λps H3=>Q ((x,y)::ps) H3
abbrev VV:List (V×V)→List (Value×Value)→Prop:=Paired λp q=>RelV p.1 q.1∧RelV p.2 q.2
def PPs(X:Cx)(pos:Pos)(keys:List (Option Expr))(values:Nq)(trs:List (TE×TE)):Prop :=
 ∀(a6:Nd) (s:Ng) (σ:St) (H:Hp) (Q:List (V×V)→Hp→Prop),Inv X a6 σ H s→tPairs trs σ H Q →
  wpAny (model X.prog X.w) X.A (evalPairs (pairTrees keys values X.env pos)) (λvs s'=>∃ps H',Inv X a6 σ H' s'∧VV ps vs∧Q ps H') X.xe s
def pps_nil{X:Cx}{pos:Pos}:PPs X pos [] [] []:=λa6 s σ H Q I h=>pairTrees_nil_walk ⟨[],H,I,.nil,h⟩
def pps_cons{X:Cx}{pos:Pos}{k v:Expr}{ks:List (Option Expr)}{vs:Nq}{tk tv:TE}{trs:List (TE×TE)}(hk:PE X k tk)(hv:PE X v tv)(hr:PPs X pos ks vs trs) :
  PPs X pos (some k::ks) (v::vs) ((tk,tv)::trs):=λa6 s σ H Q I h =>
 pairTrees_cons_walk (thn (hk a6 s σ H _ I h) λu s1 ⟨x,H1,I1,rx,q1⟩=>thn (hv a6 s1 σ H1 _ I1 q1) λw2 s2 ⟨y,H2,I2,ry,q2⟩ =>
  thn (hr a6 s2 σ H2 _ I2 q2) λws s3 ⟨ps,H3,I3,rel,q3⟩=>⟨(x,y)::ps,H3,I3,.cons ⟨rx,ry⟩ rel,q3⟩)
def zhs(kvs more:List (Key×V)):List (Key×V):=more.foldl (λam kv=>putK am kv.1 kv.2) kvs
def KV.merge:∀{more:List (Key×V)} {rs:List (Key×Value)} {kvs:List (Key×V)} {vs:List (Key×Value)},KV more rs→KV kvs vs→KV (zhs kvs more) (merged vs rs):=by
 intro more rs kvs vs r
 unfold KV at r
 induction r generalizing kvs vs with
 |nil=>intro q;exact q
 | @cons p q ps qs h t ih =>
  intro r0
  have e:KV (putK kvs p.1 p.2) (stored vs q.1 q.2):=by
   have:=r0.put p.1 h.2
   rw[←h.1];exact this
  exact ih e
theorem zev:∀(more kvs:List (Key×V)),(zhs kvs more).length≤kvs.length+more.length
 |[],kvs=>by show kvs.length≤kvs.length+0;exact Qf _
 |p::r,kvs=>by
  have h1:=zev r (putK kvs p.1 p.2)
  have h2:=zee kvs p.1 p.2
  show(zhs (putK kvs p.1 p.2) r).length≤_
  rw[Zb];lia
theorem zhw{P:Nj}{w:Nl}:∀{kvs:List (Key×V)} {ws:List (Value×Value)},VV (kvs.map λkv=>(kV kv.1,kv.2)) ws→∃rs,Carries (zar P w) ws rs∧KV kvs rs
 |[],_,r=>by rw[Xd]at r;cases r;exact⟨[],True.intro,.nil⟩
 | p::kvs,_,r=>by
  rw[Qj]at r
  cases r with
  |@cons a b as bs h t =>
   obtain⟨rs,c,q⟩:=zhw (P:=P) (w:=w) t
   obtain⟨b1,b2⟩:=b
   exact⟨(p.1,b2)::rs,⟨kV_is h.1,rfl,c⟩,.cons ⟨rfl,h.2⟩ q⟩
def tDisp(trs:List (TE×TE)):TE:=λ σ H Q=>∀p,H p=none→tPairs trs σ (upd H p (.dK [])) λps H2=>H2 p=some (.dK [])∧∃kvs:List (Key×V),ps=kvs.map (λkv=>(kV kv.1,kv.2))∧kvs.length≤15∧Q (.ref p) (upd H2 p (.dK (zhs [] kvs)))
def pe_disp{X:Cx}{pos:Pos}{keys:List (Option Expr)}{values:Nq}{trs:List (TE×TE)}(h:PPs X pos keys values trs)(be:keys.all (·.isSome)=true)(hl:keys.length=values.length)(h0:keys≠[])(sr:keys.length≤15):PE X (.Dict keys values pos) (tDisp trs):=by
 intro a6 s σ H Q I q
 have hn:=I.hok.fresh (Qf s.heap.objs.size)
 have I1:=I.laid (a:=s.heap.objs.size) (o:=.dK []) (h':=s.heap.push {cls:=.type "dict",data:=.dict #[]}) (t':=s.toks) (λ_ _ q=>Qi _ q) (Qf _) (dk_empty s.heap I.big)
 refine wpAny_Dict_walk (knd:=zar X.prog X.w) be hl h0 sr (thn (h a6 _ σ _ _ I1 (q _ hn)) λws s2 ⟨ps,H2,I2,rel,e,kvs,ep,lk,q2⟩=>?_)
 subst ep
 obtain⟨rs,c,rk⟩:=zhw (P:=X.prog) (w:=X.w) rel
 obtain⟨z,hd,vs0,r0,dd⟩:=dk_of I2.hok e
 cases r0
 refine⟨rs,c,dd,λh' jG hs=>⟨.ref s.heap.objs.size,_,?_,rfl,q2⟩⟩
 have hz:(zhs [] kvs).length≤sizeLine:=by
  have h1:=zev kvs []
  rw[Jk]at h1
  rw[sizeLine_eq];lia
 have he:∃q,h'.get? s.heap.objs.size=some q:=let⟨q,_,_,hq,_⟩:=jG;⟨q,hq⟩
 exact d_write I2 (by rw[e];exact True.intro) hs he (dk_new hz hd (rk.merge .nil) jG)
structure M2(X:Cx)(o:Expr)(m:Str)(apos:Pos)(e f:Expr)(cpos:Pos):Prop where
 base:attributeBase o m X.env (eval o X.env)=eval o X.env
 few:((backTo cpos (starEach [e,f] X.env)).all (λx=>!x.1)&&(backToKw cpos (keywordEach [] X.env)).all (λx=>x.1.isSome)
  && decide (([e,f]:List Expr).length+([]:List Keyword).length+(if([]:List Keyword).isEmpty then 0 else 1)<30))=true
 line:(apos.endLine==cpos.line)=true
 trees:backTo cpos (starEach [e,f] X.env)=[(false,eval e X.env),(false,eval f X.env)]
def IsD(H:Hp)(a:Nc):Prop:=(∃kvs,Rd H a (.dK kvs))∨∃kvs,Rd H a (.dT kvs)
def isD_at{X:Cx}{a6:Nd}{σ:St}{H:Hp}{s:Ng}{a:Nc}(I:Inv X a6 σ H s)(d:IsD H a) :
  s.TypeIs (.ref a) "dict" ∧ (∀b,Value.ref a=.ref b→∃ob,s.heap.get? b=some ob∧ob.dict=none)∧(a==sysModules)=false:=by
 rcases d with⟨kvs,e⟩ | ⟨kvs,e⟩
 ·obtain ⟨_,hd,vs,_,dd⟩:=dk_rd I.hok e
  refine⟨dd.typeIs,λb q=>?_,hd⟩
  cases q
  obtain⟨ob,_,_,h1,h2,_⟩:=dd
  exact⟨ob,h1,h2.2.1⟩
 ·obtain ⟨_,hd,xs,_,dd⟩:=dt_rd I.hok e
  refine⟨dd.typeIs,λb q=>?_,hd⟩
  cases q
  obtain⟨ob,_,_,h1,h2,_⟩:=dd
  exact⟨ob,h1,h2.2.1⟩
section
variable{X:Cx}{a6:Nd}{σ:St}{H:Hp}{s:Ng}{a:Nc}{y d:V}{u r:Value}{o:Option V}{A:Nm}{E:Na}
def d_get2{Q:Na}(hu:A.units+1<cLine)(I:Inv X a6 σ H s)(g:DGet H a y o)(ry:RelV y u)(rd:RelV d r)(h:∀w' s',Inv X a6 σ H s'→RelV (o.getD d) w'→Q w' s') :
  wpAny (model X.prog X.w) A (call (.builtin "dict.get") [.ref a,u,r]) Q E s:=by
 rcases g with⟨kvs,k,e,ey,l⟩ | ⟨kvs,k,b,e,ey,eb,l⟩
 ·subst ey
  obtain⟨z,hd,vs,rel,dd⟩:=dk_rd I.hok e
  refine call_meetsIn Ba dd.typeIs PySem.F.entry_dict_get (PySem.F.args_dict_get_3 _ _ _) (meets_dict_get_default (zar X.prog X.w) a (kV_is ry) hd r) ⟨_,dd.mapOf,h _ _ (I.tok _) ?_⟩
  rw[l]
  exact(rel.val k).getD rd
 ·subst ey
  cases(show u=Value.ref b from ry)
  obtain⟨z,hd,xs,rel,dd⟩:=dt_rd I.hok e
  refine call_meetsIn Ba dd.typeIs PySem.F.entry_dict_get (PySem.F.args_dict_get_3 _ _ _) (meetsH_dict_get_default (tupleKind (zar X.prog X.w)) a b hd r) ⟨tupleKind_room_in1 hu,k,xs,key_of I.hok eb,dd,h _ _ (I.tok _) ?_⟩
  rw[l]
  exact(rel.val k).getD rd
end
def tDGet2(td ty tx:TE):TE:=λ σ H Q=>td σ H λx H1=>∃a,x=.ref a∧IsD H1 a∧ty σ H1 λy H2=>tx σ H2 λz H3=>∃o,DGet H3 a y o∧Q (o.getD z) H3
section
variable{X:Cx}{o e f:Expr}{apos cpos:Pos}{td ty tx:TE}
def pe_dget2(hu:X.A.units+1<cLine)(ho:PE X o td)(he:PE X e ty)(hf:PE X f tx)(m:M2 X o "get" apos e f cpos):PE X (.Call (.Attribute o "get" apos) [e,f] [] cpos) (tDGet2 td ty tx):=by
 intro a6 s σ H Q I h
 refine wpAny_Call_method m.base m.few m.line PySem.F.plainAttrs_dict Ba PySem.F.type_dict_get (thn (ho a6 s σ H _ I h) λu s1 ⟨x,H1,I1,rx,a,ex,d,q1⟩=>?_)
 subst ex
 obtain rfl:u=Value.ref a:=rx
 obtain⟨t1,t2,_⟩:=isD_at I1 d
 refine⟨t1,t2,?_⟩
 rw[m.trees]
 refine Calls.callWith_builtin rfl (Calls.evalArgs_plain (Calls.spliced_cons (thn (he a6 s1 σ H1 _ I1 q1) λiv s2 ⟨y,H2,I2,ry,q2⟩ =>
  Calls.spliced_cons (thn (hf a6 s2 σ H2 _ I2 q2) λfv s3 ⟨z,H3,I3,rz,ov,g,q3⟩=>Calls.spliced_nil ?_))))
 exact d_get2 hu I3 g ry rz λw' s4 I4 db=>⟨_,H3,I4,db,q3⟩
end
section
variable{X:Cx}{a6:Nd}{σ:St}{H:Hp}{s:Ng}{a:Nc}{kvs:List (Key×V)}{A:Nm}{E:Na}
end
section
variable{X:Cx}{a6:Nd}{σ:St}{H:Hp}{s:Ng}{a:Nc}{y:V}{u:Value}{A:Nm}{E:Na}
end
end L2
namespace HT
open PySem PyProof.Rows
section
open PySem.SeqAt
open PySem.AutoSeq1 (wpAny_loadPart')
open PySem.MeetsSeq PySem.MeetsSeq2 PySem.MeetsSeq3
end
section
variable{prog:Nj}{w:Nl}{A:Nm}{E:Na}{s:Ng}
def sIx(n d:Nat):Option Int→Nat
 |none=>d
 |some v=>if v<0 then(v+(n:Int)).toNat else min v.toNat n
def sIx_nat(n d k:Nat):sIx n d (some (k:Int))=min k n:=by
 show(if(k:Int)<0 then((k:Int)+(n:Int)).toNat else min (k:Int).toNat n)=min k n
 rw[if_neg (by lia),Jr]
end
end HT
namespace L2
open PySem PySem.Spec PyProof.Rows
abbrev TO:=St→Hp→(Option Int→Hp→Prop)→Prop
def PO(X:Cx)(e:Option Expr)(t:TO):Prop :=
 ∀(a6:Nd) (s:Ng) (σ:St) (H:Hp) (Q:Option Int→Hp→Prop),Inv X a6 σ H s→t σ H Q →
  wpAny (model X.prog X.w) X.A (evalPart e X.env) (λu s'=>∃o H',Inv X a6 σ H' s'∧IsPart u o∧Q o H') X.xe s
def tNoPart:TO:=λ_ H Q=>Q none H
inductive RPt(x:V)(R:Int→Prop):Prop
 |mk (i:Int) (e:x=.int i) (q:R i):RPt x R
def tPart(t:TE):TO:=λ σ H Q=>t σ H λx H1=>RPt x λi=>Q (some i) H1
section
variable{X:Cx}{e:Expr}{te:TE}{lo hi:Option Expr}{tl th:TO}{pos p2:Pos}
def zb1:PO X none tNoPart:=by
 intro a6 s σ H Q I h
 rw[evalPart_none]
 exact wpAny_pure ⟨none,H,I,.none,h⟩
def zcb(h:PE X e te):PO X (some e) (tPart te):=by
 intro a6 s σ H Q I hw
 rw[evalPart_some]
 refine thn (h a6 s σ H _ I hw) λu s1 ⟨x,H1,I1,r1,q1⟩=>?_
 obtain⟨i,rfl,q⟩:=q1
 obtain⟨t,rfl⟩:=r1
 exact⟨some i,H1,I1,.int i t,q⟩
def SlR(X:Cx)(r:V→Option Int→Option Int→Hp→VK→Prop):Prop :=
 ∀(a6:Nd) (s:Ng) (σ:St) (H:Hp) (x:V) (v vl vu:Value) (lo hi:Option Int) (sl:Nc) (Q:VK),Inv X a6 σ H s→RelV x v→s.heap.IsSliceOf sl vl vu .none→IsPart vl lo→IsPart vu hi→r x lo hi H Q →
  ∃T id,typeLookup (.type T) "__getitem__" = pure (some (.builtin id))∧s.TypeIs v T∧wpAny (model X.prog X.w) X.A (getItem v (.ref sl)) (EP X a6 σ Q) X.xe s
def tSl(r:V→Option Int→Option Int→Hp→VK→Prop)(te:TE)(tl th:TO):TE:=λ σ H Q=>te σ H λx H1=>tl σ H1 λl H2=>th σ H2 λu H3=>r x l u H3 Q
def zby{r:V→Option Int→Option Int→Hp→VK→Prop}(hr:SlR X r)(he:PE X e te)(hl:PO X lo tl)(hu:PO X hi th):PE X (.Subscript e (.Slice lo hi none p2) pos) (tSl r te tl th):=by
 intro a6 s σ H Q I h
 refine Subscript_ (thn (he a6 s σ H _ I h) λv s1 ⟨x,H1,I1,r1,q1⟩=>?_)
 refine wpAny_Slice (thn (hl a6 s1 σ H1 _ I1 q1) λvl s2 ⟨l,H2,I2,pl,q2⟩=>thn (hu a6 s2 σ H2 _ I2 q2) λvu s3 ⟨u,H3,I3,pu,q3⟩=>?_)
 rw[evalPart_none]
 refine wpAny_pure ?_
 have I4:Inv X a6 σ H3 {s3 with heap:=s3.heap.push {cls:=.type "slice",data:=.fields #[vl,vu,.none]}}:=I3.kept (t':=s3.toks) λb ob q=>Qi _ q
 obtain⟨T,id,hT,ht,hg⟩:=hr a6 {s3 with heap:=s3.heap.push {cls:=.type "slice",data:=.fields #[vl,vu,.none]}} σ H3 x v vl vu l u s3.heap.objs.size Q I4 r1 (Heap.IsSliceOf.new ..) pl pu q3
 show wpAny (model X.prog X.w) X.A (subscriptTail e (.Slice lo hi none p2) v (.ref s3.heap.objs.size)) (EP X a6 σ Q) X.xe {s3 with heap:=s3.heap.push {cls:=.type "slice",data:=.fields #[vl,vu,.none]}}
 exact tail_any (ops:=[.ref s3.heap.objs.size,v]) ht hT hg (by with_unfolding_all rfl)
def cutV(xs:List V)(lo hi:Option Int):List V:=(xs.drop (HT.sIx xs.length 0 lo)).take (HT.sIx xs.length xs.length hi-HT.sIx xs.length 0 lo)
def zb3(xs:List V)(lo hi:Option Int):(cutV xs lo hi).length≤xs.length:=by
 unfold cutV
 rw[Zf,Yz]
 lia
end
end L2
namespace L2
open PySem PySem.Spec PyProof.Rows
def ixN(n:Nat)(i:Int):Option Nat:=if 0≤i then(if i<n then some i.toNat else none) else if -(n:Int)≤i then some (i+n).toNat else none
def atI{α:Type}(xs:List α)(i:Int):Option α:=(ixN xs.length i).bind λj=>xs[j]?
def ixN_seq{n:Nat}{i:Int}{j:Nat}(h:ixN n i=some j):seqIndex? i n=some j∧j<n∧-(n:Int)≤i∧i<n:=by
 unfold ixN at h
 by_cases h0:0≤i
 ·rw [if_pos h0] at h
  by_cases h1:i<n
  ·rw [if_pos h1] at h
   have e:i.toNat=j:=Qt h
   exact⟨by rw[seqIndex_of h0 h1,e],by lia,by lia,h1⟩
  ·rw[if_neg h1]at h;cases h
 ·rw [if_neg h0] at h
  by_cases h1:-(n:Int)≤i
  ·rw [if_pos h1] at h
   have e:(i+n).toNat=j:=Qt h
   exact⟨by rw[seqIndex_neg (by lia) h1,e],by lia,h1,by lia⟩
  ·rw[if_neg h1]at h;cases h
def atI_get{α:Type}{xs:List α}{i:Int}{v:α}(h:atI xs i=some v):∃j,seqIndex? i xs.length=some j∧xs[j]?=some v∧j<xs.length∧-(xs.length:Int)≤i∧i<xs.length:=by
 unfold atI at h
 cases e:ixN xs.length i with
 |none=>rw[e]at h;cases h
 |some j =>
  rw[e]at h
  obtain⟨h1,h2,h3,h4⟩:=ixN_seq e
  exact⟨j,h1,h,h2,h3,h4⟩
def zav{α:Type}{xs:List α}{j:Nat}{v:α}(h:xs[j]?=some v):atI xs (j:Int)=some v:=by
 have hj:j<xs.length:=(Zg.mp h).1
 have e:ixN xs.length (j:Int)=some j:=by
  unfold ixN
  rw[if_pos (by lia),if_pos (by exact zar9 ‹_›)];simp
 unfold atI;rw[e];exact h
def PlainIx(b:Expr):Prop:=∀o i,subscripted b false o i=operate [o,i] (getItem o i)
def IxR(X:Cx)(r:R2):Prop :=
 ∀(value slice:Expr) (a6:Nd) (s:Ng) (σ:St) (H:Hp) (x y:V) (v u:Value) (Q:VK),Inv X a6 σ H s→RelV x v→RelV y u→r x y H Q →
  subscripted slice false v u=operate [v,u] (getItem v u)→wpAny (model X.prog X.w) X.A (subscriptTail value slice v u) (EP X a6 σ Q) X.xe s
def MtR(X:Cx)(id:String)(r:V→List V→Hp→VK→Prop):Prop :=
 ∀(a6:Nd) (s:Ng) (σ:St) (H:Hp) (x:V) (xs:List V) (v:Value) (us:Nh) (Q:VK),Inv X a6 σ H s→RelV x v→Vals xs us→r x xs H Q →
  wpAny (model X.prog X.w) X.A (call (.builtin id) (v::us)) (EP X a6 σ Q) X.xe s
section
variable{X:Cx}{a b:Expr}{ta tb:TE}{pos:Pos}
def za7{r:R2}(hr:IxR X r)(ha:PE X a ta)(hb:PE X b tb)(hs:PlainIx b):PE X (.Subscript a b pos) (tOp r ta tb):=by
 intro a6 s σ H Q I h
 exact Subscript_ (binT ha hb I h λv u s2 x y H2 I2 rx ry q=>hr a b a6 s2 σ H2 x y v u Q I2 rx ry q (hs _ _))
inductive RrIxL(K:Nb)(x:V)(y:V)(H:Hp)(Q:VK):Prop
 |mk (p:_) (xs:_) (i:_) (v:_) (h0:x=.ref p) (h1:y=.int i) (h2:SqL K H p xs) (h3:atI xs i=some v) (h4:Q v H):RrIxL K x y H Q
def rIxL(K:Nb):R2:=λx y H Q=>RrIxL K x y H Q
inductive RrIxT(K:Nb)(x:V)(y:V)(H:Hp)(Q:VK):Prop
 |mk (p:_) (xs:_) (i:_) (v:_) (h0:x=.ref p) (h1:y=.int i) (h2:SqT K H p xs) (h3:atI xs i=some v) (h4:Q v H):RrIxT K x y H Q
def rIxT(K:Nb):R2:=λx y H Q=>RrIxT K x y H Q
inductive RrIxS(x:V)(y:V)(H:Hp)(Q:VK):Prop
 |mk (z:_) (i:_) (c:_) (h0:x=.str z) (h1:y=.int i) (h2:z.length≤sizeLine) (h3:atI z.cps.toList i=some c) (h4:Q (.str ⟨#[c]⟩) H):RrIxS  x y H Q
def rIxS:R2:=λx y H Q=>RrIxS  x y H Q
def zau:IxR X (rIxL X.K):=by
 intro value slice a6 s σ H x y v u Q I rx ry h hs
 obtain⟨p,xs,i,z,rfl,rfl,hq,he,q⟩:=h
 cases rx
 obtain⟨t,rfl⟩:=ry
 obtain⟨a8,r,pl,hz⟩:=I.list hq
 obtain⟨j,h1,h2,h3,h4,h5⟩:=atI_get he
 obtain⟨w,ew,db⟩:=r.get h2
 have hl:=r.length
 have hn:=zet
 have fin:EP X a6 σ Q w s:=⟨z,H,I,db,q⟩
 by_cases h0:0≤i
 ·have hj:i.toNat=j:=by
   rw[seqIndex_of h0 h5]at h1
   exact Qt h1
  exact item_listR pl.isList h0 (by lia) (by rw[hj];simpa using ew) fin hs
 ·have hj:(i+(a8.toArray.size:Int)).toNat=j:=by
   rw[seqIndex_neg (by lia) h4]at h1
   rw[Qq,←hl]
   exact Qt h1
  exact subscriptTail_builtinR (x:=w) pl.isList.typeIs slot_list_getitem.lookup
   (wpAny_getItem_list_neg (Q:=λr s'=>r=w∧EP X a6 σ Q r s') pl.isList (by lia) (by rw[Qq]<;>lia) (by lia) (by rw[hj];simpa using ew) ⟨rfl,fin⟩) hs
def zex:IxR X (rIxT X.K):=by
 intro value slice a6 s σ H x y v u Q I rx ry h hs
 obtain⟨p,xs,i,z,rfl,rfl,hq,he,q⟩:=h
 cases rx
 obtain⟨t,rfl⟩:=ry
 obtain⟨a8,r,pl,hz⟩:=I.tuple hq
 obtain⟨j,h1,h2,h3,h4,h5⟩:=atI_get he
 obtain⟨w,ew,db⟩:=r.get h2
 have hl:=r.length
 have hn:=zet
 have fin:EP X a6 σ Q w s:=⟨z,H,I,db,q⟩
 exact subscriptTail_builtinR (x:=w) pl.typeIs slot_tuple_getitem.lookup
  (getItem_tuple (j:=j) (Q:=λr s'=>r=w∧EP X a6 σ Q r s') pl (by lia) (by lia) (by rw[Qq,←hl];exact h1) (by simpa using ew) ⟨rfl,fin⟩) hs
def ix_str:IxR X rIxS:=by
 intro value slice a6 s σ H x y v u Q I rx ry h hs
 obtain⟨z,i,c,rfl,rfl,hz,he,q⟩:=h
 obtain⟨t,rfl⟩:=rx
 obtain⟨t',rfl⟩:=ry
 obtain⟨j,h1,h2,h3,h4,h5⟩:=atI_get he
 have hl:z.cps.toList.length=z.length:=by simp[Str.length]
 rw[hl]at h1 h4 h5
 have hn:=zet
 exact tail_any (typeIs_str s z t) slot_str_getitem.lookup (getItem_str (c:=c) (by
  have e1:decide (i < -(2 ^ 63:Int))=false:=decide_eq_false (by lia)
  have e2:decide (i≥2 ^ 63)=false:=decide_eq_false (by lia)
  rw[e1,e2,Bool.or_false]) (by rw[h1];simpa using h2) ⟨.str ⟨#[c]⟩,H,I.tok _,⟨_,rfl⟩,q⟩) hs
def mapSeq_set(a8:Nh)(n j:Nat)(u:Value):Obj.mapSeq (·.setIfInBounds j u) {cls:=.type "list",data:=.seq a8.toArray n}={cls:=.type "list",data:=.seq (a8.set j u).toArray n}:=by
 simp[Obj.mapSeq]
def Inv.lst{a6:Nd}{σ:St}{H:Hp}{s:Ng}{p:Nc}{xs:List V}(I:Inv X a6 σ H s)(h:H p=some (.lst xs)) :
  ∃(a8:Nh) (n:Nat),Vals xs a8∧s.heap.get? p=some {cls:=.type "list",data:=.seq a8.toArray n}∧xs.length≤sizeLine:=by
 obtain⟨z,a8,n,r,e⟩:=I.hok p _ h
 exact⟨a8,n,r,e,z⟩
def Inv.lstUpd{a6:Nd}{σ:St}{H:Hp}{s:Ng}{p:Nc}{xs ys:List V}{a8 its':Nh}{n n':Nat}{f:Obj→Obj}(I:Inv X a6 σ H s)(h:H p=some (.lst xs))(ho:s.heap.get? p=some {cls:=.type "list",data:=.seq a8.toArray n})(hf:f {cls:=.type "list",data:=.seq a8.toArray n}={cls:=.type "list",data:=.seq its'.toArray n'})(r:Vals ys its')(hz:ys.length≤sizeLine)(t:Nat) :
  Inv X a6 σ (upd H p (.lst ys)) {s with heap:=s.heap.update p f,toks:=t}:=by
 have e:(s.heap.update p f).get? p=some {cls:=.type "list",data:=.seq its'.toArray n'}:=by
  rw[Heap.get?_update_self f ho (by rw[hf]<;>rfl),hf]
 refine I.write (x:=p) (e:=p) (by rw[h];trivial) (.inl rfl) (λb u hb q=>(Js _ _ (Zo hb)).trans q) ⟨_,e⟩ ?_
 exact⟨hz,its',n',r,e⟩
inductive RrSetL(o:V)(i:V)(v:V)(H:Hp)(Q:Hp→Prop):Prop
 |mk (p:_) (xs:_) (k:_) (j:_) (h0:o=.ref p) (h1:i=.int k) (h2:H p=some (.lst xs)) (h3:ixN xs.length k=some j) (h4:Q (upd H p (.lst (xs.set j v)))):RrSetL  o i v H Q
def rSetL:V→V→V→Hp→(Hp→Prop)→Prop:=λo i v H Q=>RrSetL  o i v H Q
def set_list:PSet X rSetL:=by
 intro a6 s σ H o i v ov iv u Q I ro ri rv h
 obtain⟨p,xs,k,j,rfl,rfl,hp,hj,q⟩:=h
 cases ro
 obtain⟨t,rfl⟩:=ri
 obtain⟨a8,n,r,ho,hz⟩:=I.lst hp
 obtain⟨h1,h2,h3,h4⟩:=ixN_seq hj
 have hl:=r.length
 have hn:=zet
 have I':Inv X a6 σ (upd H p (.lst (xs.set j v))) {s with heap:=s.heap.update p (Obj.mapSeq (·.setIfInBounds j u))} :=
  I.lstUpd hp ho (mapSeq_set a8 n j u) (r.set rv j) (by rw[Ut];exact hz) s.toks
 by_cases h0:0≤k
 ·have hk:k.toNat=j:=by
   rw[seqIndex_of h0 h4]at h1
   exact Qt h1
  exact PySem.W.ki_setAt ho h0 (by lia) (by rw[Qq,←hl];exact h4) (by rw[hk];exact⟨_,I',q⟩)
 ·have hk:(k+(a8.toArray.size:Int)).toNat=j:=by
   rw[seqIndex_neg (by lia) h3]at h1
   rw[Qq,←hl]
   exact Qt h1
  exact PySem.W.ki_setBack ho (by lia) (by rw[Qq,←hl];exact h3) (by lia) (by rw[hk];exact⟨_,I',q⟩)
def slice_bounds(lo hi:Option Int)(n:Nat):(sliceBounds lo hi none n).1=((HT.sIx n 0 lo:Nat):Int)∧(sliceBounds lo hi none n).2.1=((HT.sIx n n hi:Nat):Int)∧(sliceBounds lo hi none n).2.2=1:=by
 refine⟨?_,?_,rfl⟩
 ·cases lo with
  |none=>simp[sliceBounds,HT.sIx]
  |some i =>
   simp only[sliceBounds,HT.sIx,Option.getD_none,show(1:Int)>0 by decide,if_true]
   by_cases h:i<0
   ·simp only[h,if_true]<;>lia
   ·simp only[h,if_false]<;>lia
 ·cases hi with
  |none=>simp[sliceBounds,HT.sIx]
  |some i =>
   simp only[sliceBounds,HT.sIx,Option.getD_none,show(1:Int)>0 by decide,if_true]
   by_cases h:i<0
   ·simp only[h,if_true]<;>lia
   ·simp only[h,if_false]<;>lia
def zh8(a8:Nh)(lo hi:Option Int):slicePick a8.toArray lo hi none=((a8.drop (HT.sIx a8.length 0 lo)).take (HT.sIx a8.length a8.length hi-HT.sIx a8.length 0 lo)).toArray:=by
 obtain⟨h1,h2,h3⟩:=slice_bounds lo hi a8.toArray.size
 unfold slicePick
 rw[h1,h2,h3]
 simp only[sliceRange_one,pick_run,Qq]<;>rfl
inductive RrSlL(K:Nb)(x:V)(lo:Option Int)(hi:Option Int)(H:Hp)(Q:VK):Prop
 |mk (a:_) (xs:_) (h0:x=.ref a) (h1:SqL K H a xs) (h2:∀p,H p=none→Q (.ref p) (upd H p (.lst (cutV xs lo hi)))):RrSlL K x lo hi H Q
def rSlL(K:Nb):V→Option Int→Option Int→Hp→VK→Prop:=λx lo hi H Q=>RrSlL K x lo hi H Q
def zdd:SlR X (rSlL X.K):=by
 intro a6 s σ H x v vl vu lo hi sl Q I rx hs pl pu h
 obtain⟨a,xs,rfl,hx,q⟩:=h
 cases rx
 obtain⟨a8,r,ht,hz⟩:=I.list hx
 have aa:=r.length
 refine⟨"list",_,slot_list_getitem.lookup,ht.isList.typeIs,?_⟩
 refine wpAny_getItem_list_slice ht.isList hs pl pu .none (by simp) ?_ (by rw[Qq]<;>exact zd1 ‹_› ‹_›)
 rw[zh8,←aa]
 refine⟨.ref s.heap.objs.size,_,I.laid (t':=s.toks) (o:=.lst (cutV xs lo hi)) (λb ob q=>Qi _ q) (Qf _) ?_,rfl,q _ (I.hok.fresh (Qf _))⟩
 exact⟨Zj (zb3 xs lo hi) hz,_,0,(r.drop (HT.sIx xs.length 0 lo)).take (HT.sIx xs.length xs.length hi-HT.sIx xs.length 0 lo),Zd _ rfl⟩
def zdp:V→Bool
 |.non=>true
 |.bl _=>true
 |.int _=>true
 |.str _=>true
 |_=>false
def eqV:V→V→Bool
 |.non,.non=>true
 |.bl a,.bl b=>a==b
 |.bl a,.int b=>(if a then 1 else 0)==b
 |.int a,.bl b=>a==(if b then 1 else 0)
 |.int a,.int b=>a==b
 |.str a,.str b=>a==b
 |_,_=>false
def eqAt_V{A:Nm}{s:Ng}{y x:V}{u v:Value}(ry:RelV y u)(rx:RelV x v)(fy:zdp y=true)(fx:zdp x=true):SeqAt.EqAt A s u v (eqV y x):=by
 cases y with
 |non =>
  cases ry
  cases x with
  |non=>cases rx;exact SeqAt.EqAt.same _
  |bl b=>cases rx;exact SeqAt.EqAt.none_bool b
  |int b=>obtain⟨t,rfl⟩:=rx;exact SeqAt.EqAt.none_int b t
  |str b=>obtain⟨t,rfl⟩:=rx;exact SeqAt.EqAt.none_str b t
  |_=>exact absurd (show false=true from fx) Zh
 |bl a =>
  cases ry
  cases x with
  |non=>cases rx;exact SeqAt.EqAt.bool_none a
  |bl b=>cases rx;exact SeqAt.EqAt.bool_bool a b
  |int b=>obtain⟨t,rfl⟩:=rx;exact SeqAt.EqAt.bool_int a b t
  |str b=>obtain⟨t,rfl⟩:=rx;exact SeqAt.EqAt.bool_str a b t
  |_=>exact absurd (show false=true from fx) Zh
 |int a =>
  obtain⟨t',rfl⟩:=ry
  cases x with
  |non=>cases rx;exact SeqAt.EqAt.int_none a t'
  |bl b=>cases rx;exact SeqAt.EqAt.int_bool a t' b
  |int b=>obtain⟨t,rfl⟩:=rx;exact SeqAt.EqAt.int_int a t' b t
  |str b=>obtain⟨t,rfl⟩:=rx;exact SeqAt.EqAt.int_str a t' b t
  |_=>exact absurd (show false=true from fx) Zh
 |str a =>
  obtain⟨t',rfl⟩:=ry
  cases x with
  |non=>cases rx;exact SeqAt.EqAt.str_none a t'
  |bl b=>cases rx;exact SeqAt.EqAt.str_bool a t' b
  |int b=>obtain⟨t,rfl⟩:=rx;exact SeqAt.EqAt.str_int a t' b t
  |str b=>obtain⟨t,rfl⟩:=rx;exact Uu a t' b t
  |_=>exact absurd (show false=true from fx) Zh
 |_=>exact absurd (show false=true from fy) Zh
def eqU(x:V)(u:Value):Bool:=match u with
 |.none=>eqV .non x
 |.bool b=>eqV (.bl b) x
 |.int i _=>eqV (.int i) x
 |.str z _=>eqV (.str z) x
 |_=>false
def eqU_of{x y:V}{u:Value}(r:RelV y u)(f:zdp y=true):eqU x u=eqV y x:=by
 cases y with
 |non=>cases r;rfl
 |bl b=>cases r;rfl
 |int i=>obtain⟨t,rfl⟩:=r;rfl
 |str z=>obtain⟨t,rfl⟩:=r;rfl
 |_=>exact absurd (show false=true from f) Zh
theorem zhe{x:V}:∀{xs:List V} {us:Nh},Vals xs us→xs.all zdp=true→us.any (eqU x)=xs.any λy=>eqV y x
 |_,_,.nil,_=>rfl
 |y::xs,u::us,.cons r t,f=>by
  rw[List.all_cons,Jd]at f
  rw[Kq,Kq,eqU_of r f.1,zhe t f.2]
theorem zd0{A:Nm}{s:Ng}{x:V}{v:Value}(rx:RelV x v)(fx:zdp x=true):∀{xs:List V} {us:Nh},Vals xs us→xs.all zdp=true→∀u∈us,SeqAt.EqAt A s u v (eqU x u)
 |_,_,.nil,_=>λu hu=>by cases hu
 |y::xs,u::us,.cons r t,f=>λu' hu=>by
  rw[List.all_cons,Jd]at f
  rcases Qh.mp hu with rfl | hu
  ·rw[eqU_of r f.1];exact eqAt_V r rx f.1 fx
  ·exact zd0 rx fx t f.2 u' hu
def inV(x:V)(xs:List V):Bool:=xs.any λy=>eqV y x
inductive RrIn(K:Nb)(neg:Bool)(x:V)(y:V)(H:Hp)(Q:VK):Prop
 |mk (p:_) (xs:_) (h0:y=.ref p) (h1:(SqL K H p xs∨SqT K H p xs)) (h2:zdp x=true) (h3:xs.all zdp=true) (h4:Q (.bl (if neg then !inV x xs else inV x xs)) H):RrIn K neg x y H Q
def rIn(K:Nb)(neg:Bool):R2:=λx y H Q=>RrIn K neg x y H Q
def op_in_seq:OpR X (compareOp .In) (rIn X.K false):=by
 intro a6 s σ H x y v u Q I rx ry h
 obtain⟨p,xs,rfl,hq,fx,fs,q⟩:=h
 cases ry
 rcases hq with hq | hq
 ·obtain ⟨a8,r,pl,hz⟩:=I.list hq
  refine SeqAt.in_listAt (eqU x) pl.isList (λw hw=>zd0 rx fx r fs w (by simpa using hw)) ⟨.bl _,H,I,rfl,?_⟩
  rw[show a8.toArray.any (eqU x)=a8.any (eqU x) by simp,zhe r fs]
  exact q
 ·obtain ⟨a8,r,pl,hz⟩:=I.tuple hq
  refine SeqAt.in_tupleAt (eqU x) pl (λw hw=>zd0 rx fx r fs w (by simpa using hw)) ⟨.bl _,H,I,rfl,?_⟩
  rw[show a8.toArray.any (eqU x)=a8.any (eqU x) by simp,zhe r fs]
  exact q
def zdt:OpR X (compareOp .NotIn) (rIn X.K true):=by
 intro a6 s σ H x y v u Q I rx ry h
 obtain⟨p,xs,rfl,hq,fx,fs,q⟩:=h
 cases ry
 rcases hq with hq | hq
 ·obtain ⟨a8,r,pl,hz⟩:=I.list hq
  refine SeqAt.notIn_listAt (eqU x) pl.isList (λw hw=>zd0 rx fx r fs w (by simpa using hw)) ⟨.bl _,H,I,rfl,?_⟩
  rw[show a8.toArray.any (eqU x)=a8.any (eqU x) by simp,zhe r fs]
  exact q
 ·obtain ⟨a8,r,pl,hz⟩:=I.tuple hq
  refine SeqAt.notIn_tupleAt (eqU x) pl (λw hw=>zd0 rx fx r fs w (by simpa using hw)) ⟨.bl _,H,I,rfl,?_⟩
  rw[show a8.toArray.any (eqU x)=a8.any (eqU x) by simp,zhe r fs]
  exact q
def zan:zce X (.builtin "len") (λxs H Q=>Ex2 λp ys=>Aj3 (xs=[.ref p]) ((SqL X.K H p ys)∨( SqT X.K H p ys)) (Q (.int ys.length) H)):=by
 intro a6 s σ H xs us Q I r h
 obtain⟨p,ys,rfl,hq,q⟩:=h
 obtain⟨u,rfl,rx⟩:=vals1 r
 cases rx
 have hn:=zet
 rcases hq with hq | hq
 ·obtain ⟨a8,r',pl,hz⟩:=I.list hq
  have aa:=r'.length
  exact Calls.call_len_list pl.isList (by simp only[Qq]<;>lia) ⟨.int ys.length,H,I.tok _,⟨s.toks+1,by rw[Qq,aa]⟩,q⟩
 ·obtain ⟨a8,r',pl,hz⟩:=I.tuple hq
  have aa:=r'.length
  exact len_tuple pl (by simp only[Qq]<;>lia) ⟨.int ys.length,H,I.tok _,⟨s.toks+1,by rw[Qq,aa]⟩,q⟩
def zb9:zce X (.builtin "len") (λxs H Q=>Ex1 λz=>Aj3 (xs=[.str z]) (z.length≤sizeLine) (Q (.int z.length) H)):=by
 intro a6 s σ H xs us Q I r h
 obtain⟨z,rfl,hz,q⟩:=h
 obtain⟨u,rfl,t,rfl⟩:=vals1 r
 have hn:=zet
 exact len_str (by lia) ⟨.int z.length,H,I.tok _,⟨_,rfl⟩,q⟩
def zfw:zce X (.type "list") (λxs H Q=>Ex2 λp ys=>Aj3 (xs=[.ref p]) ((SqL X.K H p ys)∨( SqT X.K H p ys)) (∀l,H l=none→Q (.ref l) (upd H l (.lst ys)))):=by
 intro a6 s σ H xs us Q I r h
 obtain⟨p,ys,rfl,hq,q⟩:=h
 obtain⟨u,rfl,rx⟩:=vals1 r
 cases rx
 have fin:∀(a8:Nh),Vals ys a8→ys.length≤sizeLine→∀(h':Nn) (c':Nat),(∀b o',s.heap.get? b=some o'→h'.get? b=some o') →
   h'.get? s.heap.objs.size=some {cls:=.type "list",dict:=none,data:=.seq a8.toArray c',slots:=#[]}→EP X a6 σ Q (.ref s.heap.objs.size) {s with heap:=h'}:=λa8 r' hz h' c' kp e =>
  ⟨.ref s.heap.objs.size,_,I.laid (t':=s.toks) kp (Qf _) (show zbt X.prog X.w _ h' _ (.lst ys) from⟨hz,a8,c',r',e⟩),rfl,q _ (I.hok.fresh (Qf _))⟩
 rcases hq with hq | hq
 ·obtain ⟨a8,r',pl,hz⟩:=I.list hq
  have aa:=r'.length
  obtain⟨o,ho,hc,n,hd⟩:=pl.isList
  exact call_list_seq p (.inl rfl) ho hc hd (λh' c' kp e=>fin a8 r' hz h' c' kp e) (by simp only[Qq]<;>exact zd1 ‹_› ‹_›)
 ·obtain ⟨a8,r',pl,hz⟩:=I.tuple hq
  have aa:=r'.length
  obtain⟨o,ho,hc,n,hd⟩:=pl
  exact call_list_seq p (.inr rfl) ho hc hd (λh' c' kp e=>fin a8 r' hz h' c' kp e) (by simp only[Qq]<;>exact zd1 ‹_› ‹_›)
def ziz:zce X (.type "tuple") (λxs H Q=>Ex2 λp ys=>Aj2 (xs=[.ref p]) ((Aj2 (SqL X.K H p ys) (∀l,H l=none→Q (.ref l) (upd H l (.tup ys))))∨(Aj2 (SqT X.K H p ys) (Q (.ref p) H)))):=by
 intro a6 s σ H xs us Q I r h
 obtain⟨p,ys,rfl,h⟩:=h
 obtain⟨u,rfl,rx⟩:=vals1 r
 cases rx
 rcases h with⟨hq,q⟩ | ⟨hq,q⟩
 ·obtain ⟨a8,r',pl,hz⟩:=I.list hq
  have aa:=r'.length
  refine call_tuple_list pl.isList (λh' kp=>?_) (by simp only[Qq]<;>exact zd1 ‹_› ‹_›)
  have I1:Inv X a6 σ H {s with heap:=h'}:=I.kept (t':=s.toks) kp
  have I2:Inv X a6 σ (upd H h'.objs.size (.tup ys)) {s with heap:=h'.push {cls:=.type "tuple",data:=.seq a8.toArray}} :=
   I1.laid (t':=s.toks) (λb o e=>Qi _ e) (Qf _) (show zbt X.prog X.w _ _ _ (.tup ys) from⟨hz,a8,r',IsTup.new _ _⟩)
  exact⟨.ref h'.objs.size,_,I2,rfl,q _ (I1.hok.fresh (Qf _))⟩
 ·obtain ⟨a8,r',pl,hz⟩:=I.tuple hq
  exact call_tuple_same pl ⟨.ref p,H,I,rfl,q⟩
def tyV(K:Nb)(T:String)(x:V)(H:Hp):Prop:=match x with
 |.str _=>T = "str"
 |.int _=>T = "int"
 | .ref p=>(T = "list" ∧ ∃ xs,SqL K H p xs)∨(T = "tuple" ∧ ∃ o,K.lookup p=some o∧o.cls=.type "tuple" ∧ o.dict=none) ∨
   (T = "dict" ∧ ((∃kvs,H p=some (.dK kvs))∨∃kvs,H p=some (.dT kvs)))∨(T = "set" ∧ ∃S n,H p=some (.set S n))
 |_=>False
def tyV_is{a6:Nd}{σ:St}{H:Hp}{s:Ng}{T:String}{x:V}{v:Value}(I:Inv X a6 σ H s)(r:RelV x v)(ty:tyV X.K T x H) :
  s.TypeIs v T∧∀a,v=.ref a→∃ob,s.heap.get? a=some ob∧ob.dict=none:=by
 cases x with
 |str z =>
  obtain⟨t,rfl⟩:=r
  cases(show T = "str" from ty)
  exact⟨typeIs_str s z t,λ_ e=>nomatch e⟩
 |int i =>
  obtain⟨t,rfl⟩:=r
  cases(show T = "int" from ty)
  exact⟨typeIs_int s i t,λ_ e=>nomatch e⟩
 | ref p =>
  cases r
  rcases ty with⟨rfl,xs,hq⟩ | ⟨rfl,o,hk,hc,hd⟩ | ⟨rfl,hk⟩ | ⟨rfl,S,n,hk⟩
  ·obtain ⟨a8,_,pl,_⟩:=I.list hq
   refine⟨pl.isList.typeIs,λa e=>?_⟩
   cases e
   obtain⟨o,n,e,c,hd,_⟩:=pl
   exact⟨o,e,hd⟩
  ·refine ⟨⟨o,I.kIn p o hk,hc⟩,fun a e=>?_⟩
   cases e
   exact⟨o,I.kIn _ o hk,hd⟩
  ·have z:∃ o,s.heap.get? p=some o∧o.ExactDict:=by
    rcases hk with⟨kvs,hk⟩ | ⟨kvs,hk⟩
    ·obtain ⟨_,_,_,_,o,_,_,e,ex,_⟩:=I.hok p _ hk
     exact⟨o,e,ex⟩
    ·obtain ⟨_,_,_,_,o,_,_,e,ex,_⟩:=I.hok p _ hk
     exact⟨o,e,ex⟩
   obtain⟨o,e,ex⟩:=z
   refine⟨⟨o,e,ex.1⟩,λa e2=>?_⟩
   cases e2
   exact⟨o,e,ex.2.1⟩
  ·obtain ⟨o,_,_,_,e,ex,_⟩:=I.hok p _ hk
   refine⟨⟨o,e,ex.1⟩,λa e2=>?_⟩
   cases e2
   exact⟨o,e,ex.2.1⟩
 |_=>exact False.elim ty
def tBM0(K:Nb)(T:String)(r:V→List V→Hp→VK→Prop)(to:TE):TE:=λ σ H Q=>to σ H λx H1=>tyV K T x H1∧r x [] H1 Q
def tBM(K:Nb)(T:String)(r:V→List V→Hp→VK→Prop)(to:TE)(t:TA):TE:=λ σ H Q=>to σ H λx H1=>tyV K T x H1∧t σ H1 λxs H2=>r x xs H2 Q
variable{o e:Expr}{es:Nq}{to:TE}{t:TA}{name:Str}{apos cpos:Pos}{T id:String}{r:V→List V→Hp→VK→Prop}
def pe_bm0(pa:PlainAttrs T)(slot:Slot T name id)(pF:typeOf (.builtin id)=pure (.type "method_descriptor"))(hm:MtR X id r)(ho:PE X o to)(fF:attributeBase o name X.env (eval o X.env)=eval o X.env:=by rfl)(eQ:(apos.endLine==cpos.line)=true:=by rfl):PE X (.Call (.Attribute o name apos) [] [] cpos) (tBM0 X.K T r to):=by
 intro a6 s σ H Q I h
 refine wpAny_Call_method0_late fF eQ (thn (ho a6 s σ H _ I h) λv s1 ⟨x,H1,I1,r1,ty,q1⟩=>?_)
 obtain⟨h1,h2⟩:=tyV_is I1 r1 ty
 exact⟨T,id,pa,slot,pF,h1,h2,Calls.callWith_builtin rfl (PySem.evalArgs_none (hm a6 s1 σ H1 x [] v [] Q I1 r1 .nil q1))⟩
def zb7(pa:PlainAttrs T)(slot:Slot T name id)(pF:typeOf (.builtin id)=pure (.type "method_descriptor"))(hm:MtR X id r)(ho:PE X o to)(ha:PA X (e::es) t)(fF:attributeBase o name X.env (eval o X.env)=eval o X.env:=by rfl)(qZ:((backTo cpos (starEach (e::es) X.env)).all (fun x=>!x.1) && (backToKw cpos (keywordEach [] X.env)).all (fun x=>x.1.isSome)
   && decide ((e::es).length+([]:List Keyword).length+(if([]:List Keyword).isEmpty then 0 else 1)<30))=true:=by rfl)(eQ:(apos.endLine==cpos.line)=true:=by rfl)(hs:starEach (e::es) X.env=(false,eval e X.env)::starEach es X.env:=by rfl)(iS:(backTo cpos (starEach es X.env)).any (·.1)=false:=by rfl) :
  PE X (.Call (.Attribute o name apos) (e::es) [] cpos) (tBM X.K T r to t):=by
 intro a6 s σ H Q I h
 refine wpAny_Call_method_late fF qZ eQ rfl (thn (ho a6 s σ H _ I h) λv s1 ⟨x,H1,I1,r1,ty,q1⟩=>?_)
 obtain⟨h1,h2⟩:=tyV_is I1 r1 ty
 refine⟨T,id,pa,slot,pF,h1,h2,?_⟩
 have hA:=ha cpos a6 s1 σ H1 _ I1 q1
 rw[hs]at hA ⊢
 refine Calls.callWith_builtin (by show(false||(backTo cpos (starEach es X.env)).any (·.1))=false;rw[iS]<;>rfl) (Calls.evalArgs_plain ?_)
 exact thn hA λus s2 ⟨vs,H2,I2,r2,q2⟩=>hm a6 s2 σ H2 x vs v us Q I2 r1 r2 q2
end
end L2
namespace L2
open PySem PySem.Spec PyProof.Rows
def MtM(X:Cx)(id:String)(r:V→List V→Hp→VK→Prop):Prop :=
 ∀(a6:Nd) (s:Ng) (σ:St) (H:Hp) (x:V) (xs:List V) (v:Value) (us:Nh) (Q:VK),Inv X a6 σ H s→RelV x v→Vals xs us→r x xs H Q →
  wpAny (model X.prog X.w) X.A (call (.builtin id) (v::us)) (EP X a6 σ Q) X.xe s
theorem Vals.one:∀{x:V} {us:Nh},Vals [x] us→∃u,us=[u]∧RelV x u
 |_,_,.cons r .nil=>⟨_,rfl,r⟩
theorem Vals.two:∀{x y:V} {us:Nh},Vals [x,y] us→∃u v,us=[u,v]∧RelV x u∧RelV y v
 |_,_,_,.cons r (.cons q .nil)=>⟨_,_,rfl,r,q⟩
theorem Vals.zero:∀{us:Nh},Vals [] us→us=[]
 |_,.nil=>rfl
def Vals.dropLast{xs:List V}{us:Nh}(h:Vals xs us):Vals xs.dropLast us.dropLast:=by
 induction h with
 |nil=>exact .nil
 |cons r t ih =>
  cases t with
  |nil=>exact .nil
  |cons q t'=>exact .cons r ih
def Vals.reverse{xs:List V}{us:Nh}(h:Vals xs us):Vals xs.reverse us.reverse:=by
 induction h with
 |nil=>exact .nil
 |cons r t ih=>rw[Xj,Xj];exact Vals.append ih (.cons r .nil)
def erase_last{α:Type}(l:List α):l.eraseIdx (l.length - 1)=l.dropLast:=by
 induction l with
 |nil=>rfl
 | cons a r ih =>
  cases r with
  |nil=>rfl
  | cons b r =>
   have e:(a::b::r).length-1=((b::r).length-1)+1:=by
    have h1:(a::b::r).length=r.length+2:=rfl
    have h2:(b::r).length=r.length+1:=rfl
    assumption
   rw[e,List.eraseIdx_cons_succ,ih]
   all_goals rfl
section
variable{X:Cx}{a6:Nd}{σ:St}{H:Hp}{s:Ng}{l b:Nc}{xs ys zs:List V}
def Inv.lset{a8 its':Nh}{n:Nat}{f:Array Value→Array Value}{t':Nat}(I:Inv X a6 σ H s)(hH:H l=some (.lst xs))(e:s.heap.get? l=some {cls:=.type "list",data:=.seq a8.toArray n})(hf:f a8.toArray=its'.toArray)(hv:Vals ys its')(hz:ys.length≤sizeLine) :
  Inv X a6 σ (upd H l (.lst ys)) {s with heap:=s.heap.update l (Obj.mapSeq f),toks:=t'}:=by
 have q:=PySem.IsL.update e f
 rw[hf]at q
 refine I.write (x:=l) (e:=l) (by rw[hH];exact trivial) (.inl rfl) (λb' u hb hu=>(Js s.heap (Obj.mapSeq f) (Zo hb)).trans hu) ⟨_,q⟩ ?_
 exact⟨hz,its',_,hv,q⟩
def Inv.lnew{a8:Nh}{t':Nat}(I:Inv X a6 σ H s)(hv:Vals ys a8)(hz:ys.length≤sizeLine) :
  Inv X a6 σ (upd H s.heap.objs.size (.lst ys)) {s with heap:=s.heap.push {cls:=.type "list",data:=.seq a8.toArray},toks:=t'} :=
 I.laid (λ_ _ q=>Qi _ q) (Qf _) ⟨hz,a8,0,hv,Zd _ rfl⟩
def Inv.fresh(I:Inv X a6 σ H s):H s.heap.objs.size=none:=I.hok.fresh (Qf _)
def Inv.lstM(I:Inv X a6 σ H s)(hH:H l=some (.lst xs)):xs.length≤sizeLine∧∃(a8:Nh) (n:Nat),Vals xs a8∧xs.length=a8.length∧s.heap.get? l=some {cls:=.type "list",data:=.seq a8.toArray n}:=by
 obtain⟨z,a8,n,r,e⟩:=I.hok l _ hH
 exact⟨z,a8,n,r,r.length,e⟩
def notLongL{n:Nat}(h:n≤sizeLine):Builtin.List.listTooLong n=false:=by
 unfold Builtin.List.listTooLong
 exact decide_eq_false (by lia)
end
section
variable{X:Cx}
inductive RrAppend(x:V)(vs:List V)(H:Hp)(Q:VK):Prop
 |mk (l:_) (xs:_) (y:_) (h0:x=.ref l) (h1:vs=[y]) (h2:H l=some (.lst xs)) (h3:xs.length<sizeLine) (h4:Q .non (upd H l (.lst (xs++[y])))):RrAppend  x vs H Q
def rAppend:V→List V→Hp→VK→Prop:=λx vs H Q=>RrAppend  x vs H Q
def za1:MtM X "list.append" rAppend:=by
 intro a6 s σ H x vs v us Q I rx rv h
 obtain⟨l,xs,y,rfl,rfl,hH,hz,q⟩:=h
 cases rx
 obtain⟨u,rfl,ru⟩:=rv.one
 obtain⟨z,a8,n,r,hl,e⟩:=I.lstM hH
 refine call_meets F.slot_list_append ⟨_,e,rfl⟩ F.entry_list_append (F.args_list_append_2 _ _) (PySem.list_append l a8.toArray n u (by rw[Qq];exact zd1 ‹_› ‹_›)) ⟨e,?_⟩
 refine⟨.non,_,I.lset (its':=a8++[u]) hH e (by simp) (r.append (.cons ru .nil)) ?_,rfl,q⟩
 rw[Ql,Jm]
 assumption
def rExtend:V→List V→Hp→VK→Prop:=λx vs H Q=>∃l b xs zs,x=.ref l∧vs=[.ref b]∧H l=some (.lst xs)∧H b=some (.lst zs)∧xs.length+zs.length≤sizeLine∧Q .non (upd H l (.lst (xs++zs)))
def mt_extend:MtM X "list.extend" rExtend:=by
 intro a6 s σ H x vs v us Q I rx rv h
 obtain⟨l,b,xs,zs,rfl,rfl,hH,hB,hz,q⟩:=h
 cases rx
 obtain⟨u,rfl,ru⟩:=rv.one
 cases ru
 obtain⟨z,a8,n,r,hl,e⟩:=I.lstM hH
 obtain⟨z2,ax,n2,r2,ak,e2⟩:=I.lstM hB
 have hsz:a8.toArray.size+ax.toArray.size≤sizeLine:=by rw[Qq,Qq];lia
 have lJ:¬(!a8.toArray.isEmpty&&Builtin.List.listTooLong (a8.toArray.size+ax.toArray.size))=true:=by
  rw[notLongL hsz,Bool.and_false]
  exact Zh
 refine call_meets F.slot_list_extend ⟨_,e,rfl⟩ F.entry_list_extend (F.args_list_extend_2 _ _)
  (AutoSeq1.list_extend_list_list_0 l a8.toArray n b ax.toArray n2 lJ (by rw[Qq];lia) (by exact zh2 ‹_›)) ⟨e,e2,?_⟩
 refine⟨.non,_,I.lset (its':=a8++ax) hH e (by simp) (r.append r2) ?_,rfl,q⟩
 rw[Ql]
 assumption
inductive RrPop(x:V)(vs:List V)(H:Hp)(Q:VK):Prop
 |mk (l:_) (xs:_) (y:_) (h0:x=.ref l) (h1:vs=[]) (h2:H l=some (.lst xs)) (h3:xs[xs.length-1]?=some y) (h4:Q y (upd H l (.lst xs.dropLast))):RrPop  x vs H Q
def rPop:V→List V→Hp→VK→Prop:=λx vs H Q=>RrPop  x vs H Q
def mt_pop:MtM X "list.pop" rPop:=by
 intro a6 s σ H x vs v us Q I rx rv h
 obtain⟨l,xs,y,rfl,rfl,hH,hy,q⟩:=h
 cases rx
 have pC:=rv.zero
 subst pC
 obtain⟨z,a8,n,r,hl,e⟩:=I.lstM hH
 obtain⟨u,hu,ru⟩:=r.get hy
 have d0:a8.toArray[a8.toArray.size-1]?=some u:=by
  show a8.toArray[a8.length-1]?=some u
  rw[←Us,←hl]
  exact hu
 refine call_meets F.slot_list_pop ⟨_,e,rfl⟩ F.entry_list_pop (F.args_list_pop_1 _) (MeetsSeq.list_pop_last l a8.toArray n u d0 (by rw[Qq];exact zd1 ‹_› ‹_›)) ⟨e,?_⟩
 refine⟨y,_,I.lset (its':=a8.dropLast) hH e ?_ r.dropLast ?_,ru,q⟩
 ·show a8.toArray.eraseIdxIfInBounds (a8.toArray.size - 1)=a8.dropLast.toArray
  rw[Qq,List.eraseIdxIfInBounds_toArray,erase_last]
 ·rw [List.length_dropLast]
  lia
def rClear:V→List V→Hp→VK→Prop:=λx vs H Q=>∃l xs,x=.ref l∧vs=[]∧H l=some (.lst xs)∧Q .non (upd H l (.lst []))
def mt_clear:MtM X "list.clear" rClear:=by
 intro a6 s σ H x vs v us Q I rx rv h
 obtain⟨l,xs,rfl,rfl,hH,q⟩:=h
 cases rx
 have pC:=rv.zero
 subst pC
 obtain⟨z,a8,n,r,hl,e⟩:=I.lstM hH
 refine call_meets F.slot_list_clear ⟨_,e,rfl⟩ F.entry_list_clear (F.args_list_clear_1 _) (AutoSeq1.list_clear_list_0 l a8.toArray n (by rw[Qq];exact zd1 ‹_› ‹_›)) ⟨e,?_⟩
 exact⟨.non,_,I.lset (its':=[]) (ys:=[]) hH e rfl .nil (Zn _),rfl,q⟩
inductive RrCat(x:V)(y:V)(H:Hp)(Q:VK):Prop
 |mk (l:_) (b:_) (xs:_) (zs:_) (h0:x=.ref l) (h1:y=.ref b) (h2:H l=some (.lst xs)) (h3:H b=some (.lst zs)) (h4:xs.length+zs.length≤sizeLine) (h5:∀p,H p=none→Q (.ref p) (upd H p (.lst (xs++zs)))):RrCat  x y H Q
def rCat:R2:=λx y H Q=>RrCat  x y H Q
def zd4:OpR X (binaryOp .Add) rCat:=by
 intro a6 s σ H x y v u Q I rx ry h
 obtain⟨l,b,xs,zs,rfl,rfl,hH,hB,hz,q⟩:=h
 cases rx
 cases ry
 obtain⟨z,a8,n,r,hl,e⟩:=I.lstM hH
 obtain⟨z2,ax,n2,r2,ak,e2⟩:=I.lstM hB
 refine PySem.P.add_list e e2 ?_ (by rw[Qq,Qq];lia)
 have ea:a8.toArray++ax.toArray=(a8++ax).toArray:=by simp
 rw[ea]
 exact⟨.ref _,_,I.lnew (t':=s.toks) (r.append r2) (by rw[Ql];assumption),rfl,q _ I.fresh⟩
end
section
variable{prog:Nj}{w:Nl}{A:Nm}{E:Na}{s:Ng}
end
section
variable{X:Cx}
end
end L2
namespace Att
open PySem PySem.W PySem.Calls PyProof.Rows
def zg8{P:Params}{h:Nn}:∀(ns:List Int) (vs:Nh),WellAll P h vs (ns.map WData.int)→IntsAre vs ns:=by
 intro ns
 induction ns with
 |nil =>
  intro vs w
  rw[Xd]at w
  cases w
  exact .nil
 | cons n ns ih =>
  intro vs w
  rw[Qj]at w
  cases w with
  |cons a b =>
   cases a
   exact .cons _ _ (ih _ b)
def script_of{l:OpenLaw}{n:Nat}(hn:l.most=some n){P:Params}{h:Nn}{args:List WData}{i9:Nh}(gj:l.row.toRowW.claim.pre args=true)(dk:WellAll P h i9 args) :
  ∃a vs ns,i9=[Value.ref a]∧args=[WData.list (ns.map WData.int)]∧h.get? a=some {cls:=.type "list",data:=.seq vs.toArray}∧IntsAre vs ns∧ns.length≤n:=by
 have hsh:WShape.hasAll [] args [.list .int]=true:=(pre_splitW gj).1
 have hc:l.pre.holds [] {args:=args}=true:=(pre_splitW gj).2
 obtain⟨d,r,rfl,h1,h2⟩:=hasAllW_cons hsh
 obtain rfl:=hasAllW_nil h2
 obtain⟨xs,rfl,h3⟩:=hasW_list h1
 obtain⟨ns,rfl⟩:=items_int h3
 have aa:ns.length≤n:=by
  unfold OpenLaw.pre at hc
  have h4:(WTm.not (.lt (.lit (.int (n:Int))) (.len (.arg 0)))).holds [] {args:=[.list (ns.map .int)]}=true:=by
   have h4:=(holds_andW hc).1
   rw[hn]at h4
   exact h4
  have h5:=condW_of h4 (w_not (w_lt w_lit (w_len_list (w_arg rfl))))
  rw[Qa]at h5
  refine Nat.le_of_not_lt λq=>?_
  have q':(n:Int)<((ns.length:Nat):Int):=by exact zar9 ‹_›
  first
   |(rw[decide_eq_true q']at h5;exact absurd h5 (by decide))
   |(simp at h5;lia)
 cases dk with
 |cons w1 w2 =>
  cases w2
  cases w1 with
  |list ho be=>exact⟨_,_,ns,rfl,rfl,ho,zg8 ns _ be,aa⟩
def post_true(l:OpenLaw)(args:List WData):l.row.toRowW.claim.post args (.bool true) args=true :=
 postW_of (r:=l.row.toRowW) (X:=(true==true))
  (show WShape.has [] (.bool true) .bool=true by first | rfl | decide | simp[WShape.has,WShape.arms,WShape.armsAll])
  (show(WTm.eq .res (.lit (.bool true))).value [] {args:=args,res:=some (.bool true),after:=args}=some (.bool (true==true)) from w_eq_bool (w_res rfl) w_lit) rfl
def attach_call{l:OpenLaw}{n:Nat}{q:Nj}{loose:Ni}{XP:(Str→Option Value)→Heap→Prop}{YP:World→Heap→Prop}{d:DefRec}(hn:l.most=some n)(md:d.params.defaults=[])(call:∀ (w:Nl) (s₀ s₁:Ng) (mg mb:Nf) (fa:Nc) (o:Obj) (pm cd doc:Value) (a:Nc) (vs:Nh) (ns:List Int),
   Ground q loose [] XP w s₀ mg mb s₁.heap→YP w s₁.heap →
   s₁.heap.get? fa=some o→o.data=.func (docDef d.name d.params d.body d.scope pm cd doc)→s₁.heap.CodeRec cd d.name→mg d.name=some (.ref fa) →
   s₁.heap.get? a=some {cls:=.type "list",data:=.seq vs.toArray}→IntsAre vs ns→ns.length≤n→s₁.gens=#[] →
   codeAny (model l.prog w) callerA (.call (.ref fa) ⟨[.ref a],[]⟩) (λr s'=>r=.ok (.ret (.bool true))∧OldK s₁.heap s'.heap∧s'.os=s₁.os∧AllBare s'.gens) s₁) :
  WalkO q loose XP YP l.row.toRowW d [] (λf vs=>PySem.call f vs):=by
 intro w s₀ s₁ mg mb G Y fa o pm cd doc dV kV ho hd aY hD qu hg args i9 as gj hlay hrd dk hlo
 obtain rfl:dV=.none:=Dflts.none hD md
 obtain rfl:kV=.none:=Dflts.noKw hD
 obtain⟨a,vs,ns,rfl,rfl,iU,eV,aa⟩:=script_of hn gj dk
 refine enter_call (codeAny_mono (call w s₀ s₁ mg mb fa o pm cd doc a vs ns G Y ho (fd_plain hd) aY qu iU eV aa hg) λr s' hq=>?_)
 obtain⟨rfl,h2,h3,h4⟩:=hq
 exact⟨.inl ⟨.bool true,.bool true,[],rfl,λ_=>rfl,.bool true,post_true l _,λ_=>⟨List.Pairwise.nil,λ_ hm=>(nomatch hm)⟩⟩,h2,h3,h4⟩
section
variable{prog:Nj}{w:Nl}{A:Nm}{E:Na}{s:Ng}{K:Frag}
end
end Att
namespace L2
open PySem PySem.Spec PyProof.Rows
theorem vals_ints:∀{vs:Nh} {ns:List Int},IntsAre vs ns→Vals (ns.map V.int) vs
 |_,_,.nil=>.nil
 |_,_,.cons n t h=>.cons ⟨t,rfl⟩ (vals_ints h)
def Only(H:Hp):Prop:=∀b,H b=none∨∃o xs,H b=some (.frz o (.lst xs))
def law_call{P:Nj}{w:Nl}{K:Nb}{mg mb:Nf}{CX:CXT}{k:Nat}{fa a:Nc}{fd:Nt}{x:Str}{sp:Sp}{s₁:Ng}{vs:Nh}{ns:List Int}(KX:K.In s₁.heap)(nV:s₁.heap.Ns mainGlobals mg)(hb:s₁.heap.Ns builtinsNs mb)(og:∀x:Str,x ≠ "__name__" → mb x=bootBuiltins x)(qy:s₁.heap.NoLimit)(hg:s₁.gens=#[])(ha:s₁.heap.get? a=some {cls:=.type "list",data:=.seq vs.toArray})(hi:IntsAre vs ns)(hl:ns.length≤sizeLine)(hr:Room k callerA)(F:∀base:Heap,K.In base→base.Ns mainGlobals mg→FnOk P w K mg base CX k fa fd [x] sp)(mi:∀(s:Shared) (u:Value),BindsTo s fd ⟨[u],[]⟩ [(x,u)])(bH:∀H:Hp,Only H→SqL K H a (ns.map V.int)→sp [.ref a] H (λv _=>v=.bl true) λ_ _ _=>False)(sk:∀H e s',CX [] H s₁ (λ_ _ _=>False) e s'→False) :
  codeAny (model P w) callerA (.call (.ref fa) ⟨[.ref a],[]⟩) (λr s'=>r=.ok (.ret (.bool true))∧OldK s₁.heap s'.heap∧s'.os=s₁.os∧AllBare s'.gens) s₁:=by
 have rv:=vals_ints hi
 have lenV:=hi.length
 have core:∀ H:Hp,Only H→SqL K H a (ns.map V.int)→HOk P w H s₁.heap→(∀ b,H b≠none→b=a)→(H a≠none→K.lookup a=none) →
   codeAny (model P w) callerA (.call (.ref fa) ⟨[.ref a],[]⟩) (λr s'=>r=.ok (.ret (.bool true))∧OldK s₁.heap s'.heap∧s'.os=s₁.os∧AllBare s'.gens) s₁:=by
  intro H hO hS hok hA hK
  have base_of:∀{b:Nc} {o:Obj},s₁.heap.get? b=some o→H b=none→(hidT s₁.heap H).get? b=some o:=λe n=>hidT_get e n
  have noA:∀{b:Nc} {o:Obj} {es:Array DictEntry} {ep:Nat},s₁.heap.get? b=some o→o.data=.dict es ep→H b=none:=λ{b o es ep} e d=>by
   cases q:H b with
   |none=>rfl
   |some u =>
    have e':b=a:=hA b (by rw[q];simp)
    subst e'
    rw[ha]at e;cases e
    have d':Data.seq vs.toArray _=Data.dict es ep:=d
    cases d'
  have nsK:∀{b:Nc} {m:Nf},s₁.heap.Ns b m→(hidT s₁.heap H).Ns b m:=λ{b m} ⟨o,es,ep,e,d,r⟩=>⟨o,es,ep,base_of e (noA e d),d,r⟩
  have hKb:K.In (hidT s₁.heap H):=λb o e=>base_of (KX b o e) (by
   cases q:H b with
   |none=>rfl
   |some u =>
    have e':b=a:=hA b (by rw[q];simp)
    subst e'
    rw[hK (by rw[q];simp)]at e;cases e)
  have hM:Mod K mg (hidT s₁.heap H):=⟨hKb,nsK nV,⟨mb,nsK hb,og⟩,let⟨mc,h1,h2⟩:=qy;⟨mc,nsK h1,h2⟩⟩
  have e0:Env0 P w K mg (hidT s₁.heap H) callerA [] s₁ H:=⟨rfl,hM,λb o e=>of_hidT e,Nat.le_of_eq (hidT_size _ _),trivial,λb hb=>absurd (show b∈([]:List Addr) from hb) (by simp),hok,.of_eq hg⟩
  refine codeAny_mono ((F _ hKb (nsK nV)).run callerA [] s₁ H ⟨[.ref a],[]⟩ [.ref a] [.ref a] _ _ hr e0 (mi s₁ (.ref a)) (.cons rfl .nil) (bH H hO hS)) λr s' h=>?_
  cases r with
  |error e=>exact(sk H e s' h).elim
  | ok fl =>
   cases fl with
   |next=>exact False.elim h
   |brk=>exact False.elim h
   |cont=>exact False.elim h
   | ret u =>
    obtain⟨v,H',os,bare,un,qm,r',q⟩:=h
    have q':v=.bl true:=q
    subst q'
    obtain rfl:u=Value.bool true:=r'
    refine⟨rfl,OldK.of_keep λb o e=>?_,os,bare⟩
    cases q:H b with
    |none=>exact un.keep b o e q (by intro z;exact absurd (show b∈([]:List Addr) from z) (by simp)) (by simp)
    | some u =>
     rcases hO b with z | ⟨ob,xs,z⟩
     ·rw[q]at z;cases z
     ·have z2:=un.frzs b ob _ z
      obtain⟨e1,_⟩:=hok b _ z
      obtain⟨e2,_⟩:=qm b _ z2
      rw[e]at e1;cases e1
      exact e2
 cases hk:K.lookup a with
 |some o =>
  have e:=KX a o hk
  rw[ha]at e
  cases e
  refine core (λ_=>none) (λ_=>.inl rfl) (.inr ⟨_,vs.toArray,_,hk,rfl,rfl,rfl,by rw[Qq,lenV];exact hl,by simpa using rv⟩) (λb u z=>by have z':(none:Option HO)=some u:=z;cases z') (λb z=>absurd rfl z) λz=>absurd rfl z
 | none =>
  refine core (λb=>if b=a then some (.frz {cls:=.type "list",data:=.seq vs.toArray} (.lst (ns.map V.int))) else none) (λb=>?_) (.inl (.inr ⟨{cls:=.type "list",data:=.seq vs.toArray},if_pos rfl⟩)) (λb u z=>?_) (λb z=>?_) λ_=>hk
  ·by_cases hb:b=a
   ·exact .inr ⟨_,_,if_pos hb⟩
   ·exact .inl (if_neg hb)
  ·by_cases hb:b=a
   ·have z':=(if_pos hb).symm.trans z
    cases z'
    subst hb
    exact⟨ha,by rw[Qa];exact hl,vs,_,rv,ha⟩
   ·have z':=(if_neg hb).symm.trans z
    cases z'
  ·by_cases hb:b=a
   ·exact hb
   ·exact absurd (if_neg hb) z
end L2
namespace L2
open PySem PySem.Spec PyProof.Rows
def walk_of{l:PySem.W.OpenLaw}{n k:Nat}{q:Nj}{loose:Ni}{XP:(Str→Option Value)→Heap→Prop}{YP:World→Heap→Prop}{d:DefRec}{K:Params→PySem.W.Frag}{CX:World→CXT}{sp:World→Sp}{x:Str}(hn:l.most=some n)(bd:n≤sizeLine)(md:d.params.defaults=[])(hr:Room k callerA)(hY:∀(w:World) (h:Heap),YP w h→(K w.params).In h)(F:∀ (w:Nl) (mg:Nf) (fa:Nc) (h:Nn),(K w.params).In h→h.Ns mainGlobals mg→mg d.name=some (.ref fa) →
   ∃fd:FuncData,(∀(s:Ng) (u:Value),BindsTo s fd ⟨[u],[]⟩ [(x,u)]) ∧
    ∀base:Heap,(K w.params).In base→base.Ns mainGlobals mg→FnOk l.prog w (K w.params) mg base (CX w) k fa fd [x] (sp w))(bH:∀(w:Nl) (H:Hp) (a:Nc) (ns:List Int),ns.length≤n→Only H→SqL (K w.params) H a (ns.map V.int)→sp w [.ref a] H (λv _=>v=.bl true) λ_ _ _=>False)(sk:∀(w:World) (H:Hp) (s:Shared) (e:Value) (s':Shared),CX w [] H s (λ_ _ _=>False) e s'→False) :
  PySem.W.WalkO q loose XP YP l.row.toRowW d [] (λf vs=>PySem.call f vs):=by
 refine Att.attach_call hn md λw s₀ s₁ mg mb fa o pm cd doc a vs ns G Y ho hd aY qu iU eV aa hg=>?_
 have KX:=hY w _ Y
 obtain⟨fd,hb,hF⟩:=F w mg fa _ KX G.T.g qu
 exact law_call KX G.T.g G.T.b G.T.builtins G.T.nolimit hg iU eV (Zj aa bd) hr hF hb (λH hO hS=>bH w H a ns aa hO hS) λH e s'=>sk w H s₁ e s'
end L2
namespace L2
open PySem PySem.Spec PyProof.Rows
def inClass(s:Stmt)(j:Nat):Stmt:=match s with
 |.ClassDef _ _ _ body _ _ _ _ _ _ _=>body.getD j (.Pass ⟨0,0,0,0⟩)
 |_=>.Pass ⟨0,0,0,0⟩
def zdi(s:Stmt):Arguments:=match s with
 |.FunctionDef _ a _ _ _ _ _ _ _ _=>a
 |_=>{posonlyargs:=[],args:=[],vararg:=none,kwonlyargs:=[],kw_defaults:=[],kwarg:=none,defaults:=[]}
def zcc(s:Stmt):List Stmt:=match s with
 |.FunctionDef _ _ b _ _ _ _ _ _ _=>b
 |_=>[]
def zag(s:Stmt):Scope:=match s with
 |.FunctionDef _ _ _ _ _ _ sc _ _ _=>sc
 |_=>{kind:=.function,names:=[],isGenerator:=false,isCoroutine:=false}
abbrev CX0:CXT:=λ_ _ _ _ _ _=>False
abbrev E0:XK:=λ_ _ _=>False
def za2{X:Cx}:Passes CX0 X E0:=λ_ _ _ _ _ _ _ h=>h.elim
structure Fun(K:Nb)(x qual:Str)(st:Stmt)(f:Nc)(fd:Nt):Prop where
 ex:∃(oc:Value) (od:Option Addr) (kV doc pm:Value) (an:Option Addr) (cdv ct:Value) (osl:Array (Option Value)),
  fd=PySem.W.fnOf x qual (zdi st) (zcc st) (zag st) .none kV doc pm an cdv ct∧K.lookup f=some ⟨oc,od,.func fd,osl⟩∧PySem.W.codeIn K cdv qual=true
 kp:PySem.W.keepIn K (.ref f)=true
section
variable{P:Nj}{w:Nl}{K:Nb}{mg:Nf}{base:Nn}
def Fun.ok{x qual:Str}{st:Stmt}{f:Nc}{fd:Nt}{N ps:Ni}{k:Nat}{sp:Sp}(F:Fun K x qual st f fd)(S:zas N ps (zag st))(len:∀vs H Q E,sp vs H Q E→vs.length=ps.length)(cz:∀ (cdv:Value) (A:Nm) (outer:List Env) (s:Ng) (H:Hp) (vs:List V) (Q:VK) (E:XK),Room k (A.deeper (envOfC qual (zag st) s.heap.objs.size f cdv))→sp vs H Q E →
   ∃t,PSs (cxOf CX0 P w K mg base N qual (zag st) f cdv A outer s H E).nox (zcc st) t∧t {nx:=λ_ H'=>Q .non H',rt:=Q} (start N vs) H):FnOk P w K mg base CX0 (k+1) f fd ps sp:=by
 obtain⟨oc,od,kV,doc,pm,an,cdv,ct,osl,rfl,lk,aY⟩:=F.ex
 refine fn_of lk aY S len λA outer s H vs Q E hr bH=>?_
 obtain⟨t,h,q⟩:=cz cdv A outer s H vs Q E hr bH
 exact⟨t,h.nox,q⟩
def Fun.binds{x qual:Str}{st:Stmt}{f:Nc}{fd:Nt}{ps:Ni}(F:Fun K x qual st f fd)(h:∀(kV doc pm:Value) (an:Option Addr) (cdv ct:Value) (us:Nh),us.length=ps.length→bindArgs (PySem.W.fnOf x qual (zdi st) (zcc st) (zag st) .none kV doc pm an cdv ct) ⟨us,[]⟩=pure (ps.zip us)):Binds K fd ps []:=by
 obtain⟨oc,od,kV,doc,pm,an,cdv,ct,osl,rfl,lk,aY⟩:=F.ex
 exact .all (h kV doc pm an cdv ct)
def fun_mk{x qual:Str}{st:Stmt}{f:Nc}{oc:Value}{od an:Option Addr}{osl:Array (Option Value)}{kV doc pm cdv ct:Value}(l:K.lookup f=some ⟨oc,od,.func (PySem.W.fnOf x qual (zdi st) (zcc st) (zag st) .none kV doc pm an cdv ct),osl⟩)(c:PySem.W.codeIn K cdv qual=true)(k:PySem.W.keepIn K (.ref f)=true):Fun K x qual st f (PySem.W.fnOf x qual (zdi st) (zcc st) (zag st) .none kV doc pm an cdv ct):=⟨⟨oc,od,kV,doc,pm,an,cdv,ct,osl,rfl,l,c⟩,k⟩
end
def zct{A:Nm}{k:Nat}(hr:Room k A):A.units+1<cLine:=We (Xa (by decide:1≤64) _) hr.units
section
variable{X:Cx}
def pv(i:Nat){x:Str}{pos:Pos}(hN:X.N[i]?=some x:=by rfl)(hv:Vis X.env.scope x:=by first | exact Or.inl rfl | exact Or.inr (Or.inl rfl) | exact Or.inr (Or.inr rfl))(hd:(x==("__debug__" : Str))=false:=by decide)(aY:(x==("__classdict__" : Str))=false:=by decide):PE X (.Name x pos) (tVar i):=pe_var hN hv hd aY
end
def iteF{A B:Prop}(h:B):if false=true then A else B:=by
 rw[if_neg Zh]
 exact h
def iteT{A B:Prop}(h:A):if true=true then A else B:=by
 rw[if_pos rfl]
 exact h
def ite2{c A B:Prop}[Decidable c](h1:c→A)(h2:¬c→B):if c then A else B:=by
 by_cases h:c
 ·rw [if_pos h]
  exact h1 h
 ·rw [if_neg h]
  exact h2 h
section
variable{κ:Type}[DecidableEq κ]
end
end L2
end
section
namespace L2
open PySem PySem.Spec PyProof.Rows
def clOf(sc:Scope)(env:Env):List (Str×Addr):=sc.names.foldl (λcs y=>if(y.2==NameKind.free)=true then(y.1,(env.cells.lookup y.1).getD 0)::cs else cs) []
theorem cl_fold:∀(l:List (Str×NameKind)) (cs:List (Str×Addr)),(∀y∈l,y.2=.free→∃c,env.cells.lookup y.1=some c) →
  (forIn l cs (fun (y:Str×NameKind) (r:List (Str×Addr))=>(do
   let(name,kind):=y
   if(kind==.free)=true then do
    let a ←cellOf env name
    pure (ForInStep.yield ((name,a)::r))
   else pure (ForInStep.yield r):Sem (ForInStep (List (Str×Addr))))))=(pure (l.foldl (λcs y=>if(y.2==NameKind.free)=true then(y.1,(env.cells.lookup y.1).getD 0)::cs else cs) cs):Sem (List (Str×Addr)))
 |[],cs,_=>rfl
 | (n,k)::r,cs,h=>by
  rw[List.forIn_cons]
  have ih:=λcs=>cl_fold (env:=env) r cs λy hy=>h y (Qg _ hy)
  by_cases hk:(k==NameKind.free)=true
  ·obtain ⟨c,hc⟩:=h (n,k) Qd (by simpa using hk)
   have bE:env.cells.lookup n=some c:=hc
   have e:cellOf env n=pure c:=by unfold cellOf;rw[bE]
   rw[Jy]
   dsimp only
   rw[if_pos hk,if_pos hk,e,bE]
   exact ih _
  ·rw [Jy]
   dsimp only
   rw[if_neg hk,if_neg hk]
   exact ih _
def zcs(h:∀y∈sc.names,y.2=.free→∃c,env.cells.lookup y.1=some c):closureFor sc env=pure (clOf sc env):=by
 unfold closureFor
 have e:=cl_fold (env:=env) sc.names [] h
 exact(congrArg (λt:Sem (List (Str×Addr))=>t >>= λcs=>pure cs) e).trans rfl
theorem clOf_in{env:Env}{x:Str}{c:Nc}:∀(l:List (Str×NameKind)) (cs:List (Str×Addr)),(∀y∈l,y.2=.free→∃c,env.cells.lookup y.1=some c)→(∀x c,cs.lookup x=some c→env.cells.lookup x=some c) →
  (l.foldl (λcs y=>if(y.2==NameKind.free)=true then(y.1,(env.cells.lookup y.1).getD 0)::cs else cs) cs).lookup x=some c→env.cells.lookup x=some c
 |[],cs,_,hc,e=>hc _ _ e
 | (n,k)::r,cs,h,hc,e=>by
  rw[Jy]at e
  refine clOf_in r _ (λy hy=>h y (Qg _ hy)) ?_ e
  by_cases hk:(k==NameKind.free)=true
  ·obtain ⟨a,ha⟩:=h (n,k) Qd (by simpa using hk)
   have ha':env.cells.lookup n=some a:=ha
   dsimp only
   rw[if_pos hk,ha']
   intro x c q
   rw[Ul]at q
   cases hx:x==n with
   |true =>
    rw[hx]at q
    have q':a=c:=Qt q
    have:x=n:=by simpa using hx
    rw[this,←q'];exact ha'
   |false =>
    rw[hx]at q
    exact hc x c q
  ·dsimp only
   rw[if_neg hk]
   exact hc
theorem ziw{env:Env}{x:Str}:∀(l:List (Str×NameKind)) (cs:List (Str×Addr)),((x,NameKind.free)∈l∨∃c,cs.lookup x=some c) →
  ∃c,(l.foldl (λcs y=>if(y.2==NameKind.free)=true then(y.1,(env.cells.lookup y.1).getD 0)::cs else cs) cs).lookup x=some c
 |[],cs,h=>by
  rcases h with h | h
  ·exact absurd h (by simp)
  ·exact h
 | (n,k)::r,cs,h=>by
  rw[Jy]
  refine ziw r _ ?_
  rcases h with h | ⟨c,h⟩
  ·rcases Qh.mp h with e | e
   ·obtain ⟨rfl,rfl⟩:=Je e
    exact .inr ⟨(env.cells.lookup x).getD 0,by dsimp only;rw[if_pos (by rfl),List.lookup_cons];simp⟩
   ·exact .inl e
  ·refine .inr ?_
   dsimp only
   by_cases hk:(k==NameKind.free)=true
   ·rw [if_pos hk,Ul]
    cases hx:x==n with
    |true=>exact⟨_,rfl⟩
    |false=>exact⟨c,h⟩
   ·rw[if_neg hk];exact⟨c,h⟩
structure Blk(X:Cx)(sc:Scope)(M:Ni)(ix:Nu):Prop where
 kind:sc.kind=.function
 nocell:∀y∈sc.names,y.2≠.cell
 names:∀y∈sc.names,y.2=.local→sc.names.lookup y.1=some .local
 frees:∀y∈sc.names,y.2=.free→X.env.scope.names.lookup y.1=some .cell∨X.env.scope.names.lookup y.1=some .free
 len:ix.length=M.length
 nd:M.Nodup
 caps:∀(j i:Nat) (x:Str),M[j]?=some x→ix[j]?=some (some i)→X.N[i]?=some x∧sc.names.lookup x=some .free
def inner(ix:Nu)(σ:St):St:=ix.map λo=>match o with | none=>none | some i=>(σ[i]?).join
def zif{sc:Scope}{env:Env}{x:Str}{oz:Option Str}(hn:∀ y∈sc.names,y.2=.cell→oz=some y.1)(h:(relabel sc env).names.lookup x=some .cell∨(relabel sc env).names.lookup x=some .free):(x,NameKind.free)∈sc.names∨oz=some x:=by
 have key:∀k',k'=.cell∨k'=.free→(x,k')∈(relabel sc env).names→(x,NameKind.free)∈sc.names∨oz=some x:=λk' qD hm=>by
  obtain⟨⟨n,k⟩,hy,e⟩:=Qk.mp hm
  dsimp only at e
  by_cases hb:(k==NameKind.free&&env.scope.kind==.function&&env.kindOf n==some .cell)=true
  ·rw [if_pos hb] at e
   obtain⟨rfl,_⟩:=Je e
   have hk:k=.free:=by
    have:=(Bool.and_eq_true_iff.mp (Bool.and_eq_true_iff.mp hb).1).1
    simpa using this
   rw[hk]at hy
   exact .inl hy
  ·rw [if_neg hb] at e
   obtain⟨rfl,rfl⟩:=Je e
   rcases qD with q | q
   ·exact .inr (hn _ hy q)
   ·rw[q]at hy;exact .inl hy
 rcases h with h | h
 ·exact key _ (.inl rfl) (Wy h)
 ·exact key _ (.inr rfl) (Wy h)
def ocl(oz:Option Str)(C:Nc)(cl:List (Str×Addr)):List (Str×Addr):=match oz with
 |none=>cl
 |some z=>(z,C+1)::cl
def och(oz:Option Str)(h:Nn):Heap:=match oz with
 |none=>h
 |some _=>h.push {cls:=.type "cell",data:=.cell none}
structure BlkG(X:Cx)(sc:Scope)(oz:Option Str)(M:Ni)(ix:Nu):Prop where
 kind:sc.kind=.function
 own:∀y∈sc.names,y.2=.cell→oz=some y.1
 one:∀n cl,cellsFrom (n+1) sc.names cl=ocl oz n cl
 psh:∀h,pushCells h sc.names=och oz h
 zc:∀z,oz=some z→sc.names.lookup z=some .cell
 names:∀y∈sc.names,y.2=.local→sc.names.lookup y.1=some .local
 frees:∀y∈sc.names,y.2=.free→X.env.scope.names.lookup y.1=some .cell∨X.env.scope.names.lookup y.1=some .free
 len:ix.length=M.length
 nd:M.Nodup
 caps:∀(j i:Nat) (x:Str),M[j]?=some x→ix[j]?=some (some i)→X.N[i]?=some x∧sc.names.lookup x=some .free
theorem ziy:∀{l:List (Str×NameKind)} (_:∀y∈l,y.2≠.cell),(∀n cl,cellsFrom n l cl=cl)∧∀h,pushCells h l=h
 |[],_=>⟨λ_ _=>rfl,λ_=>rfl⟩
 |(a,k)::t,h=>by
  obtain⟨h1,h2⟩:=ziy λy hy=>h y (Qg _ hy)
  have hk:(k==NameKind.cell)=false:=beq_eq_false_iff_ne.mpr (h (a,k) Qd)
  exact⟨λn cl=>by unfold cellsFrom;rw[hk];exact h1 n cl,λg=>by unfold pushCells;rw[hk];exact h2 g⟩
def Blk.g{X:Cx}{sc:Scope}{M:Ni}{ix:Nu}(B:Blk X sc M ix):BlkG X sc none M ix :=
 ⟨B.kind,λy hy h=>absurd h (B.nocell y hy),λn cl=>(ziy B.nocell).1 _ cl,(ziy B.nocell).2,λ_ h=>(by cases h),B.names,B.frees,B.len,B.nd,B.caps⟩
def ze1(X:Cx)(sc:Scope)(oz:Option Str)(M:Ni)(C:Nc)(a6:Nd)(ex:Nk)(s:Ng)(H:Hp):Cx :=
 {X with N:=M,s₀:=s,H₀:=H,env:=compEnvC sc (ocl oz C (clOf sc X.env)) C X.env,outer:=X.stack,ex:=ex,fn:=λx=>oz==some x,pn:=X.pn++a6,xe:=λ_ _=>False}
abbrev zdj(X:Cx)(sc:Scope)(M:Ni)(C:Nc)(a6:Nd)(ex:Nk)(s:Ng)(H:Hp):Cx:=ze1 X sc none M C a6 ex s H
section
variable{M:Model}{A:Nm}{E:Na}{s:Ng}
def newEnv_own{sc:Scope}{g:Nc}{cl:List (Str×Addr)}{q:Str}{env:Env}{oz:Option Str}{Q:Env→Shared→Prop}(one:∀n cl,cellsFrom (n+1) sc.names cl=ocl oz n cl)(psh:∀h,pushCells h sc.names=och oz h)(hQ:Q (newEnv sc s.heap.objs.size g (ocl oz s.heap.objs.size cl) q none .none (some env) builtinsNs) {s with heap:=och oz (s.heap.push {cls:=.type "dict",data:=.dict #[]})}) :
  wpAny M A (newFunctionEnv sc g cl [] q none .none (some env)) Q E s:=by
 simp only[newFunctionEnv,Option.isSome_some,if_true]
 refine wpAny_bind (wpAny_alloc ?_)
 refine wpAny_bind (wpAny_layCells _ (λname kind cells=>by cases jh:kind==NameKind.cell<;>simp[jh]) _ _ _ _ ?_)
 rw[psh,show({s with heap:=s.heap.push {cls:=.type "dict",data:=.dict #[]}}:Shared).heap.objs.size=s.heap.objs.size+1 from Uv ..,one]
 exact wpAny_pure hQ
end
section
variable{X:Cx}{sc:Scope}{oz:Option Str}{M:Ni}{ix:Nu}{a6:Nd}{σ:St}{H:Hp}{s:Ng}
def BlkG.clos(B:BlkG X sc oz M ix)(I:Inv X a6 σ H s):∀y∈sc.names,y.2=.free→∃c,X.env.cells.lookup y.1=some c:=λy hy hf =>
 I.ok.has y.1 (by rcases B.frees y hy hf with z | z;exact .inl z;exact .inr z)
def Blk.clos(B:Blk X sc M ix)(I:Inv X a6 σ H s):∀y∈sc.names,y.2=.free→∃c,X.env.cells.lookup y.1=some c:=B.g.clos I
def inv_blkG{ex:Nk}{s':Ng}{C:Nc}(B:BlkG X sc oz M ix)(I:Inv X a6 σ H s)(hx:∀ b∈ex,FpOk X a6 H b)(ad:∀ b∈ex,b < s.heap.objs.size)(hC:C=s.heap.objs.size)(hn:s'.heap.Ns C λ_=>none)(hz:∀z,oz=some z→s'.heap.IsCell (C+1) none)(hk:∀b o,s.heap.get? b=some o→s'.heap.get? b=some o)(hg:s'.gens=s.gens)(ho:s'.os=s.os):Inv (ze1 X sc oz M C a6 ex s H) [] (inner ix σ) H s':=by
 have cls:=B.clos I
 have cin:∀x c,(clOf sc X.env).lookup x=some c→X.env.cells.lookup x=some c:=λx c e=>clOf_in sc.names [] cls (λ_ _ z=>by cases z) e
 have cne:∀x c,(clOf sc X.env).lookup x=some c→c<s.heap.objs.size:=λx c e=>by
  obtain⟨v,q⟩:=I.cell x c (cin x c e)
  exact q.lt
 have zne:∀c:Addr,c<s.heap.objs.size→c≠C+1:=λc h e=>by
  rw[e,hC]at h;exact absurd (Nat.lt_of_succ_lt h) (Wh _)
 have zin:∀x c,(ocl oz C (clOf sc X.env)).lookup x=some c→(oz=some x∧c=C+1)∨oz≠some x∧(clOf sc X.env).lookup x=some c:=λx c e=>by
  cases oz with
  |none=>exact .inr ⟨λz=>(by cases z),e⟩
  |some zn =>
   have e:((zn,C+1)::clOf sc X.env).lookup x=some c:=e
   rw[Ul]at e
   cases q:x==zn with
   |true=>rw[q]at e;exact .inl ⟨by rw[eq_of_beq q],(Qt e).symm⟩
   |false=>rw[q]at e;exact .inr ⟨λz=>(by rw[Qt z,beq_self_eq_true]at q;cases q),e⟩
 have zout:∀x c,oz≠some x→(clOf sc X.env).lookup x=some c→(ocl oz C (clOf sc X.env)).lookup x=some c:=λx c hx e=>by
  cases oz with
  |none=>exact e
  |some zn =>
   show((zn,C+1)::clOf sc X.env).lookup x=_
   rw[Ul,beq_eq_false_iff_ne.mpr λz=>hx (by rw[z])];exact e
 refine⟨⟨I.ok.mod,?_,I.ok.glob,I.ok.blt,?_,λx y c h1 h2=>?_,λx hx=>?_,λx c h e=>?_,I.ok.hd,I.ok.frames,.inl rfl,λb hb=>?_,I.bs,?_,λb o e hb=>?_,λb hb=>?_,I.stack,I.stkFree⟩,
  ?_,?_,Un.kept hk,⟨_,hn,λj x v e1 e2 e3=>?_⟩,λx c e=>?_,?_,λx c e=>?_,λp hp=>?_,I.hok.kept hk,?_⟩
 ·show (relabel sc X.env).kind=.function
  exact B.kind
 ·show s.heap.objs.size≤C
  rw[hC];exact Qf _
 ·rcases zin x c h1 with ⟨a,b⟩ | ⟨_,a⟩ <;> rcases zin y c h2 with ⟨a',b'⟩ | ⟨_,a'⟩
  ·exact Qt (a.symm.trans a')
  ·exact absurd b (zne c (cne y c a'))
  ·exact absurd b' (zne c (cne x c a))
  ·exact I.ok.inj x y c (cin x c a) (cin y c a')
 ·by_cases q:oz=some x
  ·exact⟨C+1,by show(ocl oz C (clOf sc X.env)).lookup x=_;rw[q];show((x,C+1)::clOf sc X.env).lookup x=_;rw[Ul,beq_self_eq_true]⟩
  ·obtain ⟨c,hc⟩:=ziw (env:=X.env) sc.names [] (.inl ((zif B.own hx).resolve_right q))
   exact⟨c,zout x c q hc⟩
 ·have h':oz=some x:=by
   have:(oz==some x)=true:=h
   exact eq_of_beq this
  rcases zin x c e with⟨_,b⟩ | ⟨b,_⟩
  ·show s.heap.objs.size≤c
   rw[b,hC];exact Kh _
  ·exact absurd h' b
 ·have:=ad b hb
  refine⟨λz=>?_,λx c e=>(zin x c e).elim (λq h=>zne b this (h.symm.trans q.2)) λe=>(hx b hb).2.2.2.2.1 x c (cin x c e.2)⟩
  have z':b=C:=z
  rw[z',hC]at this
  exact Wh _ this
 ·exact Zj I.ok.bsz I.sz
 ·rcases (hx b hb).2.2.2.1 with z | z
  ·exact I.ok.noex b o e z
  ·have h1:b < X.base.objs.size:=Qz e
   have h2:=I.ok.bsz
   have h3:X.s₀.heap.objs.size≤b:=z
   exact absurd (Yh h1 (Zj h2 h3)) (Wh _)
 ·intro z
  rcases Qh.mp (I.stkSub b z) with q | q
  ·exact(hx b hb).2.1 q
  ·exact(hx b hb).2.2.1 q
 ·exact ho
 ·rw[hg];exact I.bare
 ·have hj:∃ i,ix[j]?=some (some i)∧σ[i]?=some (some v):=by
   unfold inner at e2
   rw[Qu]at e2
   cases q:ix[j]? with
   |none=>rw[q]at e2;cases e2
   | some o =>
    rw[q]at e2
    cases o with
    |none=>cases e2
    |some i =>
     have ou:(σ[i]?).join=some v:=Qt e2
     cases q2:σ[i]? with
     |none=>rw[q2]at ou;cases ou
     |some w=>rw[q2]at ou;exact⟨i,rfl,by rw[q2];exact congrArg some ou⟩
  obtain⟨i,hi,hσ⟩:=hj
  obtain⟨hN,bj⟩:=B.caps j i x e1 hi
  have hm:=Wy bj
  have d8:=B.frees (x,.free) hm rfl
  obtain⟨m,_,hl⟩:=I.loc
  obtain⟨u,ru,lk⟩:=hl i x v hN hσ (by rcases d8 with z | z;exact .inr (.inl z);exact .inr (.inr z))
  refine⟨u,ru,.inr ?_⟩
  obtain⟨c,hc⟩:=ziw (env:=X.env) sc.names [] (.inl hm)
  have bE:=cin x c hc
  have lk2:s.heap.IsCell c (some u):=by
   rcases lk with⟨k,_⟩ | ⟨_,c',e',z⟩
   ·have k':X.env.scope.names.lookup x=some .local:=k
    rcases d8 with q | q<;>(rw[show X.env.scope.names.lookup x=_ from q]at k';cases k')
   ·rw[bE]at e';cases e';exact z
  refine⟨?_,c,zout x c (λq=>by rw[B.zc x q]at bj;cases bj) hc,?_⟩
  ·have e3':Vis (relabel sc X.env) x:=e3
   rcases e3' with z | z | z
   ·exfalso
    have:=@lookup_relabel_local
    have cG:∀(l:List (Str×NameKind)),l.lookup x=some .free→(l.map λ(y:Str×NameKind)=>match y with | (n,k)=>if(k==NameKind.free&&X.env.scope.kind==.function&&X.env.kindOf n==some .cell) then(n,NameKind.cell) else(n,k)).lookup x≠some .local:=by
     intro l
     induction l with
     |nil=>intro h;cases h
     | cons y r ih =>
      obtain⟨n,k⟩:=y
      intro h
      rw[Ul]at h
      rw[Qj]
      dsimp only
      by_cases hb:(k==NameKind.free&&X.env.scope.kind==.function&&X.env.kindOf n==some .cell)=true
      ·rw [if_pos hb,Ul]
       cases hx:x==n with
       |true=>intro q;cases q
       |false=>rw[hx]at h;exact ih h
      ·rw [if_neg hb,Ul]
       cases hx:x==n with
       |true =>
        rw[hx]at h
        intro q
        have h':k=NameKind.free:=Qt h
        have q':k=NameKind.local:=Qt q
        rw[h']at q';cases q'
       |false=>rw[hx]at h;exact ih h
    exact cG sc.names bj z
   ·exact .inl z
   ·exact .inr z
  ·obtain ⟨o,aU,gD⟩:=lk2
   exact⟨o,hk c o aU,gD⟩
 ·rcases zin x c e with ⟨a,b⟩ | ⟨_,b⟩
  ·rw[b];exact⟨none,hz x a⟩
  ·obtain ⟨v,o,aU,gD⟩:=I.cell x c (cin x c b)
   exact⟨v,o,hk c o aU,gD⟩
 ·show H C=none
  rw[hC]
  exact I.hok.fresh (Qf _)
 ·rcases zin x c e with ⟨_,b⟩ | ⟨_,b⟩
  ·rw[b];exact I.hok.fresh (by rw[hC];exact Kh _)
  ·exact I.freeC x c (cin x c b)
 ·have dv:p∈X.pn++a6:=by
   have:p∈(X.pn++a6)++[]:=hp
   rwa[Zy]at this
  obtain⟨e,n,ne,nf,d⟩:=I.pin p dv
  refine⟨hk _ _ e,n,?_,λz=>?_,d⟩
  ·intro z
   have z':p.1=C:=z
   have:=Qz e
   rw[z',hC]at this
   exact Wh _ this
  ·rcases Qh.mp (I.stkSub _ z) with q | q
   ·exact ne q
   ·exact nf q
 ·unfold inner
  rw[Qa]
  exact B.len
def inv_blk(B:Blk X sc M ix)(I:Inv X a6 σ H s)(hx:∀b∈ex,FpOk X a6 H b)(ad:∀b∈ex,b<s.heap.objs.size)(hC:C=s.heap.objs.size)(hn:s'.heap.Ns C λ_=>none)(hk:∀b o,s.heap.get? b=some o→s'.heap.get? b=some o)(hg:s'.gens=s.gens)(ho:s'.os=s.os):Inv (zdj X sc M C a6 ex s H) [] (inner ix σ) H s':=inv_blkG B.g I hx ad hC hn (λ_ h=>by cases h) hk hg ho
def PTs(X:Cx)(ifs:Nq)(t:TT):Prop :=
 ∀(a6:Nd) (s:Ng) (σ:St) (H:Hp) (Q:Bool→Hp→Prop),Inv X a6 σ H s→t σ H Q →
  wpAny (model X.prog X.w) X.A (forIn ifs true λc r=>if r=true then do let ok ←isTrue c X.env (eval c X.env);pure (ForInStep.yield ok) else pure (ForInStep.yield r)) (TP X a6 σ Q) X.xe s
def tAll:TT:=λ_ H Q=>Q true H
def zca:PTs X [] tAll:=λ_ _ _ H _ I h=>wpAny_tests_nil ⟨H,I,h⟩
def zig(h:PT X c t):PTs X [c] t:=λa6 s σ H Q I q=>wpAny_tests_one (h a6 s σ H Q I q)
def compLoop_any{prog:Nj}{w:Nl}{A:Nm}{s:Ng}{elt target iter:Expr}{ifs:Nq}{scope:Scope}{pos:Pos}{it am:Value}{env:Env}{R:Nv}(I:Nat→Shared→Prop)(turn:∀ n s,I n s→wpAny (model prog w) A (pyNext it) (fun r s₁=>match r with
   |none=>R (.ok .next) s₁
   | some v=>wpAny (model prog w) A (letOwnedTupleGo target it v) (fun _ s₁'=>wpAny (model prog w) A (assign target env v) (fun _ s₂ =>
     wpAny (model prog w) A (forIn ifs true λc r=>if r=true then do let ok ←isTrue c env (eval c env);pure (ForInStep.yield ok) else pure (ForInStep.yield r)) (λok s₃ =>
      if ok=true then wpAny (model prog w) A (eval elt env) (λx s₄ =>
       wpAny (model prog w) A (call (.builtin "list.append") [am,x]) (λ_ s₅=>∃m,m<n∧I m s₅) (λ_ _=>False) s₄) (λ_ _=>False) s₃
      else ∃m,m<n∧I m s₃) (λ_ _=>False) s₂) (λ_ _=>False) s₁') (λ_ _=>False) s₁) (λ_ _=>False) s)(n:Nat)(h:I n s):codeAny (model prog w) A (.compLoop (.ListComp elt [⟨target,iter,ifs,0⟩] scope pos) 0 it am env) R s:=by
 refine codeAny_loop rfl I (λn s hI=>?_) n h
 show wpAny _ A ((compTurn (.ListComp elt [⟨target,iter,ifs,0⟩] scope pos) 0 it am env).onRaise (λx=>do noteFrame x env;theTreesLotGoes x)) _ _ s
 refine wpAny_noted ?_
 rw[compTurn_list]
 refine wpAny_bind (wpAny_standAt (wpAny_bind (wpAny_mono (turn n s hI) (λr s₁ h₁=>?_) λ_ _ h'=>h'.elim)))
 cases r with
 |none=>exact wpAny_pure h₁
 | some v =>
  refine wpAny_bind (wpAny_mono h₁ (λ_ s₁' h₁'=>?_) λ_ _ h'=>h'.elim)
  refine wpAny_bind (wpAny_mono h₁' (λ_ s₂ h₂=>wpAny_bind (wpAny_mono h₂ (λok s₃ h₃=>?_) λ_ _ h'=>h'.elim)) λ_ _ h'=>h'.elim)
  cases ok with
  |false=>exact wpAny_pure ⟨rfl,h₃⟩
  |true =>
   exact wpAny_bind (wpAny_bind (wpAny_mono h₃ (λx s₄ h₄=>wpAny_bind (wpAny_mono h₄ (λ_ s₅ h₅=>wpAny_pure (wpAny_pure ⟨rfl,h₅⟩)) λ_ _ h'=>h'.elim)) λ_ _ h'=>h'.elim))
def rLC(g:TG)(tc:TT)(te:TE)(Q:VK)(J:It)(τ:St)(H1:Hp):Prop:=∃W:Nat→Nat→List V→St→Hp→Prop,(∃m,W 0 m [] τ H1)∧∀i m ys τ H,W i m ys τ H →
 (J.stop i H∧∀D,H D=none→Q (.ref D) (upd H D (.lst ys))) ∨
 (J.go i H∧ys.length<sizeLine∧∀x H',J.yld i H x H'→g x τ H' λ τ2 H2=>tc τ2 H2 λb H3=>if b=true then te τ2 H3 λy H4=>∃m',m'<m∧W (i+1) m' (ys++[y]) τ2 H4 else ∃m',m'<m∧W (i+1) m' ys τ2 H3)
def tLC(ix:Nu)(wi:TI)(g:TG)(tc:TT)(te:TE):TE:=λ σ H Q=>wi σ H λJ H1=>rLC g tc te Q J (inner ix σ) H1
def lc_blockG{tg elt iter:Expr}{ifs:Nq}{pos:Pos}{g:TG}{tc:TT}{te:TE}{fp:Nk}{it:Nc}{tn:Nat→Heap→Prop}{J:It}{Q:VK}{RR:Value→Addr→Result→Shared→Prop}{E:Na}(B:BlkG X sc oz M ix)(hc:X.calm=true)(hg:∀C ex s H,PG (ze1 X sc oz M C a6 ex s H) tg g)(ht:∀C ex s H,PTs (ze1 X sc oz M C a6 ex s H) ifs tc)(he:∀C ex s H,PE (ze1 X sc oz M C a6 ex s H) elt te)(I:Inv X a6 σ H s)(T:Turn X.prog X.w X.K tg J fp it tn)(h0:tn 0 s.heap)(hf:∀b∈fp,FpOk X a6 H b)(q:rLC g tc te Q J (inner ix σ) H)(mv:∀D C m ys H' s',Inv X a6 σ (upd H' D (.lst ys)) s'→Q (.ref D) (upd H' D (.lst ys))→s'.heap.Ns C m→upd H' D (.lst ys) C=none→s.heap.objs.size<C→RR (.ref D) C (.ok .next) s') :
  wpAny (model X.prog X.w) X.A (newList []) (λam s₃=>wpAny (model X.prog X.w) X.A (newFunctionEnv sc X.env.globals (clOf sc X.env) [] X.env.qual none .none (some X.env)) (λcenv s₄ =>
   codeAny (model X.prog X.w) X.A (.compStart (.ListComp elt [⟨tg,iter,ifs,0⟩] sc pos) 0 (.ref it) am {cenv with scope:=relabel sc X.env}) (RR am cenv.locals) s₄) E s₃) E s:=by
 refine wpAny_newObj_type (newEnv_own B.one B.psh ?_)
 dsimp only
 generalize hD:s.heap.objs.size=D
 generalize i7:s.heap.push {cls:=.type "list",dict:=none,data:=.seq ([]:List Value).toArray}=g2
 generalize qV:och oz (g2.push {cls:=.type "dict",data:=.dict #[]})=h₁
 have kp:∀(q:Nn) (b:Nc) (o:Obj),q.get? b=some o→(och oz q).get? b=some o:=λq b o e=>by
  cases oz with
  |none=>exact e
  |some _=>exact Qi _ e
 have hns₁:h₁.Ns g2.objs.size (λ_=>none):=qV▸(Heap.Ns.new g2 (.type "dict")).keeps λb o e=>kp _ b o e
 have hz₁:∀z,oz=some z→h₁.IsCell (g2.objs.size+1) none:=λz ez=>by
  have e:(g2.push {cls:=.type "dict",data:=.dict #[]}).objs.size=g2.objs.size+1:=Uv ..
  rw[←qV,←e,ez]
  exact⟨_,Zd _ rfl,rfl⟩
 have hC:g2.objs.size=D+1:=by rw[←i7,Uv,hD]
 have k2:∀b o,s.heap.get? b=some o→g2.get? b=some o:=λb o e=>by rw[←i7];exact Qi _ e
 have I3:Inv X a6 σ H {s with heap:=g2}:=I.kept (t':=s.toks) k2
 have HD:H D=none:=I.hok.fresh (by rw[hD];exact Qf _)
 have fD:FpOk X a6 H D:=I.fpOk (by rw[hD];exact Qf _) HD
 have D2:g2.get? D=some {cls:=.type "list",dict:=none,data:=.seq ([]:List Value).toArray}:=by rw[←i7,←hD];exact Zd _ rfl
 have k1:∀b o,g2.get? b=some o→h₁.get? b=some o:=λb o e=>qV▸kp _ b o (Qi _ e)
 have fpx:∀b∈D::fp,FpOk X a6 H b:=λb hb=>by
  rcases Qh.mp hb with e | e
  ·rw[e];exact fD
  ·exact hf b e
 have fplt:∀b∈D::fp,b<g2.objs.size:=λb hb=>by
  rcases Qh.mp hb with e | e
  ·rw[e,hC];exact Wg _
  ·obtain ⟨o,q,_⟩:=T.obj _ _ h0 b e
   exact Qz (k2 b o q)
 have fpD:D∉fp:=λhm=>by
  obtain⟨o,q,_⟩:=T.obj _ _ h0 D hm
  have:=Qz q
  rw[hD]at this
  exact Wh _ this
 generalize aI:ze1 X sc oz M g2.objs.size a6 (D::fp) {s with heap:=g2} H=Y
 have IY:Inv Y [] (inner ix σ) H {s with heap:=h₁,toks:=s.toks+([]:List (Str×Value)).length}:=by
  rw[←aI]
  exact inv_blkG B I3 fpx fplt rfl hns₁ hz₁ k1 rfl rfl
 have Yg:=aI▸hg g2.objs.size (D::fp) {s with heap:=g2} H
 have Yt:=aI▸ht g2.objs.size (D::fp) {s with heap:=g2} H
 have Ye:=aI▸he g2.objs.size (D::fp) {s with heap:=g2} H
 have eP:Y.prog=X.prog:=by rw[←aI];rfl
 have eW:Y.w=X.w:=by rw[←aI];rfl
 have eK:Y.K=X.K:=by rw[←aI];rfl
 have eA:Y.A=X.A:=by rw[←aI];rfl
 have eC:Y.calm=true:=by rw[←aI];exact hc
 have eE:Y.env=compEnvC sc (ocl oz g2.objs.size (clOf sc X.env)) g2.objs.size X.env:=by rw[←aI];rfl
 have eX:Y.xe=λ_ _=>False:=by rw[←aI];rfl
 have eEx:Y.ex=D::fp:=by rw[←aI];rfl
 have eFs:Y.fs=frs X.stack:=by rw[←aI];rfl
 have ePn:Y.pn=X.pn++a6:=by rw[←aI];rfl
 have eL:Y.env.locals=g2.objs.size:=by rw[eE];rfl
 have sx:Y.H₀=H:=by rw[←aI];rfl
 have mQ:Y.s₀={s with heap:=g2}:=by rw[←aI];rfl
 have fY:∀{H':Hp} {pl:Nd} {b:Nc},b∈D::fp→H' b=none→(∀p∈pl,p.1≠b)→FpOk Y pl H' b:=λ{H' pl b} hb hn hp=>by
  obtain⟨f0,f1,f2,f3,f4,f5⟩:=fpx b hb
  refine⟨hn,?_,?_,.inl (by rw[eEx];exact hb),IY.ok.exf b (by rw[eEx];exact hb) |>.2,λp dv=>?_⟩
  ·rw[eL];exact Zr (fplt b hb)
  ·rw [eFs]
   intro z
   rcases Qh.mp (I3.stkSub b z) with q | q
   ·exact f1 q
   ·exact f2 q
  ·rw [ePn] at dv
   rcases Qe.mp dv with z | z
   ·exact f5 p z
   ·exact hp p z
 obtain⟨W,⟨m0,w0⟩,turn⟩:=q
 have loop:∀ sN:Shared,sN={ s with heap:=h₁,toks:=s.toks+([]:List (Str×Value)).length } →
   codeAny (model X.prog X.w) X.A (.compLoop (.ListComp elt [⟨tg,iter,ifs,0⟩] sc pos) 0 (.ref it) (.ref D) (compEnvC sc (ocl oz g2.objs.size (clOf sc X.env)) g2.objs.size X.env)) (RR (.ref D) g2.objs.size) sN:=by
  rintro sN rfl
  refine compLoop_any (λn s'=>Ex6 λi τ H' ys a8 k=>Aj7 (Inv Y [] τ H' s') (tn i s'.heap) (∀b∈D::fp,H' b=none) (s'.heap.get? D=some {cls:=.type "list",data:=.seq (a8:Nh).toArray k}) (Vals ys a8) (ys.length≤sizeLine) (W i n ys τ H')) ?_ m0
   ⟨0,inner ix σ,H,[],[],0,IY,T.keep _ _ _ h0 λb _ o e=>k1 b o (k2 b o e),λb hb=>(fpx b hb).1,k1 _ _ D2,.nil,Zn _,w0⟩
  rintro n s5 ⟨i,τ,H5,ys,a8,k,I5,t5,n5,d5,v5,z5,w5⟩
  have oD:∀{s':Ng} {its':Nh} {k':Nat},s'.heap.get? D=some {cls:=.type "list",data:=.seq its'.toArray k'}→∀b∈[D],∃o,s'.heap.get? b=some o∧∀v,o.data≠.cell v:=λ{s' its' k'} e b hb=>by
   rw[Qb.mp hb]
   exact⟨_,e,λv z=>by cases z⟩
  have jK:Inv Y ([]++zcx [D] s5.heap) τ H5 s5:=I5.pinned (λb hb=>fY (by rw[Qb.mp hb];exact Qd) (n5 b (by rw[Qb.mp hb];exact Qd)) (by simp)) (oD d5)
  have pD:∀p∈zcx [D] s5.heap,p.1=D∧p.2={cls:=.type "list",data:=.seq a8.toArray k}:=λp hp=>by
   obtain⟨e1,e2⟩:=zgs hp
   have dE:p.1=D:=Qb.mp e1
   rw[dE,d5]at e2
   exact⟨dE,(Qt e2).symm⟩
  have fN:∀{H':Hp},(∀b∈fp,H' b=none)→∀b∈fp,FpOk Y ([]++zcx [D] s5.heap) H' b:=λhn b hb=>fY (Qg _ hb) (hn b hb) λp hp z=>by
   rw[Jj]at hp
   rw[(pD p hp).1]at z
   exact fpD (z▸hb)
  rcases turn i n ys τ H5 w5 with⟨stop,qn⟩ | ⟨go,zl,step⟩
  ·have h6:=T.done Y eP eW eK eC i _ s5 τ H5 (fun _ _=>False) jK (fN fun b hb=>n5 b (Qg _ hb)) t5 stop
   rw[eA]at h6
   refine thn h6 λr s6 ⟨hr,I6⟩=>?_
   subst hr
   have d6:s6.heap.get? D=some {cls:=.type "list",data:=.seq a8.toArray k}:=by
    have hp:=zbw (fp:=[D]) (Qb.mpr rfl) d5
    exact(I6.pin (D,_) (Qp _ hp)).1
   have H5D:H5 D=none:=n5 D Qd
   obtain⟨mL,nL,_⟩:=I6.loc
   rw[eL]at nL
   have CD:g2.objs.size≠D:=by rw[hC];exact Nat.succ_ne_self _
   refine mv D _ mL ys H5 s6 ?_ (qn D H5D) nL ?_ (by rw[hC,hD];exact Wg _)
   ·have u6:=I6.base
    rw[eFs,eEx,sx,mQ]at u6
    refine I3.call' (ch:=D::fp) (I6.os.trans (by rw[mQ])) ⟨u6.keep,u6.slot,λb o e n hx=>?_,u6.there,λb xs e=>?_,λb o u e=>?_,λb ps e=>?_⟩ ?_ I6.bare λb hb=>?_
    ·rw[zaf (λz=>hx (by rw[z];exact Qd))];exact u6.free b o e n hx
    ·rw[zaf (zab e HD)];exact u6.tups b xs e
    ·rw[zaf (zab e HD)];exact u6.frzs b o u e
    ·rw[zaf (zab e HD)];exact u6.tbls b ps e
    ·have kR:=I6.hok
     rw[eP,eW]at kR
     intro b u e
     by_cases hb:b=D
     ·subst hb
      rw[zac]at e
      cases e
      exact⟨z5,a8,k,v5,d6⟩
     ·rw [zaf hb] at e
      exact(kR b u e).stay (λc v _ q=>q) (λc q=>by rw[zaf (zab q H5D)];exact q) λc xs q=>by rw[zaf (zab q H5D)];exact q
    ·obtain ⟨f0,f1,f2,f3,f4,f5⟩:=fpx b hb
     exact⟨f3,f1,f4,f5⟩
   ·rw [zaf CD]
    have:=I6.free
    rw[eL]at this
    exact this
  ·have h6:=T.item Y eP eW eK eC i _ s5 τ H5 (fun _ _=>False) jK (fN fun b hb=>n5 b (Qg _ hb)) t5 go
   rw[eA]at h6
   refine thn h6 λr s6 ⟨u,hr,h7⟩=>?_
   subst hr
   refine thn h7 λ_ s7 ⟨x,H7,I7,r7,y7,t7,n7⟩=>?_
   have tw:=I7.pinned (fN n7) (T.obj _ _ t7)
   have h8:=Yg _ s7 τ H7 x u _ tw r7 (step x H7 y7)
   rw[eP,eW,eA,eX,eE]at h8
   refine thn h8 λ_ s8 ⟨τ8,H8,I8,q8⟩=>?_
   have h9:=Yt _ s8 τ8 H8 _ I8 q8
   rw[eP,eW,eA,eX,eE]at h9
   refine thn h9 λok s9 ⟨H9,I9,q9⟩=>?_
   have again:∀{τ':St} {H':Hp} {s':Ng},Inv Y (([]++zcx [D] s5.heap)++zcx fp s7.heap) τ' H' s'→s'.heap.get? D=some {cls:=.type "list",data:=.seq a8.toArray k}∧H' D=none∧tn (i+1) s'.heap∧∀b∈fp,H' b=none:=λ{τ' H' s'} I'=>by
    have pp:∀{b:Nc} {o:Obj},b∈fp→s7.heap.get? b=some o→s'.heap.get? b=some o∧H' b=none:=λ{b o} hb e =>
     let z:=I'.pin (b,o) (Qp _ (Qp _ (zbw hb e)))
     ⟨z.1,z.2.1⟩
    have hp:=zbw (fp:=[D]) (Qb.mpr rfl) d5
    have z:=I'.pin (D,_) (Qp _ (Qr _ hp))
    refine⟨z.1,z.2.1,T.keep _ _ _ t7 λb hb o e=>(pp hb e).1,λb hb=>?_⟩
    obtain⟨o,e,_⟩:=T.obj _ _ t7 b hb
    exact(pp hb e).2
   have drop:∀{pl:Nd} {τ':St} {H':Hp} {s':Ng},Inv Y pl τ' H' s'→Inv Y [] τ' H' s':=λI'=>I'.pins_of (by simp)
   cases ok with
   |false =>
    rw[if_neg (by decide)]at q9 ⊢
    obtain⟨m',hm,w9⟩:=q9
    obtain⟨d9,H9D,t9,n9⟩:=again I9
    exact⟨m',hm,i+1,τ8,H9,ys,a8,k,drop I9,t9,λb hb=>(Qh.mp hb).elim (λe=>e▸H9D) (n9 b),d9,v5,z5,w9⟩
   | true =>
    rw[if_pos rfl]at q9 ⊢
    have i8:=Ye _ s9 τ8 H9 _ I9 q9
    rw[eP,eW,eA,eX,eE]at i8
    refine thn i8 λy ig ⟨yv,kG,oE,ng,m',hm,w10⟩=>?_
    obtain⟨sE,H10D,t10,n10⟩:=again oE
    refine call_meets F.slot_list_append ⟨_,sE,rfl⟩ F.entry_list_append (F.args_list_append_2 _ _) (PySem.list_append D a8.toArray k y (by rw[Qq,←v5.length];assumption)) ⟨sE,?_⟩
    have q:=PySem.IsL.update sE (λa=>a.push y)
    have e11:(a8.toArray.push y)=(a8++[y]).toArray:=by simp
    rw[e11]at q
    have kk:∀b o,b≠D→ig.heap.get? b=some o→(ig.heap.update D (Obj.mapSeq λa=>a.push y)).get? b=some o:=λb o hb e=>(Js ig.heap (Obj.mapSeq λa=>a.push y) (Zo hb)).trans e
    obtain⟨g0,g1,g2',g3,g4,g5⟩:=fY (pl:=[]) (H':=kG) (b:=D) Qd H10D (by simp)
    have oC:=(drop oE).turned (h':=ig.heap.update D (Obj.mapSeq λa=>a.push y)) (t':=ig.toks) (it:=D) kk H10D g1 g3 g4 g5
    exact⟨m',hm,i+1,τ8,kG,ys++[yv],a8++[y],_,oC,T.keep _ _ _ t10 λb hb o e=>kk b o (λz=>fpD (z▸hb)) e,λb hb=>(Qh.mp hb).elim (λe=>e▸H10D) (n10 b),q,v5.append (.cons ng .nil),
     by rw[Ql,Jm];assumption,w10⟩
 exact codeAny_compStart_list (loop _ rfl) (T.self _ 0 _ _ _ (T.keep _ _ _ h0 λb _ o e=>k1 b o (k2 b o e)) (loop _ rfl))
def lc_block{tg elt iter:Expr}{ifs:Nq}{pos:Pos}{g:TG}{tc:TT}{te:TE}{fp:Nk}{it:Nc}{tn:Nat→Heap→Prop}{J:It}{Q:VK}{RR:Value→Addr→Result→Shared→Prop}{E:Na}(B:Blk X sc M ix)(hc:X.calm=true)(hg:∀C ex s H,PG (zdj X sc M C a6 ex s H) tg g)(ht:∀C ex s H,PTs (zdj X sc M C a6 ex s H) ifs tc)(he:∀C ex s H,PE (zdj X sc M C a6 ex s H) elt te)(I:Inv X a6 σ H s)(T:Turn X.prog X.w X.K tg J fp it tn)(h0:tn 0 s.heap)(hf:∀b∈fp,FpOk X a6 H b)(q:rLC g tc te Q J (inner ix σ) H)(mv:∀D C m ys H' s',Inv X a6 σ (upd H' D (.lst ys)) s'→Q (.ref D) (upd H' D (.lst ys))→s'.heap.Ns C m→upd H' D (.lst ys) C=none→s.heap.objs.size<C→RR (.ref D) C (.ok .next) s') :
  wpAny (model X.prog X.w) X.A (newList []) (λam s₃=>wpAny (model X.prog X.w) X.A (newFunctionEnv sc X.env.globals (clOf sc X.env) [] X.env.qual none .none (some X.env)) (λcenv s₄ =>
   codeAny (model X.prog X.w) X.A (.compStart (.ListComp elt [⟨tg,iter,ifs,0⟩] sc pos) 0 (.ref it) am {cenv with scope:=relabel sc X.env}) (RR am cenv.locals) s₄) E s₃) E s:=lc_blockG B.g hc hg ht he I T h0 hf q mv
def Inv.letgo{C:Nc}{m:Nf}{h':Nn}{s₀:Nn}(I:Inv X a6 σ H s)(hn:s.heap.Ns C m)(hC:H C=none)(ad:X.env.locals<s₀.objs.size)(jw:∀x c,X.env.cells.lookup x=some c→c<s₀.objs.size)(hp:∀p∈X.pn++a6,p.1<s₀.objs.size)(aP:X.s₀.heap.objs.size≤s₀.objs.size)(hc:s₀.objs.size<C)(hs:Heap.SameBut C s.heap h'):Inv X a6 σ H {s with heap:=h'} :=
 I.turned (t':=s.toks) (it:=C) (λb o hb e=>(hs.2 b hb).trans e) hC (Wk (Wu ad hc)) (.inr (Zj aP (Zt hc))) (λx c e=>Zr (Wu (jw x c e) hc)) λp q=>Zr (Wu (hp p q) hc)
def Inv.cl_lt(I:Inv X a6 σ H s):∀x c,X.env.cells.lookup x=some c→c<s.heap.objs.size:=λx c e=>by
 obtain⟨v,q⟩:=I.cell x c e
 exact q.lt
def Inv.pin_lt(I:Inv X a6 σ H s):∀p∈X.pn++a6,p.1<s.heap.objs.size:=λp hp=>Qz (I.pin p hp).1
def pe_lcC(B:BlkG X sc oz M ix)(hc:X.calm=true)(hi:PI X tg iter wi)(hg:∀C a6 ex s H,PG (ze1 X sc oz M C a6 ex s H) tg g)(ht:∀C a6 ex s H,PTs (ze1 X sc oz M C a6 ex s H) ifs tc)(he:∀C a6 ex s H,PE (ze1 X sc oz M C a6 ex s H) elt te)(hs:∀x,foldedSetIterable iter X.env x=pure x:=by intro _;rfl):PE X (.ListComp elt [⟨tg,iter,ifs,0⟩] sc pos) (tLC ix wi g tc te):=by
 intro a6 s σ H Q I h
 rw[eval_ListComp]
 refine wpAny_comprehension_free (use:=none) rfl hs (zcs (B.clos I)) B.kind B.names (thn (hi a6 s σ H _ I h) λv s1 h1=>thn h1 λitv s2 h2=>?_)
 obtain⟨it,fp,tn,J,H2,e,I2,T,av,f2,q⟩:=h2
 subst e
 refine lc_blockG (RR:=λam C=>compPost (model X.prog X.w) X.A X.xe none (EP X a6 σ Q) am C) B hc (hg · a6) (ht · a6) (he · a6) I2 T av f2 q ?_
 intro D C m ys H' s' I' q' hn hC ad
 refine⟨m,hn,λh' bm=>⟨.ref D,_,I'.letgo hn hC I2.lt I2.cl_lt I2.pin_lt I2.sz ad bm,rfl,q'⟩⟩
def zfx(B:Blk X sc M ix)(hc:X.calm=true)(hi:PI X tg iter wi)(hg:∀C a6 ex s H,PG (zdj X sc M C a6 ex s H) tg g)(ht:∀C a6 ex s H,PTs (zdj X sc M C a6 ex s H) ifs tc)(he:∀C a6 ex s H,PE (zdj X sc M C a6 ex s H) elt te)(hs:∀x,foldedSetIterable iter X.env x=pure x:=by intro _;rfl):PE X (.ListComp elt [⟨tg,iter,ifs,0⟩] sc pos) (tLC ix wi g tc te):=pe_lcC B.g hc hi hg ht he hs
def ps_lc(hN:X.N.Nodup)(cI:X.N[i]?=some y)(hy:X.env.scope.names.lookup y=some .local)(B:Blk X sc M ix)(hc:X.calm=true)(hi:PI X tg iter wi)(hg:∀C a6 ex s H,PG (zdj X sc M C a6 ex s H) tg g)(ht:∀C a6 ex s H,PTs (zdj X sc M C a6 ex s H) ifs tc)(he:∀C a6 ex s H,PE (zdj X sc M C a6 ex s H) elt te)(pQ:swapsWith (.ListComp elt [⟨tg,iter,ifs,0⟩] sc pos) (some (.Name y py)) spos.line X.env=pure true)(hs:∀x,foldedSetIterable iter X.env x=pure x:=by intro _;rfl):PS X (.Assign [.Name y py] (.ListComp elt [⟨tg,iter,ifs,0⟩] sc pos) spos) (tAsg (tLC ix wi g tc te) (gName i)):=by
 intro a6 s σ H D' I h
 rw[exec_Assign_Name_used _ _ _ _ pQ]
 refine wpAny_bind (wpAny_standAt (wpAny_bind ?_))
 show wpAny _ X.A (do let _ ←comprehension (.ListComp elt [⟨tg,iter,ifs,0⟩] sc pos) sc X.env _ (newList []) false (eval iter X.env) (some (assign (.Name y py) X.env))) _ _ s
 refine wpAny_bind (wpAny_mono (wpAny_comprehension_free (use:=some (assign (.Name y py) X.env)) (Q:=λ_ s'=>SP X a6 D' .next s') rfl hs (zcs (B.clos I)) B.kind B.names
  (thn (hi a6 s σ H _ I h) λv s1 h1=>thn h1 λitv s2 h2=>?_)) (λ_ s' hq=>wpAny_pure (wpAny_pure hq)) λ_ _ e=>e)
 obtain⟨it,fp,tn,J,H2,e,I2,T,av,f2,q⟩:=h2
 subst e
 refine lc_block (RR:=λam C=>compPost (model X.prog X.w) X.A X.xe (some (assign (.Name y py) X.env)) (λ_ s'=>SP X a6 D' .next s') am C) B hc (hg · a6) (ht · a6) (he · a6) I2 T av f2 q ?_
 intro D C m ys H' s' I' q' hn hC ad
 show wpAny _ X.A (assign (.Name y py) X.env (.ref D)) _ _ s'
 refine wpAny_assign_Name (zgc I' hN cI (.inl hy) (v:=.ref D) rfl (λkK tz ⟨a,sb,ha⟩=>?_) (.inr hy))
 have aC:C≠a:=by
  rcases ha with z | z
  ·rw[z];exact Wk (Wu I2.lt ad)
  ·exact Wk (Wu (I2.cl_lt _ _ z) ad)
 have bd:=hn.sameBut sb aC
 exact⟨m,bd,λh' bm=>⟨_,_,tz.letgo bd hC I2.lt I2.cl_lt I2.pin_lt I2.sz ad bm,q'⟩⟩
end
end L2
end
section
namespace Tm
open PySem PyProof.Rows
def zhb:Bool→Keyed→Array Keyed→Nat→Nat→Nat→StateT SortSt Sem (Option Nat):=sortPriv% PySem.Builtin.gallop
def zer:Array Keyed→Array Keyed→StateT SortSt Sem (Array Keyed):=sortPriv% PySem.Builtin.mergeLo
def zes:Array Keyed→Array Keyed→StateT SortSt Sem (Array Keyed):=sortPriv% PySem.Builtin.mergeHi
section
variable{σ α β:Type}{M:Model}{A:Nm}{E:Na}{s:Ng}{Q:α→σ→Prop}{st:σ}{c:Prop}[Decidable c]
def zb4(h:∀Q0:α→σ→Prop,(∀r a7,Q r a7→Q0 r a7)→wpS M A E s m Q0 st):wpS M A E s m Q st:=h Q λ_ _ z=>z
def jp_if{f:Unit→β→StateT σ Sem α}(h:∀z,wpS M A E s (f () z) Q st):wpS M A E s (if c then f () x else f () y) Q st:=by
 split
 ·exact h _
 ·exact h _
def zal{x y:StateT σ Sem α}(h1:c→wpS M A E s x Q st)(h2:¬c→wpS M A E s y Q st):wpS M A E s (if c then x else y) Q st:=by
 split
 next z=>exact h1 z
 next z=>exact h2 z
end
section
variable{prog:Nj}{w:Nl}{A:Nm}{E:Na}{s:Ng}{kd:SortKind}{a₀:Array Keyed}
def Cmp(prog:Nj)(w:Nl)(A:Nm)(E:Na)(s:Ng)(kd:SortKind)(a₀:Array Keyed):Prop :=
 ∀(x y:Keyed) (st:SortSt) (Q:Option Bool→SortSt→Prop),x∈a₀.toList→y∈a₀.toList→kindOf st=kd→(∀b,Q (some b) st)→wpS (model prog w) A E s (lt' x y) Q st
def Of(a₀ xs:Array Keyed):Prop:=∀(i:Nat) (p:Keyed),xs[i]?=some p→p∈a₀.toList
def zak{arr:Array Keyed}{i:Nat}{p:Keyed}{Q:Keyed→SortSt→Prop}{st:SortSt}(h:arr[i]?=some p)(q:Q p st):wpS (model prog w) A E s (elem' arr i) Q st:=by
 rw[elem'_eq,h];exact wpS_pure q
def zeg(left:Bool)(ky:Keyed)(arr:Array Keyed)(i:Nat):StateT SortSt Sem (Option Bool):=do
 let x ←elem' arr i
 if left=true then lt' x ky else do
  let r ←lt' ky x
  pure (r.map λz=>!z)
def ze9{left:Bool}{ky:Keyed}{arr:Array Keyed}{i:Nat}{Q:Option Bool→SortSt→Prop}{st:SortSt}(C:Cmp prog w A E s kd a₀)(hk:kindOf st=kd)(hO:Of a₀ arr)(hy:ky∈a₀.toList)(hi:i<arr.size)(q:∀b,Q (some b) st):wpS (model prog w) A E s (zeg left ky arr i) Q st:=by
 have e:=getElem?_pos arr i hi
 unfold zeg
 refine wpS_bind (zak e ?_)
 have m:=hO _ _ e
 cases left with
 |true=>exact C _ _ _ _ m hy hk q
 |false=>exact wpS_bind (C _ _ _ _ hy m hk λb=>wpS_pure (q _))
def za6{left:Bool}{ky:Keyed}{arr:Array Keyed}{base n hint:Nat}{Q:Option Nat→SortSt→Prop}{st:SortSt}(C:Cmp prog w A E s kd a₀)(hk:kindOf st=kd)(hO:Of a₀ arr)(hy:ky∈a₀.toList)(hb:base+n≤arr.size)(hh:hint<n)(h:∀k,k≤n→Q (some k) st):wpS (model prog w) A E s (zhb left ky arr base n hint) Q st:=by
 have ask:∀{i:Nat} {Q':Option Bool→SortSt→Prop},i<n→(∀b,Q' (some b) st)→wpS (model prog w) A E s (zeg left ky arr (base+i)) Q' st:=λ{i Q'} hi q=>ze9 C hk hO hy (by omega) q
 have last:∀(f:Nat→(Option (Option Nat)×Nat×Nat)→StateT SortSt Sem (ForInStep (Option (Option Nat)×Nat×Nat))) (lo hi:Nat),lo≤hi→hi≤n →
   (∀x l r Q',l≥r→Q' (ForInStep.done (none,l,r)) st→wpS (model prog w) A E s (f x (none,l,r)) Q' st) →
   (∀x l r Q',¬l≥r→r≤n→Q' (ForInStep.yield (none,l+(r-l)/2+1,r)) st→Q' (ForInStep.yield (none,l,l+(r-l)/2)) st→wpS (model prog w) A E s (f x (none,l,r)) Q' st) →
   wpS (model prog w) A E s (forIn [:n] (none,lo,hi) f) (λc a7=>a7=st∧∃k,c=(none,k,k)∧k≤n) st:=by
  intro f lo hi h1 h2 f1 f2
  refine wpS_forRange (I:=λx c a7=>Aj2 (a7=st) (Ex2 λl r=>Aj4 (c=(none,l,r)) (l≤r) (r≤n) (r-l≤n-x))) ?step ?fin ?init
  case init=>exact⟨rfl,lo,hi,rfl,h1,h2,by omega⟩
  case fin =>
   rintro c a7 ⟨rfl,l,r,rfl,a1,a2,a3⟩
   have:l=r:=by omega
   subst this
   exact⟨rfl,l,rfl,a2⟩
  case step =>
   rintro x c a7 _ hx ⟨rfl,l,r,rfl,a1,a2,a3⟩
   by_cases aJ:l≥r
   ·refine f1 x l r _ aJ ?_
    have:l=r:=Ji a1 aJ
    subst this
    exact⟨rfl,l,rfl,a2⟩
   ·exact f2 x l r _ aJ a2 ⟨rfl,_,_,rfl,by omega,a2,by omega⟩ ⟨rfl,_,_,rfl,Yd _ _,by omega,by omega⟩
 unfold zhb
 refine wpS_bind (ask (i:=hint) hh λb0=>?_)
 cases b0 with
 | true =>
  refine wpS_bind (wpS_mono (wpS_forRange
   (I:=λx c a7=>Aj2 (a7=st) (Ex2 λla of=>Aj4 (c=(none,la,of)) (hint+la<n) (la<of) (x<of)))
   (Q:=λc a7=>Aj2 (a7=st) (Ex2 λla of=>Aj3 (c=(none,la,of)) (hint+la<n) (la<of))) ?step ?fin ?init) ?post)
  case init=>exact⟨rfl,0,1,rfl,hh,Qf _,Qf _⟩
  case fin =>
   rintro c a7 ⟨rfl,la,of,rfl,a2,a3,a4⟩
   exact⟨rfl,la,of,rfl,a2,a3⟩
  case step =>
   rintro x c a7 _ hx ⟨rfl,la,of,rfl,a2,a3,a4⟩
   dsimp only
   refine zal (λ_=>wpS_pure ⟨rfl,la,of,rfl,a2,a3⟩) λaJ=>wpS_bind (ask (i:=hint+of) (by omega) λb=>?_)
   cases b with
   |true=>exact wpS_pure ⟨rfl,of,2*of+1,rfl,by omega,by omega,by omega⟩
   |false=>exact wpS_pure ⟨rfl,la,of,rfl,a2,a3⟩
  case post =>
   rintro c a7 ⟨rfl,la,of,rfl,a2,a3⟩
   refine wpS_bind (wpS_mono (last _ (hint+la+1) (hint+min of (n-hint)) (by omega) (by omega) ?_ ?_) ?_)
   ·intro x l r Q' aJ q
    exact zal (λ_=>wpS_pure q) λz=>absurd aJ z
   ·intro x l r Q' aJ hr q1 q2
    refine zal (λz=>absurd z aJ) λ_=>wpS_bind (ask (i:=l+(r-l)/2) (by omega) λb=>?_)
    cases b with
    |true=>exact wpS_pure q1
    |false=>exact wpS_pure q2
   ·rintro c a7 ⟨rfl,k,rfl,b1⟩
    exact wpS_pure (h k b1)
 | false =>
  refine wpS_bind (wpS_mono (wpS_forRange
   (I:=λx c a7=>Aj2 (a7=st) (Ex2 λla of=>Aj4 (c=(none,la,of)) (la≤hint) (la<of) (x<of)))
   (Q:=λc a7=>Aj2 (a7=st) (Ex2 λla of=>Aj3 (c=(none,la,of)) (la≤hint) (la<of))) ?step ?fin ?init) ?post)
  case init=>exact⟨rfl,0,1,rfl,Zn _,Qf _,Qf _⟩
  case fin =>
   rintro c a7 ⟨rfl,la,of,rfl,a2,a3,a4⟩
   exact⟨rfl,la,of,rfl,a2,a3⟩
  case step =>
   rintro x c a7 _ hx ⟨rfl,la,of,rfl,a2,a3,a4⟩
   dsimp only
   refine zal (λ_=>wpS_pure ⟨rfl,la,of,rfl,a2,a3⟩) λaJ=>wpS_bind (ask (i:=hint-of) (by omega) λb=>?_)
   cases b with
   |true=>exact wpS_pure ⟨rfl,la,of,rfl,a2,a3⟩
   |false=>exact wpS_pure ⟨rfl,of,2*of+1,rfl,by omega,by omega,by omega⟩
  case post =>
   rintro c a7 ⟨rfl,la,of,rfl,a2,a3⟩
   refine wpS_bind (wpS_mono (last _ (hint+1-min of (hint+1)) (hint-la) (by omega) (by omega) ?_ ?_) ?_)
   ·intro x l r Q' aJ q
    exact zal (λ_=>wpS_pure q) λz=>absurd aJ z
   ·intro x l r Q' aJ hr q1 q2
    refine zal (λz=>absurd z aJ) λ_=>wpS_bind (ask (i:=l+(r-l)/2) (by omega) λb=>?_)
    cases b with
    |true=>exact wpS_pure q1
    |false=>exact wpS_pure q2
   ·rintro c a7 ⟨rfl,k,rfl,b1⟩
    exact wpS_pure (h k b1)
end
section
variable{prog:Nj}{w:Nl}{A:Nm}{E:Na}{s:Ng}{kd:SortKind}{a₀:Array Keyed}
variable{all out ra rb seg:List Keyed}
def Pm(all out ra rb:List Keyed):Prop:=(out++(ra++rb)).Perm all
def Pm.appA(j:Pm all out (seg++ra) rb):Pm all (out++seg) ra rb:=by
 unfold Pm at *
 rw[Qm,←Qm seg];exact j
def Pm.appB(j:Pm all out ra (seg++rb)):Pm all (out++seg) ra rb:=by
 unfold Pm at *
 rw[Qm]
 refine List.Perm.trans (Zv _ ?_) j
 rw[←Qm,←Qm]
 exact Yw.append_right _
def zbp{a:Array Keyed}{i:Nat}(h:i<a.size):a.toList.drop i=a[i]::a.toList.drop (i+1):=by
 rw[Yc (by simpa using h)];simp
def zba{a:Array Keyed}{i:Nat}:(a.extract i a.size).toList=a.toList.drop i:=by
 simp[Qv]
def zcr{a:Array Keyed}{i k:Nat}(h:i+k≤a.size):(a.extract i (i+k)).toList++a.toList.drop (i+k)=a.toList.drop i:=by
 rw[Array.toList_extract,Xg]
 have:i+k-i=k:=by omega
 rw[this,←List.drop_drop,Zl]
abbrev Pa(a b o:Array Keyed)(i k:Nat):Prop:=Pm (a.toList++b.toList) o.toList (a.toList.drop i) (b.toList.drop k)
variable{a b o:Array Keyed}{i k n:Nat}
def Pa.pushA(j:Pa a b o i k)(h:i<a.size):Pa a b (o.push a[i]) (i+1) k:=by
 have:=Pm.appA (seg:=[a[i]]) (ra:=a.toList.drop (i+1)) (by rw[List.singleton_append,←zbp h];exact j)
 rwa[←Wt]at this
def Pa.pushB(j:Pa a b o i k)(h:k<b.size):Pa a b (o.push b[k]) i (k+1):=by
 have:=Pm.appB (seg:=[b[k]]) (rb:=b.toList.drop (k+1)) (by rw[List.singleton_append,←zbp h];exact j)
 rwa[←Wt]at this
def Pa.runA(j:Pa a b o i k)(h:i+n≤a.size):Pa a b (o++a.extract i (i+n)) (i+n) k:=by
 have:=Pm.appA (seg:=(a.extract i (i+n)).toList) (ra:=a.toList.drop (i+n)) (by rw[zcr h];exact j)
 show Pm _ (o++a.extract i (i+n)).toList _ _
 rw[Zc];exact this
def Pa.runB(j:Pa a b o i k)(h:k+n≤b.size):Pa a b (o++b.extract k (k+n)) i (k+n):=by
 have:=Pm.appB (seg:=(b.extract k (k+n)).toList) (rb:=b.toList.drop (k+n)) (by rw[zcr h];exact j)
 show Pm _ (o++b.extract k (k+n)).toList _ _
 rw[Zc];exact this
def Pa.end1(j:Pa a b o i k):(o++a.extract i++b.extract k).toList.Perm (a.toList++b.toList):=by
 rw[Zc,Zc,zba,zba,Qm];exact j
def Pa.end2(j:Pa a b o i k):(o++b.extract k++a.extract i).toList.Perm (a.toList++b.toList):=by
 rw[Zc,Zc,zba,zba,Qm]
 exact(Zv _ Yw).trans j
def SG(st a7:SortSt):Prop:=∃g,a7=SortSt.mk' (kindOf st) (arrOf st) (pendingOf st) g (failedOf st)
def zd7{Q:Array Keyed→SortSt→Prop}{st:SortSt}(C:Cmp prog w A E s kd a₀)(hk:kindOf st=kd)(oa:Of a₀ a)(ob:Of a₀ b)(ha:0 < a.size)(hb:0 < b.size)(h:∀(res:Array Keyed) (a7:SortSt),res.toList.Perm (a.toList++b.toList)→SG st a7→Q res a7):wpS (model prog w) A E s (zer a b) Q st:=by
 have ia_:∀i (hi:i<a.size),a[i]∈a₀.toList:=λi hi=>oa i _ (getElem?_pos a i hi)
 have ib_:∀i (hi:i<b.size),b[i]∈a₀.toList:=λi hi=>ob i _ (getElem?_pos b i hi)
 have ea:∀i (hi:i<a.size),a[i]?=some a[i]:=λi hi=>getElem?_pos a i hi
 have eb:∀i (hi:i<b.size),b[i]?=some b[i]:=λi hi=>getElem?_pos b i hi
 have sgk:∀{a7},SG st a7→kindOf a7=kd:=λ⟨g,e⟩=>by rw[e];exact hk
 unfold zer
 refine wpS_bind (wpS_lift (wpAny_rule ⟨rfl,?_⟩))
 refine wpS_bind (zak (eb 0 hb) ?_)
 have j0:Pa a b (#[b[0]]:Array Keyed) 0 1:=by
  have j:Pa a b (#[]:Array Keyed) 0 0:=by show List.Perm _ _;simp
  exact j.pushB hb
 refine zal (λc1=>wpS_pure (h _ _ j0.end1 ⟨_,rfl⟩)) λc1=>zal (λc2=>wpS_pure (h _ _ j0.end2 ⟨_,rfl⟩)) λc2=>?_
 have sG:¬b.size=1:=λz=>c1 (by simp[z])
 have c2':¬a.size=1:=λz=>c2 (by simp[z])
 refine wpS_bind (wpS_get ?_)
 refine wpS_bind (wpS_mono (wpS_forRange
  (I:=λx c a7=>Aj2 (SG st a7) (Ex4 λo i k g=>Aj5 (c=(none,o,i,k,g)) (i+1<a.size) (k<b.size) (Pa a b o i k) (x≤i+k)))
  (Q:=λc a7=>Aj2 (SG st a7) (Ex2 λres r=>Aj2 (c=(some res,r)) (res.toList.Perm (a.toList++b.toList)))) ?step ?fin ?init) ?post)
 case init=>exact⟨⟨_,rfl⟩,_,0,1,_,rfl,by omega,by omega,j0,by omega⟩
 case fin =>
  rintro c a7 ⟨_,o,i,k,g,rfl,a1,a2,a3,a4⟩
  exfalso;omega
 case post =>
  rintro c a7 ⟨g,res,r,rfl,m⟩
  exact wpS_pure (h res a7 m g)
 case step =>
  rintro x c ap _ hx ⟨g1,o1,i1,k1,mg,rfl,a1,a2,a3,a4⟩
  dsimp -zeta only
  refine wpS_bind (wpS_mono (wpS_forRange
   (I:=λy c a7=>Aj2 (a7=ap) (Ex5 λo i k ac bc=>Aj5 (c=(none,o,i,k,ac,bc)) (i+1<a.size) (k<b.size) (Pa a b o i k) (i1+k1+y≤i+k)))
   (Q:=λc a7=>Aj2 (a7=ap) ((Ex2 λres r=>Aj2 (c=(some res,r)) (res.toList.Perm (a.toList++b.toList)))∨Ex5 λo i k ac bc=>Aj5 (c=(none,o,i,k,ac,bc)) (i+1<a.size) (k<b.size) (Pa a b o i k) (i1+k1<i+k))) ?step1 ?fin1 ?init1) ?post1)
  case init1=>exact⟨rfl,o1,i1,k1,0,0,rfl,a1,a2,a3,Qf _⟩
  case fin1 =>
   rintro c a7 ⟨_,o,i,k,ac,bc,rfl,b1,b2,b3,b4⟩
   exfalso;omega
  case step1 =>
   rintro y c av _ hy ⟨rfl,o,i,k,ac,bc,rfl,b1,b2,b3,b4⟩
   have oy:i<a.size:=by omega
   dsimp -zeta only
   refine wpS_bind (zak (eb k b2) (wpS_bind (zak (ea i oy) (wpS_bind (C _ _ _ _ (ib_ k b2) (ia_ i oy) (sgk g1) λe=>?_)))))
   dsimp -zeta only
   refine zal (λ_=>?_) (λ_=>?_)
   ·refine wpS_bind (zak (eb k b2) ?_)
    have j:=b3.pushB b2
    refine zal (λ_=>wpS_pure ⟨rfl,.inl ⟨_,_,rfl,j.end1⟩⟩) λd1=>?_
    have mU:¬k+1=b.size:=λz=>d1 (beq_iff_eq.mpr z)
    exact zal (λ_=>wpS_pure ⟨rfl,.inr ⟨_,i,k+1,_,_,rfl,b1,by omega,j,by omega⟩⟩) λ_=>wpS_pure ⟨rfl,_,i,k+1,_,_,rfl,b1,by omega,j,by omega⟩
   ·refine wpS_bind (zak (ea i oy) ?_)
    have j:=b3.pushA oy
    refine zal (λ_=>wpS_pure ⟨rfl,.inl ⟨_,_,rfl,j.end2⟩⟩) λd1=>?_
    have mU:¬i+1+1=a.size:=λz=>d1 (beq_iff_eq.mpr z)
    exact zal (λ_=>wpS_pure ⟨rfl,.inr ⟨_,i+1,k,_,_,rfl,by omega,b2,j,by omega⟩⟩) λ_=>wpS_pure ⟨rfl,_,i+1,k,_,_,rfl,by omega,b2,j,by omega⟩
  case post1 =>
   rintro c av ⟨rfl,⟨res,r,rfl,m⟩ | ⟨o2,i2,k2,tq,sH,rfl,b1,b2,b3,b4⟩⟩
   ·exact wpS_pure ⟨g1,res,_,rfl,m⟩
   dsimp -zeta only
   refine wpS_bind (wpS_lift (wpAny_rule ⟨rfl,?_⟩))
   refine wpS_bind (wpS_mono (wpS_forRange
    (I:=λy c a7=>Aj2 (SG st a7) (Ex6 λo i k g ac bc=>Aj5 (c=(none,o,i,k,g,ac,bc)) (i+1<a.size) (k<b.size) (Pa a b o i k) (i2+k2≤i+k)))
    (Q:=λc a7=>Aj2 (SG st a7) ((Ex2 λres r=>Aj2 (c=(some res,r)) (res.toList.Perm (a.toList++b.toList)))∨Ex6 λo i k g ac bc=>Aj5 (c=(none,o,i,k,g,ac,bc)) (i+1<a.size) (k<b.size) (Pa a b o i k) (i2+k2≤i+k))) ?step2 ?fin2 ?init2) ?post2)
   case init2=>exact⟨g1,o2,i2,k2,_,_,_,rfl,b1,b2,b3,Qf _⟩
   case fin2 =>
    rintro c a7 ⟨g,o,i,k,g',ac,bc,rfl,c1,c2,c3,c4⟩
    exact⟨g,.inr ⟨o,i,k,g',ac,bc,rfl,c1,c2,c3,c4⟩⟩
   case post2 =>
    rintro c ag ⟨g3,⟨res,r,rfl,m⟩ | ⟨o3,i3,k3,g',jJ,jH,rfl,c1,c2,c3,c4⟩⟩
    ·exact wpS_pure ⟨g3,res,_,rfl,m⟩
    dsimp -zeta only
    refine wpS_bind (wpS_modify ?_)
    obtain⟨gg,e3⟩:=g3
    exact wpS_pure ⟨⟨_,by rw[e3]⟩,o3,i3,k3,_,rfl,c1,c2,c3,by omega⟩
   case step2 =>
    rintro y c ag _ hy ⟨g3,o3,i3,k3,oU,jJ,jH,rfl,c1,c2,c3,c4⟩
    refine zb4 λQ0 aB=>?_
    dsimp -zeta only
    have sgm:∀g',SG st (SortSt.mk' (kindOf ag) (arrOf ag) (pendingOf ag) g' (failedOf ag)):=λg'=>by
     obtain⟨g,e⟩:=g3
     exact⟨g',by rw[e]⟩
    extract_lets -underBinder +onlyGivenNames s1 out s2 ia s3 ib s4 mn s5 ac bc jp
    refine jp_if (f:=jp) λm'=>?_
    refine wpS_bind (wpS_modify ?_)
    refine wpS_bind (zak (eb k3 c2) ?_)
    refine wpS_bind (za6 (base:=i3) (n:=a.size-i3) (hint:=0) C (sgk (sgm _)) oa (ib_ k3 c2) (by omega) (by omega) λk q1=>?_)
    dsimp -zeta only
    have jr:=c3.runA (n:=k) (by omega)
    extract_lets -underBinder +onlyGivenNames ac' jp2
    have h2:∀(n':Nat) (o':Array Keyed) (f1:n'+1<a.size),i3≤n'→Pa a b o' n' k3→wpS (model prog w) A E s (jp2 () o' n') Q0 (SortSt.mk' (kindOf ag) (arrOf ag) (pendingOf ag) m' (failedOf ag)):=by
     intro n' o' f1 f2 fJ
     have f0:n'<a.size:=by omega
     refine wpS_bind (zak (eb k3 c2) ?_)
     have fK:=fJ.pushB c2
     refine zal (λ_=>wpS_pure (aB _ _ ⟨sgm _,.inl ⟨_,_,rfl,fK.end1⟩⟩)) λd=>?_
     have d':¬k3+1=b.size:=λz=>d (beq_iff_eq.mpr z)
     refine wpS_bind (zak (ea n' f0) ?_)
     refine wpS_bind (za6 (base:=k3+1) (n:=b.size-(k3+1)) (hint:=0) C (sgk (sgm _)) ob (ia_ n' f0) (by omega) (by omega) λk' r1=>?_)
     dsimp -zeta only
     have js:=fK.runB (n:=k') (by omega)
     extract_lets -underBinder +onlyGivenNames bc' jp3
     have h3:∀(m2:Nat) (o2:Array Keyed) (p1:m2<b.size),k3+1≤m2→Pa a b o2 n' m2→wpS (model prog w) A E s (jp3 () o2 m2) Q0 (SortSt.mk' (kindOf ag) (arrOf ag) (pendingOf ag) m' (failedOf ag)):=by
      intro m2 o2 p1 p2 pJ
      refine wpS_bind (zak (ea n' f0) ?_)
      have pK:=pJ.pushA f0
      refine zal (λ_=>wpS_pure (aB _ _ ⟨sgm _,.inl ⟨_,_,rfl,pK.end2⟩⟩)) λd=>?_
      have d2:¬n'+1+1=a.size:=λz=>d (beq_iff_eq.mpr z)
      exact zal (λ_=>wpS_pure (aB _ _ ⟨sgm _,.inr ⟨_,n'+1,m2,_,_,_,rfl,by omega,p1,pK,by omega⟩⟩)) λ_=>wpS_pure (aB _ _ ⟨sgm _,_,n'+1,m2,_,_,_,rfl,by omega,p1,pK,by omega⟩)
     refine zal (λkz=>?_) (λkz=>?_)
     ·refine zal (fun _=>wpS_pure (aB _ _ ⟨sgm _,.inl ⟨_,_,rfl,js.end1⟩⟩)) fun d4=>?_
      have sD:¬k3+1+k'=b.size:=λz=>d4 (beq_iff_eq.mpr z)
      exact h3 (k3+1+k') _ (by omega) (Yd _ _) js
     ·exact h3 (k3+1) _ (by omega) (Qf _) fK
    refine zal (λkz=>?_) (λkz=>?_)
    ·refine zal (fun _=>wpS_pure (aB _ _ ⟨sgm _,.inl ⟨_,_,rfl,jr.end2⟩⟩)) fun d=>zal (fun _=>wpS_pure (aB _ _ ⟨sgm _,.inl ⟨_,_,rfl,jr.end1⟩⟩)) fun e=>?_
     have d':¬i3+k+1=a.size:=λz=>d (beq_iff_eq.mpr z)
     have e':¬i3+k=a.size:=λz=>e (beq_iff_eq.mpr z)
     exact h2 (i3+k) _ (by omega) (Yd _ _) jr
    ·exact h2 i3 _ c1 (Qf _) c3
end
section
variable{prog:Nj}{w:Nl}{A:Nm}{E:Na}{s:Ng}{kd:SortKind}{a₀:Array Keyed}
variable{a b o:Array Keyed}{na nb at_:Nat}
def zbz:(a.extract 0 n).toList=a.toList.take n:=by simp
def zf2{a:Array Keyed}{i n:Nat}(hi:i≤n)(h:n≤a.size):a.toList.take i++(a.extract i n).toList=a.toList.take n:=by
 rw[Array.toList_extract,Xg]
 have e:a.toList.take i=(a.toList.take n).take i:=by rw[List.take_take];congr 1;omega
 have e2:(a.toList.drop i).take (n-i)=(a.toList.take n).drop i:=by rw[List.drop_take]
 rw[e,e2,Zl]
def Ph(a b o:Array Keyed)(na nb:Nat):Prop:=(a.toList.take na++(b.toList.take nb++o.toList)).Perm (a.toList++b.toList)
def mvA{t sg kJ u r all:List Keyed}(h:((t++sg)++(u++r)).Perm all)(hs:kJ.Perm sg):(t++(u++(r++kJ))).Perm all:=by
 refine List.Perm.trans ?_ h
 rw[Qm,←Qm u]
 exact Zv _ ((Zv _ hs).trans Yw)
def mvB{t sg kJ u r all:List Keyed}(h:(t++((u++sg)++r)).Perm all)(hs:kJ.Perm sg):(t++(u++(r++kJ))).Perm all:=by
 refine List.Perm.trans ?_ h
 rw[Qm]
 exact Zv _ (Zv _ ((Zv _ hs).trans Yw))
def Ph.runA(j:Ph a b o na nb)(hi:at_≤na)(h:na≤a.size):Ph a b (o++(a.extract at_ na).reverse) at_ nb:=by
 unfold Ph at *
 rw[←zf2 hi h]at j
 rw[Zc,Wp]
 exact mvA j (Ud _)
def Ph.runB(j:Ph a b o na nb)(hi:at_≤nb)(h:nb≤b.size):Ph a b (o++(b.extract at_ nb).reverse) na at_:=by
 unfold Ph at *
 rw[←zf2 hi h]at j
 rw[Zc,Wp]
 exact mvB j (Ud _)
def Ph.pushA(j:Ph a b o (na+1) nb)(h:na<a.size):Ph a b (o.push a[na]) na nb:=by
 unfold Ph at *
 rw[Qo (by simpa using h)]at j
 rw[Wt]
 exact mvA j (by simp)
def Ph.pushB(j:Ph a b o na (nb+1))(h:nb<b.size):Ph a b (o.push b[nb]) na nb:=by
 unfold Ph at *
 rw[Qo (by simpa using h)]at j
 rw[Wt]
 exact mvB j (by simp)
def Ph.end1(j:Ph a b o na nb):(a.extract 0 na++b.extract 0 nb++o.reverse).toList.Perm (a.toList++b.toList):=by
 rw[Zc,Zc,Wp,zbz,zbz,Qm]
 exact(Zv _ (Zv _ (Ud _))).trans j
def Ph.end2(j:Ph a b o na nb):(b.extract 0 nb++a.extract 0 na++o.reverse).toList.Perm (a.toList++b.toList):=by
 rw[Zc,Zc,Wp,zbz,zbz]
 refine List.Perm.trans ?_ j
 rw[←Qm]
 exact(Yw).append (Ud _)
def zd8{Q:Array Keyed→SortSt→Prop}{st:SortSt}(C:Cmp prog w A E s kd a₀)(hk:kindOf st=kd)(oa:Of a₀ a)(ob:Of a₀ b)(ha:0 < a.size)(hb:0 < b.size)(h:∀(res:Array Keyed) (a7:SortSt),res.toList.Perm (a.toList++b.toList)→SG st a7→Q res a7):wpS (model prog w) A E s (zes a b) Q st:=by
 have ia_:∀i (hi:i<a.size),a[i]∈a₀.toList:=λi hi=>oa i _ (getElem?_pos a i hi)
 have ib_:∀i (hi:i<b.size),b[i]∈a₀.toList:=λi hi=>ob i _ (getElem?_pos b i hi)
 have ea:∀i (hi:i<a.size),a[i]?=some a[i]:=λi hi=>getElem?_pos a i hi
 have eb:∀i (hi:i<b.size),b[i]?=some b[i]:=λi hi=>getElem?_pos b i hi
 have sgk:∀{a7},SG st a7→kindOf a7=kd:=λ⟨g,e⟩=>by rw[e];exact hk
 obtain⟨n0,hn0⟩:∃n0,a.size=n0+1:=⟨a.size-1,by omega⟩
 have bM:n0<a.size:=by omega
 have j0:Ph a b (#[a[n0]]:Array Keyed) n0 b.size:=by
  have j:Ph a b (#[]:Array Keyed) (n0+1) b.size:=by
   have e1:a.toList.take (n0+1)=a.toList:=Qv (by simp;omega)
   have e2:b.toList.take b.size=b.toList:=Qv (by simp)
   unfold Ph;rw[e1,e2];simp
  exact j.pushA bM
 unfold zes
 refine wpS_bind (wpS_lift (wpAny_rule ⟨rfl,?_⟩))
 have e2:a.size-1=n0:=by omega
 simp -zeta only [e2]
 refine wpS_bind (zak (ea n0 bM) ?_)
 refine zal (λc1=>wpS_pure (h _ _ j0.end1 ⟨_,rfl⟩)) λc1=>zal (λc2=>wpS_pure (h _ _ j0.end2 ⟨_,rfl⟩)) λc2=>?_
 have sG:¬n0=0:=λz=>c1 (by simp[z])
 have c2':¬b.size=1:=λz=>c2 (by simp[z])
 refine wpS_bind (wpS_get ?_)
 obtain⟨n1,rfl⟩:∃n1,n0=n1+1:=⟨n0-1,by omega⟩
 obtain⟨m1,bg⟩:∃m1,b.size=m1+1+1:=⟨b.size-2,by omega⟩
 rw[bg]at j0
 refine wpS_bind (wpS_mono (wpS_forRange
  (I:=λx c a7=>Aj2 (SG st a7) (Ex4 λo i k g=>Aj5 (c=(none,i+1,k+1+1,o,g)) (i<a.size) (k+1<b.size) (Ph a b o (i+1) (k+1+1)) (i+k+x+4≤a.size+b.size)))
  (Q:=λc a7=>Aj2 (SG st a7) (Ex2 λres r=>Aj2 (c=(some res,r)) (res.toList.Perm (a.toList++b.toList)))) ?step ?fin ?init) ?post)
 case init=>exact⟨⟨_,rfl⟩,_,n1,m1,_,by rw[bg],by omega,by omega,j0,by omega⟩
 case fin =>
  rintro c a7 ⟨_,o,i,k,g,rfl,a1,a2,a3,a4⟩
  exfalso;omega
 case post =>
  rintro c a7 ⟨g,res,r,rfl,m⟩
  exact wpS_pure (h res a7 m g)
 case step =>
  rintro x c ap _ hx ⟨g1,o1,i1,k1,mg,rfl,a1,a2,a3,a4⟩
  dsimp -zeta only
  refine wpS_bind (wpS_mono (wpS_forRange
   (I:=λy c a7=>Aj2 (a7=ap) (Ex5 λo i k ac bc=>Aj5 (c=(none,i+1,k+1+1,o,ac,bc)) (i<a.size) (k+1<b.size) (Ph a b o (i+1) (k+1+1)) (i+k+y≤i1+k1)))
   (Q:=λc a7=>Aj2 (a7=ap) ((Ex2 λres r=>Aj2 (c=(some res,r)) (res.toList.Perm (a.toList++b.toList)))∨Ex5 λo i k ac bc=>Aj5 (c=(none,i+1,k+1+1,o,ac,bc)) (i<a.size) (k+1<b.size) (Ph a b o (i+1) (k+1+1)) (i+k<i1+k1))) ?step1 ?fin1 ?init1) ?post1)
  case init1=>exact⟨rfl,o1,i1,k1,0,0,rfl,a1,a2,a3,Qf _⟩
  case fin1 =>
   rintro c a7 ⟨_,o,i,k,ac,bc,rfl,b1,b2,b3,b4⟩
   exfalso;omega
  case step1 =>
   rintro y c av _ hy ⟨rfl,o,i,k,ac,bc,rfl,b1,b2,b3,b4⟩
   dsimp -zeta only
   refine wpS_bind (zak (eb (k+1) b2) (wpS_bind (zak (ea i b1) (wpS_bind (C _ _ _ _ (ib_ (k+1) b2) (ia_ i b1) (sgk g1) λe=>?_)))))
   dsimp -zeta only
   refine zal (λ_=>?_) (λ_=>?_)
   ·refine wpS_bind (zak (ea i b1) ?_)
    have j:=b3.pushA b1
    refine zal (λ_=>wpS_pure ⟨rfl,.inl ⟨_,_,rfl,j.end1⟩⟩) λd1=>?_
    have mU:¬i=0:=λz=>d1 (beq_iff_eq.mpr z)
    cases i with
    |zero=>exact absurd rfl mU
    |succ i'=>exact zal (λ_=>wpS_pure ⟨rfl,.inr ⟨_,i',k,_,_,rfl,by omega,b2,j,by omega⟩⟩) λ_=>wpS_pure ⟨rfl,_,i',k,_,_,rfl,by omega,b2,j,by omega⟩
   ·refine wpS_bind (zak (eb (k+1) b2) ?_)
    have j:=b3.pushB b2
    refine zal (λ_=>wpS_pure ⟨rfl,.inl ⟨_,_,rfl,j.end2⟩⟩) λd1=>?_
    have mU:¬k+1=1:=λz=>d1 (beq_iff_eq.mpr z)
    cases k with
    |zero=>exact absurd rfl mU
    |succ k'=>exact zal (λ_=>wpS_pure ⟨rfl,.inr ⟨_,i,k',_,_,rfl,b1,by omega,j,by omega⟩⟩) λ_=>wpS_pure ⟨rfl,_,i,k',_,_,rfl,b1,by omega,j,by omega⟩
  case post1 =>
   rintro c av ⟨rfl,⟨res,r,rfl,m⟩ | ⟨o2,i2,k2,tq,sH,rfl,b1,b2,b3,b4⟩⟩
   ·exact wpS_pure ⟨g1,res,_,rfl,m⟩
   dsimp -zeta only
   refine wpS_bind (wpS_lift (wpAny_rule ⟨rfl,?_⟩))
   refine wpS_bind (wpS_mono (wpS_forRange
    (I:=λy c a7=>Aj2 (SG st a7) (Ex6 λo i k g ac bc=>Aj5 (c=(none,i+1,k+1+1,o,g,ac,bc)) (i<a.size) (k+1<b.size) (Ph a b o (i+1) (k+1+1)) (i+k≤i2+k2)))
    (Q:=λc a7=>Aj2 (SG st a7) ((Ex2 λres r=>Aj2 (c=(some res,r)) (res.toList.Perm (a.toList++b.toList)))∨Ex6 λo i k g ac bc=>Aj5 (c=(none,i+1,k+1+1,o,g,ac,bc)) (i<a.size) (k+1<b.size) (Ph a b o (i+1) (k+1+1)) (i+k≤i2+k2))) ?step2 ?fin2 ?init2) ?post2)
   case init2=>exact⟨g1,o2,i2,k2,_,_,_,rfl,b1,b2,b3,Qf _⟩
   case fin2 =>
    rintro c a7 ⟨g,o,i,k,g',ac,bc,rfl,c1,c2,c3,c4⟩
    exact⟨g,.inr ⟨o,i,k,g',ac,bc,rfl,c1,c2,c3,c4⟩⟩
   case post2 =>
    rintro c ag ⟨g3,⟨res,r,rfl,m⟩ | ⟨o3,i3,k3,g',jJ,jH,rfl,c1,c2,c3,c4⟩⟩
    ·exact wpS_pure ⟨g3,res,_,rfl,m⟩
    dsimp -zeta only
    refine wpS_bind (wpS_modify ?_)
    obtain⟨gg,e3⟩:=g3
    exact wpS_pure ⟨⟨_,by rw[e3]⟩,o3,i3,k3,_,rfl,c1,c2,c3,by omega⟩
   case step2 =>
    rintro y c ag _ hy ⟨g3,o3,i3,k3,oU,jJ,jH,rfl,c1,c2,c3,c4⟩
    refine zb4 λQ0 aB=>?_
    dsimp -zeta only
    have sgm:∀g',SG st (SortSt.mk' (kindOf ag) (arrOf ag) (pendingOf ag) g' (failedOf ag)):=λg'=>by
     obtain⟨g,e⟩:=g3
     exact⟨g',by rw[e]⟩
    extract_lets -underBinder +onlyGivenNames s1 na s2 nb s3 out s4 mn s5 ac bc jp
    refine jp_if (f:=jp) λm'=>?_
    refine wpS_bind (wpS_modify ?_)
    refine wpS_bind (zak (eb (k3+1) c2) ?_)
    refine wpS_bind (za6 (n:=i3+1) (hint:=i3) C (sgk (sgm _)) oa (ib_ (k3+1) c2) (by omega) (by omega) λfH q1=>?_)
    dsimp -zeta only
    have jr:=c3.runA (at_:=fH) q1 (by omega)
    extract_lets -underBinder +onlyGivenNames kk ac' jp2
    have h2:∀(n':Nat) (o':Array Keyed) (f1:n'<a.size),n'≤i3→Ph a b o' (n'+1) (k3+1+1)→wpS (model prog w) A E s (jp2 () (n'+1) o') Q0 (SortSt.mk' (kindOf ag) (arrOf ag) (pendingOf ag) m' (failedOf ag)):=by
     intro n' o' f1 f2 fJ
     refine wpS_bind (zak (eb (k3+1) c2) ?_)
     have fK:=fJ.pushB c2
     refine zal (λ_=>wpS_pure (aB _ _ ⟨sgm _,.inl ⟨_,_,rfl,fK.end2⟩⟩)) λd=>?_
     have d':¬k3+1=1:=λz=>d (beq_iff_eq.mpr z)
     refine wpS_bind (zak (ea n' f1) ?_)
     refine wpS_bind (za6 (n:=k3+1) (hint:=k3) C (sgk (sgm _)) ob (ia_ n' f1) (by omega) (by omega) λdF r1=>?_)
     dsimp -zeta only
     have js:=fK.runB (at_:=dF) r1 (by omega)
     extract_lets -underBinder +onlyGivenNames iw bc' jp3
     have h3:∀(m2:Nat) (o2:Array Keyed) (p1:m2+1<b.size),m2≤k3→Ph a b o2 (n'+1) (m2+1+1)→wpS (model prog w) A E s (jp3 () (m2+1+1) o2) Q0 (SortSt.mk' (kindOf ag) (arrOf ag) (pendingOf ag) m' (failedOf ag)):=by
      intro m2 o2 p1 p2 pJ
      refine wpS_bind (zak (ea n' f1) ?_)
      have pK:=pJ.pushA f1
      refine zal (λ_=>wpS_pure (aB _ _ ⟨sgm _,.inl ⟨_,_,rfl,pK.end1⟩⟩)) λd=>?_
      have d2:¬n'=0:=λz=>d (beq_iff_eq.mpr z)
      cases n' with
      |zero=>exact absurd rfl d2
      |succ t=>exact zal (λ_=>wpS_pure (aB _ _ ⟨sgm _,.inr ⟨_,t,m2,_,_,_,rfl,by omega,p1,pK,by omega⟩⟩)) λ_=>wpS_pure (aB _ _ ⟨sgm _,_,t,m2,_,_,_,rfl,by omega,p1,pK,by omega⟩)
     refine zal (λkz=>?_) (λkz=>?_)
     ·refine zal (fun _=>wpS_pure (aB _ _ ⟨sgm _,.inl ⟨_,_,rfl,js.end2⟩⟩)) fun d4=>zal (fun _=>wpS_pure (aB _ _ ⟨sgm _,.inl ⟨_,_,rfl,js.end1⟩⟩)) fun d5=>?_
      have sD:¬dF=1:=λz=>d4 (beq_iff_eq.mpr z)
      have d5':¬dF=0:=λz=>d5 (beq_iff_eq.mpr z)
      obtain⟨m2,e2⟩:∃m2,dF=m2+1+1:=⟨dF-2,by omega⟩
      have:=h3 m2 _ (by omega) (by omega) (by rw[←e2];exact js)
      rw[←e2]at this
      exact this
     ·obtain ⟨m2,e2⟩:∃ m2,k3=m2+1:=⟨k3 - 1,by omega⟩
      have:=h3 m2 _ (by omega) (by omega) (by rw[←e2];exact fK)
      rw[←e2]at this
      exact this
    refine zal (λkz=>?_) (λkz=>?_)
    ·refine zal (fun _=>wpS_pure (aB _ _ ⟨sgm _,.inl ⟨_,_,rfl,jr.end1⟩⟩)) fun d=>?_
     have d':¬fH=0:=λz=>d (beq_iff_eq.mpr z)
     obtain⟨n',e1⟩:∃n',fH=n'+1:=⟨fH-1,by omega⟩
     have:=h2 n' _ (by omega) (by omega) (by rw[←e1];exact jr)
     rw[←e1]at this
     exact this
    ·exact h2 i3 _ c1 (Qf _) c3
end
section
variable{prog:Nj}{w:Nl}{A:Nm}{E:Na}{s:Ng}{kd:SortKind}{a₀:Array Keyed}{p:Array (Nat×Nat×Nat)}{lo:Nat}
structure Bs(kd:SortKind)(a₀:Array Keyed)(p:Array (Nat×Nat×Nat))(st:SortSt):Prop where
 kind:kindOf st=kd
 failed:failedOf st=none
 pend:pendingOf st=p
 perm:(arrOf st).Perm a₀
def Bs.size{st:SortSt}(B:Bs kd a₀ p st):(arrOf st).size=a₀.size:=B.perm.size_eq
def Bs.mem{st:SortSt}(B:Bs kd a₀ p st){i:Nat}(hi:i<a₀.size):∃q,(arrOf st)[i]?=some q∧q∈a₀.toList:=by
 have cI:i<(arrOf st).size:=by rw[B.size];exact hi
 exact⟨_,getElem?_pos _ i cI,(Zz.mp B.perm).mem_iff.mp (by simp)⟩
def zc4{st:SortSt}{i j:Nat}{Q:Option Bool→SortSt→Prop}(C:Cmp prog w A E s kd a₀)(B:Bs kd a₀ p st)(hi:i<a₀.size)(hj:j<a₀.size)(h:∀b,Q (some b) st):wpS (model prog w) A E s (ltAt' i j) Q st:=by
 obtain⟨x,e1,m1⟩:=B.mem hi
 obtain⟨y,e2,m2⟩:=B.mem hj
 rw[ltAt'_eq]
 refine wpS_bind (wpS_get ?_)
 refine wpS_bind (zak e1 (wpS_bind (zak e2 ?_)))
 exact C x y st Q m1 m2 B.kind h
def Bs.mirror{st:SortSt}(B:Bs kd a₀ p st)(i j k:Nat):Bs kd a₀ p (setArr st (mirror (arrOf st) i j k)):=⟨B.kind,B.failed,B.pend,(mirror_perm _ _ _ _).trans B.perm⟩
def Bs.bubble{st:SortSt}(B:Bs kd a₀ p st)(src d:Nat):Bs kd a₀ p (setArr st (bubble (arrOf st) src d)):=⟨B.kind,B.failed,B.pend,(bubble_perm _ _ _).trans B.perm⟩
def ze8{st:SortSt}{n ok:Nat}{Q:Bool→SortSt→Prop}(C:Cmp prog w A E s kd a₀)(hn:lo+n≤a₀.size)(B:Bs kd a₀ p st)(h:∀a7,Bs kd a₀ p a7→Q true a7):wpS (model prog w) A E s (binarySort' lo n ok) Q st:=by
 rw[binarySort'_eq]
 refine wpS_bind (wpS_mono (wpS_forRange (I:=λk c a7=>Aj2 (c=(none,())) (Bs kd a₀ p a7)) (Q:=λc a7=>Aj2 (c=(none,())) (Bs kd a₀ p a7)) ?step (λ_ _ z=>z) ⟨rfl,B⟩) ?post)
 case post =>
  rintro c a7 ⟨rfl,B'⟩
  exact wpS_pure (h a7 B')
 case step =>
  rintro k c a7 hak fR ⟨rfl,B'⟩
  refine wpS_bind (wpS_mono (wpS_forRange
   (I:=λx c aw=>Aj2 (aw=a7) (Ex2 λl r=>Aj4 (c=(none,l,r)) (l≤r) (r≤k) (r-l≤k-x)))
   (Q:=λc aw=>Aj2 (aw=a7) (Ex1 λl=>Aj2 (c=(none,l,l)) (l≤k))) ?is ?if_ ?ii) ?ip)
  case ii=>exact⟨rfl,0,k,rfl,Zn _,Qf _,Qf _⟩
  case if_ =>
   rintro c aw ⟨rfl,l,r,rfl,b1,b2,b3⟩
   have:l=r:=by omega
   subst this
   exact⟨rfl,l,rfl,b2⟩
  case is =>
   rintro x c aw _ hx ⟨rfl,l,r,rfl,b1,b2,b3⟩
   dsimp only
   refine zal (λge=>?_) λge=>wpS_bind (zc4 C B' (by omega) (by omega) λb=>?_)
   ·have:l=r:=Ji b1 ge
    subst this
    exact wpS_pure ⟨rfl,l,rfl,b2⟩
   ·cases b with
    |true=>exact wpS_pure ⟨rfl,l,(l+r)/2,rfl,by omega,by omega,by omega⟩
    |false=>exact wpS_pure ⟨rfl,(l+r)/2+1,r,rfl,by omega,b2,by omega⟩
  case ip =>
   rintro c aw ⟨rfl,l,rfl,b2⟩
   show wpS _ _ _ _ (do moveDown' (lo+k) (lo+l);pure (ForInStep.yield (none,()))) _ _
   rw[moveDown'_eq]
   exact wpS_bind (wpS_modify (wpS_pure ⟨rfl,B'.bubble _ _⟩))
def jp_rev{α:Type}{c:Prop}[Decidable c]{i j:Nat}{f:Unit→StateT SortSt Sem α}{Q:α→SortSt→Prop}{st:SortSt}(B:Bs kd a₀ p st)(h:∀a7,Bs kd a₀ p a7→wpS (model prog w) A E s (f ()) Q a7):wpS (model prog w) A E s (if c then reverseSlice' i j >>= f else f ()) Q st:=by
 split
 ·exact wpS_bind (wpS_reverse (h _ (B.mirror _ _ _)))
 ·exact h _ B
def zga{st:SortSt}{nrem:Nat}{Q:Option Nat→SortSt→Prop}(C:Cmp prog w A E s kd a₀)(hn:lo+nrem≤a₀.size)(h1:1≤nrem)(B:Bs kd a₀ p st)(h:∀m a7,Bs kd a₀ p a7→1≤m→m≤nrem→Q (some m) a7):wpS (model prog w) A E s (countRun' lo nrem) Q st:=by
 have asc:∀(f:Nat→(Option (Option Nat)×Nat)→StateT SortSt Sem (ForInStep (Option (Option Nat)×Nat))) (a:Nat) (ap:SortSt),1≤a→a≤nrem →
   (∀x y Q',1≤y→y<nrem→Q' (ForInStep.done (none,y)) ap→Q' (ForInStep.yield (none,y+1)) ap→wpS (model prog w) A E s (f x (none,y)) Q' ap) →
   wpS (model prog w) A E s (forIn [a:nrem] (none,a) f) (λc a7=>Aj2 (a7=ap) (Ex1 λn=>Aj3 (c=(none,n)) (a≤n) (n≤nrem))) ap:=by
  intro f a ap a1 a2 hf
  refine wpS_forRange (I:=λx c a7=>Aj2 (a7=ap) (c=(none,x))) ?step ?fin ⟨rfl,rfl⟩
  case fin =>
   rintro c a7 ⟨rfl,rfl⟩
   rw[show max a nrem=nrem by omega]
   exact⟨rfl,nrem,rfl,a2,Qf _⟩
  case step =>
   rintro x c a7 g1 g2 ⟨rfl,rfl⟩
   exact hf x x _ (by omega) g2 ⟨rfl,x,rfl,g1,Zt g2⟩ ⟨rfl,rfl⟩
 have two:∀{ap:SortSt},Bs kd a₀ p ap→∀{y:Nat},1≤y→y<nrem→lo+y<a₀.size∧lo+y-1<a₀.size:=λ_ y y1 y2=>⟨by omega,by omega⟩
 rw[countRun'_eq]
 refine wpS_bind (wpS_mono (asc _ 1 st (Qf _) h1 ?_) ?_)
 ·intro x y Q' y1 y2 q1 q2
  refine wpS_bind (zc4 C B (two B y1 y2).1 (two B y1 y2).2 λb=>?_)
  cases b with
  |true=>exact wpS_pure q1
  |false=>exact wpS_pure q2
 rintro c a7 ⟨rfl,n,rfl,n1,n2⟩
 refine zb4 λQ0 aB=>?_
 refine zal (λd=>wpS_pure (aB _ _ (h n _ B n1 n2))) λd=>?_
 have d':n<nrem:=by have:¬n=nrem:=λz=>d (beq_iff_eq.mpr z);omega
 extract_lets -underBinder +onlyGivenNames jp
 have lQ:∀ap,Bs kd a₀ p ap→wpS (model prog w) A E s (jp ()) Q0 ap:=by
  intro ap B1
  refine wpS_bind (wpS_lift (wpAny_rule ⟨rfl,?_⟩))
  refine wpS_bind (wpS_mono (wpS_forRange
   (I:=λx c av=>Ex1 λq=>Aj4 (c=(none,x,q)) (Bs kd a₀ p av) (2≤x) (x≤nrem))
   (Q:=λc av=>Ex2 λx q=>Aj4 (c=(none,x,q)) (Bs kd a₀ p av) (2≤x) (x≤nrem)) ?step ?fin ⟨0,rfl,B1,by omega,d'⟩) ?post)
  case fin =>
   rintro c av ⟨q,rfl,b1,b2,b3⟩
   exact⟨_,q,rfl,b1,b2,b3⟩
  case step =>
   rintro x c av x1 x2 ⟨q,rfl,b1,b2,b3⟩
   refine zb4 λQ1 fU=>?_
   refine wpS_bind (zc4 (i:=lo+x) (j:=lo+x-1) C b1 (by omega) (by omega) λe1=>?_)
   cases e1 with
   |true =>
    refine zal (λ_=>?_) (λz=>absurd rfl z)
    exact jp_rev b1 λag B3=>wpS_pure (fU _ _ ⟨0,rfl,B3,by omega,x2⟩)
   |false =>
    refine zal (λz=>absurd z (by decide)) λ_=>wpS_bind (zc4 (i:=lo+x-1) (j:=lo+x) C b1 (by omega) (by omega) λe2=>?_)
    cases e2 with
    |true=>exact zal (λ_=>wpS_pure (fU _ _ ⟨x,q,rfl,b1,b2,b3⟩)) (λz=>absurd rfl z)
    |false=>exact zal (λz=>absurd z (by decide)) λ_=>wpS_pure (fU _ _ ⟨q+1,rfl,b1,by omega,x2⟩)
  case post =>
   rintro c av ⟨x,q,rfl,b1,b2,b3⟩
   refine jp_rev b1 λag B3=>?_
   refine wpS_bind (wpS_reverse ?_)
   have B6:=B3.mirror lo (lo+x) ((lo+x-lo)/2)
   refine wpS_bind (wpS_mono (asc _ x _ (by omega) b3 ?_) ?_)
   ·intro z y Q' y1 y2 q1 q2
    refine wpS_bind (zc4 C B6 (two B6 y1 y2).1 (two B6 y1 y2).2 λb=>?_)
    cases b with
    |true=>exact wpS_pure q1
    |false=>exact wpS_pure q2
   ·rintro c st6 ⟨rfl,m,rfl,m1,m2⟩
    exact wpS_pure (aB _ _ (h m _ B6 (by omega) m2))
 refine zal (λd2=>?_) λd2=>lQ _ B
 refine wpS_bind (zc4 C B (by omega) (by omega) λe=>?_)
 cases e with
 |true=>exact zal (λ_=>wpS_pure (aB _ _ (h n _ B n1 n2))) (λz=>absurd rfl z)
 |false=>exact zal (λz=>absurd z (by decide)) λ_=>wpS_bind (wpS_reverse (lQ _ (B.mirror _ _ _)))
end
def PL:List (Nat×Nat×Nat)→Nat→Nat→Prop
 |[],off,aq=>off=aq
 |q::ps,off,aq=>q.1=off∧0<q.2.1∧PL ps (off+q.2.1) aq
def PL.split{bf:List (Nat×Nat×Nat)}{aq:Nat}:∀{aN:List (Nat×Nat×Nat)} {off:Nat},PL (aN++bf) off aq→∃mid,PL aN off mid∧PL bf mid aq:=by
 intro aN
 induction aN with
 |nil=>intro off h;exact⟨off,rfl,h⟩
 |cons q ps ih =>
  intro off h
  obtain⟨mid,a,b⟩:=ih h.2.2
  exact⟨mid,⟨h.1,h.2.1,a⟩,b⟩
def PL.join{bf:List (Nat×Nat×Nat)}{mid aq:Nat}:∀{aN:List (Nat×Nat×Nat)} {off:Nat},PL aN off mid→PL bf mid aq→PL (aN++bf) off aq:=by
 intro aN
 induction aN with
 |nil=>intro off a b;cases(show off=mid from a);exact b
 |cons q ps ih=>intro off a b;exact⟨a.1,a.2.1,ih a.2.2 b⟩
def PL.len{aq:Nat}:∀{ps:List (Nat×Nat×Nat)} {off:Nat},PL ps off aq→off+ps.length≤aq:=by
 intro ps
 induction ps with
 |nil=>intro off h;exact Nat.le_of_eq h
 |cons q ps ih =>
  intro off h
  have:=ih h.2.2
  have:=h.2.1
  rw[Zb];omega
def zf6{sa:Nat}:∀ (l:List Keyed) (n:Nat) (arr:Array Keyed) (F M S:List Keyed),arr.toList=F++(M++S)→F.length=sa+n→M.length=l.length →
  ((l.zipIdx n).foldl (λ(a:Array Keyed) (q:Keyed×Nat)=>a.setIfInBounds (sa+q.2) q.1) arr).toList=F++(l++S):=by
 intro l
 induction l with
 |nil =>
  intro n arr F M S e _ hl
  have:M=[]:=Jb.mp (by simpa using hl)
  rw[this]at e
  simpa using e
 | cons p l ih =>
  intro n arr F M S e hf hl
  cases M with
  |nil=>simp at hl
  | cons m M =>
   rw[List.zipIdx_cons,Jy]
   have e2:(arr.setIfInBounds (sa+n) p).toList=(F++[p])++(M++S):=by
    rw[Jt,e,←hf,Kn _ _ (Qf _),Xw]
    simp
   rw[ih (n+1) _ (F++[p]) M S e2 (by rw[Ql];simp;omega) (by simpa using hl)]
   simp
section
variable{prog:Nj}{w:Nl}{A:Nm}{E:Na}{s:Ng}{kd:SortKind}{a₀:Array Keyed}
structure Rn(kd:SortKind)(a₀:Array Keyed)(aq:Nat)(st:SortSt):Prop where
 kind:kindOf st=kd
 failed:failedOf st=none
 perm:(arrOf st).Perm a₀
 pend:PL (pendingOf st).toList 0 aq
 le:aq≤a₀.size
def of_perm{xs:Array Keyed}(h:xs.Perm a₀):Of a₀ xs:=λi p e=>by
 refine(Zz.mp h).mem_iff.mp ?_
 have:xs.toList[i]?=some p:=by simpa using e
 exact Yq this
def of_ext{xs:Array Keyed}(h:xs.Perm a₀)(i j:Nat):Of a₀ (xs.extract i j):=λk p e=>by
 have e1:(xs.extract i j).toList[k]?=some p:=by rw[Us];exact e
 have:=Yq e1
 rw[Array.toList_extract,Xg]at this
 exact(Zz.mp h).mem_iff.mp (Wi (Wd this))
def wpS_set{Q:PUnit→SortSt→Prop}{st a7:SortSt}(h:Q ⟨⟩ a7):wpS (model prog w) A E s (set a7:StateT SortSt Sem PUnit) Q st:=by
 unfold wpS;rw[StateT.run_set];exact wpAny_pure ⟨rfl,h⟩
def zck{i aq:Nat}{Q:Bool→SortSt→Prop}{st:SortSt}(C:Cmp prog w A E s kd a₀)(R:Rn kd a₀ aq st)(hi:i+1 < (pendingOf st).size)(h:∀a7,Rn kd a₀ aq a7→(pendingOf a7).size+1=(pendingOf st).size→Q true a7):wpS (model prog w) A E s (mergeAt' i) Q st:=by
 obtain⟨aN,q1,q2,bf,hp,hl⟩:∃aN q1 q2 bf,(pendingOf st).toList=aN++q1::q2::bf∧aN.length=i:=by
  have h1:i<(pendingOf st).toList.length:=by simp;omega
  have h2:i+1<(pendingOf st).toList.length:=by simp;omega
  refine⟨(pendingOf st).toList.take i,(pendingOf st).toList[i],(pendingOf st).toList[i+1],(pendingOf st).toList.drop (i+2),?_,by rw[Zf];omega⟩
  rw[←Yc h2,←Yc h1,Zl]
 have pr:=R.pend
 rw[hp]at pr
 obtain⟨sa,gJ,e1,hA,e2,hB,ij⟩:=pr.split
 obtain⟨az,na,pw⟩:=q1
 obtain⟨sb',nb,kM⟩:=q2
 dsimp only at e1 hA e2 hB ij
 subst e1 e2
 have x1:(pendingOf st)[i]?=some (az,na,pw):=by
  have:(pendingOf st)[i]?=(pendingOf st).toList[i]?:=by simp
  rw[this,hp,←hl];simp
 have x2:(pendingOf st)[i+1]?=some (az+na,nb,kM):=by
  have:(pendingOf st)[i+1]?=(pendingOf st).toList[i+1]?:=by simp
  rw[this,hp,←hl];simp
 have hsz:az+na+nb≤(arrOf st).size:=by
  have:=ij.len
  have:=R.le
  rw[R.perm.size_eq];omega
 have oA:=of_perm R.perm
 have mem:∀j (hj:j<(arrOf st).size),(arrOf st)[j]∈a₀.toList:=λj hj=>oA j _ (getElem?_pos _ j hj)
 have fin:∀(a7:SortSt),kindOf a7=kd→failedOf a7=none→(arrOf a7).Perm a₀→pendingOf a7=((pendingOf st).setIfInBounds i (az,na+nb,pw)).eraseIdxIfInBounds (i+1)→Q true a7:=by
  intro a7 m3 m4 m5 m6
  have e:(pendingOf a7).toList=aN++(az,na+nb,pw)::bf:=by
   rw[m6]
   have e1:((pendingOf st).setIfInBounds i (az,na+nb,pw)).toList=aN++(az,na+nb,pw)::(az+na,nb,kM)::bf:=by
    rw[Jt,hp,←hl,Kn _ _ (Qf _),Xw]
    rfl
   rw[Array.toList_eraseIdxIfInBounds,e1,←hl,List.eraseIdx_append_of_length_le (Yd _ _)]
   simp
  refine h a7 ⟨m3,m4,m5,?_,R.le⟩ ?_
  ·rw [e]
   exact gJ.join ⟨rfl,Nat.add_pos_left hA _,by rw[←Kp];exact ij⟩
  ·rw[←Ym,←Ym,e,hp];simp;omega
 unfold mergeAt'
 refine wpS_bind (wpS_get ?_)
 rw[x1,x2]
 dsimp only
 refine wpS_bind (wpS_set ?_)
 have kr:az+na<(arrOf st).size:=by omega
 refine wpS_bind (zak (getElem?_pos (arrOf st) (az+na) kr) ?_)
 refine wpS_bind (za6 (arr:=arrOf st) (base:=az) (n:=na) (hint:=0) C R.kind oA (mem _ kr) (by omega) hA λk k1=>?_)
 refine zal (λc1=>wpS_pure (fin _ R.kind R.failed R.perm rfl)) λc1=>?_
 have sG:¬na-k=0:=λz=>c1 (beq_iff_eq.mpr z)
 have hla:az+k+(na-k)-1<(arrOf st).size:=by omega
 refine wpS_bind (zak (getElem?_pos (arrOf st) (az+k+(na-k)-1) hla) ?_)
 refine wpS_bind (za6 (arr:=arrOf st) (base:=az+na) (n:=nb) (hint:=nb-1) C R.kind oA (mem _ hla) (by omega) (by omega) λm n1=>?_)
 refine zal (λc2=>wpS_pure (fin _ R.kind R.failed R.perm rfl)) λc2=>?_
 have c2':¬m=0:=λz=>c2 (beq_iff_eq.mpr z)
 have gI:(arrOf st).toList=(arrOf st).toList.take (az+k)++((((arrOf st).extract (az+k) (az+na)).toList++((arrOf st).extract (az+na) (az+na+m)).toList)++(arrOf st).toList.drop (az+na+m)):=by
  rw[←Qm,←Qm,zf2 (by omega) (by omega),zf2 (by omega) (by omega),Zl]
 have oX:=of_ext R.perm (az+k) (az+na)
 have oY:=of_ext R.perm (az+na) (az+na+m)
 have zX:0<((arrOf st).extract (az+k) (az+na)).size:=by rw[Array.size_extract];omega
 have zY:0<((arrOf st).extract (az+na) (az+na+m)).size:=by rw[Array.size_extract];omega
 have done:∀(res:Array Keyed) (a7:SortSt),res.toList.Perm (((arrOf st).extract (az+k) (az+na)).toList++((arrOf st).extract (az+na) (az+na+m)).toList)→SG (SortSt.mk' (kindOf st) (arrOf st) (((pendingOf st).setIfInBounds i (az,na+nb,pw)).eraseIdxIfInBounds (i+1)) (gallopOf st) (failedOf st)) a7 →
   wpS (model prog w) A E s (do
    modify λz=>SortSt.mk' (kindOf z) (res.toList.zipIdx.foldl (λ(a:Array Keyed) (q:Keyed×Nat)=>a.setIfInBounds (az+k+q.2) q.1) (arrOf z)) (pendingOf z) (gallopOf z) (failedOf z)
    let z ←get
    pure (failedOf z).isNone) Q a7:=by
  intro res a7 mg ⟨g,est⟩
  subst est
  refine wpS_bind (wpS_modify (wpS_bind (wpS_get ?_)))
  have eI:failedOf st=none:=R.failed
  show wpS _ _ _ _ (pure (failedOf st).isNone) _ _
  rw[eI]
  refine wpS_pure (fin _ R.kind rfl ?_ rfl)
  have pb:=zf6 (sa:=az+k) res.toList 0 (arrOf st) _ _ _ gI (by rw[Zf,Ym];omega) mg.length_eq.symm
  refine Zz.mpr (List.Perm.trans ?_ (Zz.mp R.perm))
  refine List.Perm.trans (List.Perm.of_eq pb) ?_
  conv=>rhs;rw[gI]
  exact Zv _ (Jg _ mg)
 exact zal (λ_=>wpS_bind (zd7 C R.kind oX oY zX zY done)) λ_=>wpS_bind (zd8 C R.kind oX oY zX zY done)
end
section
variable{prog:Nj}{w:Nl}{A:Nm}{E:Na}{s:Ng}{kd:SortKind}{a₀:Array Keyed}
def PL.congr:∀{ps dQ:List (Nat×Nat×Nat)} {off:Nat},(ps.map λq=>(q.1,q.2.1))=(dQ.map λq=>(q.1,q.2.1))→PL ps off aq→PL dQ off aq:=by
 intro ps
 induction ps with
 |nil =>
  intro dQ off e h
  cases dQ with
  |nil=>exact h
  |cons q r=>cases e
 | cons q ps ih =>
  intro dQ off e h
  cases dQ with
  |nil=>cases e
  |cons q' r =>
   rw[Qj,Qj]at e
   obtain⟨e1,e2⟩:=List.cons.inj e
   obtain⟨e3,e4⟩:=Je e1
   exact⟨e3.symm.trans h.1,e4▸h.2.1,ih e2 (e4▸h.2.2)⟩
def map_mod(f:Nat×Nat×Nat→Nat×Nat×Nat)(hf:∀q,((f q).1,(f q).2.1)=(q.1,q.2.1))(l:List (Nat×Nat×Nat))(i:Nat):((l.modify i f).map λq=>(q.1,q.2.1))=l.map λq=>(q.1,q.2.1):=by
 apply Xk
 intro k
 rw[Qu,Qu,List.getElem?_modify]
 cases l[k]? with
 |none=>simp
 |some q =>
  by_cases e:i=k
  ·simp[e];exact Je (hf q)
  ·simp[e]
def Rn.mod{aq:Nat}{st:SortSt}(R:Rn kd a₀ aq st)(i:Nat)(f:Nat×Nat×Nat→Nat×Nat×Nat)(hf:∀q,((f q).1,(f q).2.1)=(q.1,q.2.1)):Rn kd a₀ aq (setPending st ((pendingOf st).modify i f)) :=
 ⟨R.kind,R.failed,R.perm,by
  show PL ((pendingOf st).modify i f).toList 0 aq
  rw[Array.toList_modify]
  exact R.pend.congr (map_mod f hf _ i).symm,R.le⟩
def wpS_sortAll{st:SortSt}{Q:Unit→SortSt→Prop}(C:Cmp prog w A E s kd a₀)(hk:kindOf st=kd)(hf:failedOf st=none)(hp:(arrOf st).Perm a₀)(dr:pendingOf st=#[])(h:∀a7,(arrOf a7).Perm a₀→failedOf a7=none→Q () a7):wpS (model prog w) A E s sortRuns' Q st:=by
 have R0:Rn kd a₀ 0 st:=⟨hk,hf,hp,by rw[dr];rfl,Zn _⟩
 rw[sortRuns'_eq]
 refine wpS_bind (wpS_get ?_)
 dsimp -zeta only
 have hz:(arrOf st).size=a₀.size:=hp.size_eq
 rw[hz]
 refine wpS_bind (wpS_mono (wpS_forRange
  (I:=λx c a7=>Ex1 λaq=>Aj3 (c=(none,aq)) (Rn kd a₀ aq a7) (x≤aq))
  (Q:=λc a7=>Ex1 λaq=>Aj3 (c=(none,aq)) (Rn kd a₀ aq a7) (a₀.size≤aq)) ?step ?fin ⟨0,rfl,R0,Zn _⟩) ?post)
 case fin =>
  rintro c a7 ⟨aq,rfl,R,hx⟩
  exact⟨aq,rfl,R,by omega⟩
 case step =>
  rintro x c ap _ hx ⟨aq,rfl,R,gd⟩
  refine zb4 λQ0 aB=>?_
  refine zal (λc0=>wpS_pure (aB _ _ ⟨aq,rfl,R,c0⟩)) λc0=>?_
  have B0:Bs kd a₀ (pendingOf ap) ap:=⟨R.kind,R.failed,rfl,R.perm⟩
  refine wpS_bind (zga (lo:=aq) (nrem:=a₀.size-aq) C (by omega) (by omega) B0 λm av B2 m1 m2=>?_)
  dsimp -zeta only
  extract_lets -underBinder +onlyGivenNames n0 jp
  have lQ:∀(n':Nat) (ag:SortSt),1≤n'→aq+n'≤a₀.size→Bs kd a₀ (pendingOf ap) ag→wpS (model prog w) A E s (jp () n') Q0 ag:=by
   intro n' ag l1 l2 B3
   have R3:Rn kd a₀ aq ag:=⟨B3.kind,B3.failed,B3.perm,by rw[B3.pend];exact R.pend,R.le⟩
   have push:∀ao,Rn kd a₀ aq ao→Rn kd a₀ (aq+n') (setPending ao ((pendingOf ao).push (aq,n',0))):=λao R4 =>
    ⟨R4.kind,R4.failed,R4.perm,by show PL ((pendingOf ao).push _).toList 0 _;rw[Wt];exact R4.pend.join ⟨rfl,l1,rfl⟩,l2⟩
   refine wpS_bind (wpS_get ?_)
   extract_lets -underBinder +onlyGivenNames jp2
   have lP:∀ao,Rn kd a₀ aq ao→wpS (model prog w) A E s (jp2 ()) Q0 ao:=λao R4=>wpS_bind (wpS_modify (wpS_pure (aB _ _ ⟨aq+n',rfl,push ao R4,by omega⟩)))
   cases(pendingOf ag).back? with
   |none=>exact lP _ R3
   | some q =>
    obtain⟨s1,n1,o1⟩:=q
    refine wpS_bind (wpS_mono (wpS_forRange (I:=λ_ c ao=>Aj2 (c=(none,())) (Rn kd a₀ aq ao)) (Q:=λc ao=>Aj2 (c=(none,())) (Rn kd a₀ aq ao)) ?istep (λ_ _ z=>z) ⟨rfl,R3⟩) ?ipost)
    case istep =>
     rintro y c ao _ _ ⟨rfl,R4⟩
     refine zb4 λQ1 fU=>wpS_bind (wpS_get ?_)
     dsimp only
     by_cases hs:(pendingOf ao).size>1
     ·rw [if_pos hs,getElem?_pos (pendingOf ao) ((pendingOf ao).size - 2) (by omega)]
      refine zal (λ_=>wpS_pure (fU _ _ ⟨rfl,R4⟩)) λ_=>wpS_bind (zck C R4 (by omega) λic R5 _=>?_)
      exact zal (λz=>absurd z (by decide)) λ_=>wpS_pure (fU _ _ ⟨rfl,R5⟩)
     ·rw [if_neg hs]
      exact wpS_pure (fU _ _ ⟨rfl,R4⟩)
    case ipost =>
     rintro c ao ⟨rfl,R4⟩
     exact wpS_bind (wpS_modify (lP _ (R4.mod _ _ λq=>rfl)))
  refine zal (λc1=>?_) λc1=>lQ m av m1 (by omega) B2
  have sG:m<minRun' a₀.size a₀.size 0:=c1
  refine wpS_bind (wpS_lift (wpAny_rule ⟨rfl,?_⟩))
  refine wpS_bind (ze8 (lo:=aq) (n:=min (a₀.size-aq) (minRun' a₀.size a₀.size 0)) C (by omega) B2 λag B3=>?_)
  exact zal (λz=>absurd z (by decide)) λ_=>lQ _ ag (by omega) (by omega) B3
 case post =>
  rintro c ap ⟨aq,rfl,R,hx⟩
  refine wpS_bind (wpS_mono (wpS_forRange (I:=λ_ c ao=>Aj2 (c=(none,())) (Rn kd a₀ aq ao)) (Q:=λc ao=>Aj2 (c=(none,())) (Rn kd a₀ aq ao)) ?istep (λ_ _ z=>z) ⟨rfl,R⟩) ?ipost)
  case istep =>
   rintro y c ao _ _ ⟨rfl,R4⟩
   refine zb4 λQ1 fU=>wpS_bind (wpS_get ?_)
   dsimp only
   refine zal (λ_=>wpS_pure (fU _ _ ⟨rfl,R4⟩)) λhs=>wpS_bind (zck C R4 ?_ λic R5 _=>?_)
   ·repeat' split
    all_goals omega
   ·exact zal (λz=>absurd z (by decide)) λ_=>wpS_pure (fU _ _ ⟨rfl,R5⟩)
  case ipost =>
   rintro c ao ⟨rfl,R4⟩
   exact wpS_pure (h ao R4.perm R4.failed)
end
end Tm
end
section
namespace Tm
open PySem PyProof.Rows PySem.W
section
variable{O:KeyOrd}{kf:Nat→O.α}{n:Nat}{s:Ng}{cmp:Nat→Nat→(Bool→Shared→Prop)→Shared→Prop}
def kk(kf:Nat→O.α)(p:Array Nat)(i:Nat):O.α:=kf (p.getD i 0)
def kk_rev{p:Array Nat}{i j:Nat}(hj:j≤p.size)(k:Nat):kk kf (kas_rev p i j) k=if i≤k∧k<j then kk kf p (i+j-1-k) else kk kf p k:=by
 unfold kk kas_rev
 simp only[Uk,getElem?_mirror_all hj k]
 split<;>rfl
def kk_bub(hs:a<p.size)(hd:d≤a)(k:Nat):kk kf (bubble p a d) k=if k=a-d then kk kf p a else if a-d<k∧k≤a then kk kf p (k-1) else kk kf p k:=by
 unfold kk
 simp only[Uk,getElem?_bubble hs d hd k]
 repeat' split
 all_goals rfl
def Up(kf:Nat→O.α)(p:Array Nat)(k:Nat):Prop:=∀i j,i≤j→j<k→O.kle (kk kf p i) (kk kf p j)
def Dn(kf:Nat→O.α)(p:Array Nat)(k:Nat):Prop:=∀i j,i≤j→j<k→O.kle (kk kf p j) (kk kf p i)
def Up.snoc{p:Array Nat}{a:Nat}(h1:1≤a)(h:Up kf p a)(e:O.kle (kk kf p (a-1)) (kk kf p a)):Up kf p (a+1):=λi j aX hj=>by
 by_cases z:j<a
 ·exact h i j aX z
 obtain rfl:j=a:=by omega
 by_cases z2:i=j
 ·subst z2;exact Wc _
 ·exact Yl (h i (j-1) (by omega) (by omega)) e
def Dn.snoc{p:Array Nat}{a:Nat}(h1:1≤a)(h:Dn kf p a)(e:O.kle (kk kf p a) (kk kf p (a-1))):Dn kf p (a+1):=λi j aX hj=>by
 by_cases z:j<a
 ·exact h i j aX z
 obtain rfl:j=a:=by omega
 by_cases z2:i=j
 ·subst z2;exact Wc _
 ·exact Yl e (h i (j-1) (by omega) (by omega))
structure Ar(n:Nat)(p:Array Nat):Prop where
 sz:p.size=n
 lt:∀i,0<n→p.getD i 0<n
 pm:p.Perm (List.toArray (List.range n))
def Ar.of(h:p.Perm (List.toArray (List.range n))):Ar n p:=by
 have z:p.size=n:=by rw[h.size_eq];simp
 refine⟨z,λi h0=>?_,h⟩
 by_cases hi:i<p.size
 ·have:p[i]∈List.range n:=(Zz.mp h).mem_iff.mp (by simp)
  rw[Uk,getElem?_pos p i hi]
  exact Yp.mp this
 ·rw[Uk,getElem?_neg p i hi];exact h0
def Ar.rev{p:Array Nat}(h:Ar n p)(i j:Nat):Ar n (kas_rev p i j):=.of ((mirror_perm _ _ _ _).trans h.pm)
def Ar.bub(h:Ar n p)(i j:Nat):Ar n (bubble p i j):=.of ((bubble_perm _ _ _).trans h.pm)
variable(h0:0<n)(hc:∀i j C,i<n→j<n→C (O.blt (kf i) (kf j)) s→cmp i j C s)
include h0 hc
theorem t_ask{p:Array Nat}(P:Ar n p){α:Type}{i j:Nat}{k:Bool→KasT α}{Q:α→Shared→Prop}(h1:O.klt (kk kf p i) (kk kf p j)→(k true).kasWp cmp Q s)(h2:O.kle (kk kf p j) (kk kf p i)→(k false).kasWp cmp Q s):(KasT.ask (p.getD i 0) (p.getD j 0) k).kasWp cmp Q s:=by
 refine hc _ _ _ (P.lt _ h0) (P.lt _ h0) ?_
 cases e:O.blt (kf (p.getD i 0)) (kf (p.getD j 0)) with
 |true=>exact h1 e
 |false=>exact h2 e
theorem t_asc(P:Ar n p){Q:Nat→Shared→Prop}:∀(f a:Nat),1≤a→a+f≤n→Up kf p a→(∀m,a≤m→m≤a+f→Up kf p m→(m=a+f∨O.klt (kk kf p m) (kk kf p (m-1)))→Q m s)→(kas_asc p f a).kasWp cmp Q s
 |0,a,_,_,hs,h=>h a (Qf _) (Qf _) hs (.inl rfl)
 |f+1,a,h1,hn,hs,h=>t_ask h0 hc P (λe=>h a (Qf _) (by omega) hs (.inr e)) λe=>t_asc P f (a+1) (by omega) (by omega) (hs.snoc h1 e) λm h2 h3=>h m (by omega) (by omega)|>λq h4 h5=>q h4 (h5.imp (by omega) id)
theorem t_desc{Q:Array Nat×Nat×Nat→Shared→Prop}:∀(f:Nat) (p:Array Nat) (a q:Nat),Ar n p→1≤a→a+f≤n→Dn kf p a→q<a→(∀i,a-(q+1)≤i→i<a→kk kf p i=kk kf p (a-1))→(∀p' m q',Ar n p'→a≤m→m≤a+f→Dn kf p' m→q'<m→(∀i,m-(q'+1)≤i→i<m→kk kf p' i=kk kf p' (m-1))→Q (p',m,q') s)→(kas_desc f p a q).kasWp cmp Q s
 |0,p,a,q,P,_,_,hs,hq,he,h=>h p a q P (Qf _) (Qf _) hs hq he
 | f+1,p,a,q,P,h1,hn,hs,hq,he,h=>by
  have again:∀p',Ar n p'→Dn kf p' (a+1)→∀q'<a+1,(∀i,a+1-(q'+1)≤i→i<a+1→kk kf p' i=kk kf p' (a+1-1))→(kas_desc f p' (a+1) q').kasWp cmp Q s:=λp' P' bm q' gi cS=>t_desc f p' (a+1) q' P' (by omega) (by omega) bm gi cS λp2 m q2 P2 h3 h4=>h p2 m q2 P2 (by omega) (by omega)
  have one:∀(p':Array Nat) (i:Nat),a+1-(0+1)≤i→i<a+1→kk kf p' i=kk kf p' (a+1-1):=λp' i h2 h3=>by rw[show i=a+1-1 by omega]
  refine t_ask h0 hc P (λe=>?_) λe=>?_
  ·rw [if_pos rfl]
   have same:∀k,kk kf (kas_rev p (a-(q+1)) a) k=kk kf p k:=λk=>by
    rw[kk_rev (by rw[P.sz];omega)]
    split
    ·rw[he _ (by omega) (by omega),he k (by omega) (by omega)]
    ·rfl
   split
   ·refine again _ (P.rev _ _) (fun i j aX hj=>?_) 0 (by omega) (one _)
    rw[same,same]
    exact hs.snoc h1 (Yi e) i j aX hj
   ·exact again _ P (hs.snoc h1 (Yi e)) 0 (by omega) (one _)
  ·rw [if_neg (by simp)]
   refine t_ask h0 hc P (λe2=>?_) λe2=>?_
   ·rw[if_pos rfl];exact h p a q P (Qf _) (by omega) hs hq he
   ·rw [if_neg (by simp)]
    have eq:=Kr e2 e
    refine again _ P (hs.snoc h1 e2) (q+1) (by omega) λi h2 h3=>?_
    rw[Nat.add_sub_cancel]
    by_cases z:i=a
    ·rw[z]
    ·rw[he i (by omega) (by omega),eq]
theorem t_tail(P:Ar n p)(h1:1≤m)(hm:m≤n)(hs:Dn kf p m)(h:∀p' k,Ar n p'→1≤k→k≤n→Up kf p' k→Q (k,p') s):(kas_tail3 m n p).kasWp cmp Q s:=by
 unfold kas_tail3
 rw[Xp]
 refine t_asc h0 hc (P.rev 0 m) _ m h1 (by omega) (λi j aX hj=>?_) λk h2 h3 h4 _=>h _ k (P.rev 0 m) (by omega) (by omega) h4
 rw[kk_rev (by rw[P.sz];omega),kk_rev (by rw[P.sz];omega),if_pos (by omega),if_pos (by omega)]
 exact hs _ _ (by omega) (by omega)
theorem t_dpart(P:Ar n p)(hm:m+1≤n)(hs:Dn kf p (m+1))(h:∀p' k,Ar n p'→1≤k→k≤n→Up kf p' k→Q (k,p') s):(kas_descPart m n p).kasWp cmp Q s:=by
 unfold kas_descPart
 rw[Xp]
 refine t_desc h0 hc _ p (m+1) 0 P (by omega) (by omega) hs (by omega) (λi h2 h3=>by rw[show i=m+1-1 by omega]) λp' k q P' h2 h3 bm hq he=>?_
 dsimp only
 split
 ·refine t_tail h0 hc (P'.rev _ _) (by omega) (by omega) (fun i j aX hj=>?_) h
  have same:∀i,kk kf (kas_rev p' (k-(q+1)) k) i=kk kf p' i:=λi=>by
   rw[kk_rev (by rw[P'.sz];omega)]
   split
   ·rw[he _ (by omega) (by omega),he i (by omega) (by omega)]
   ·rfl
  rw[same,same]
  exact bm i j aX hj
 ·exact t_tail h0 hc P' (by omega) (by omega) bm h
theorem t_count(P:Ar n p){Q:Nat×Array Nat→Shared→Prop}(h:∀p' k,Ar n p'→1≤k→k≤n→Up kf p' k→Q (k,p') s):(kas_count n p).kasWp cmp Q s:=by
 unfold kas_count
 rw[Xp]
 refine t_asc h0 hc P _ 1 (Qf _) (by omega) (λi j aX hj=>by rw[show i=j by omega];exact Wc _) λm h1 h2 hs hor=>?_
 split
 ·exact h p m P h1 (by omega) hs
 rename_i aH
 have iZ:m≠n:=by simpa using aH
 have ad:=hor.resolve_left (by omega)
 split
 ·refine t_ask h0 hc P (fun _=>?_) fun e=>?_
  ·rw[if_pos rfl];exact h p m P h1 (by omega) hs
  ·rw [if_neg (by simp)]
   have all:∀k,k<m→kk kf p k=kk kf p (m-1):=λk hk=>Kr (hs k (m-1) (by omega) (by omega)) (Yl e (hs 0 k (by omega) hk))
   have same:∀k,kk kf (kas_rev p 0 m) k=kk kf p k:=λk=>by
    rw[kk_rev (by rw[P.sz];omega)]
    split
    ·rw[all _ (by omega),all k (by omega)]
    ·rfl
   refine t_dpart h0 hc (P.rev 0 m) (by omega) (Dn.snoc h1 (λi j aX hj=>?_) (by rw[same,same];exact Yi ad)) h
   rw[same,same,all i (by omega),all j hj]
   exact Wc _
 ·obtain rfl:m=1:=by omega
  exact t_dpart h0 hc P (by omega) (Dn.snoc (Qf _) (λi j aX hj=>by rw[show i=j by omega];exact Wc _) (Yi ad)) h
theorem t_place{k:Nat}(P:Ar n p)(hs:Up kf p k){Q:Nat→Shared→Prop}:∀(f l r:Nat),l≤r→r≤k→r-l≤f→(∀i,i<l→O.kle (kk kf p i) (kk kf p k))→(∀i,r≤i→i<k→O.klt (kk kf p k) (kk kf p i))→(∀l,l≤k→(∀i,i<l→O.kle (kk kf p i) (kk kf p k))→(∀i,l≤i→i<k→O.klt (kk kf p k) (kk kf p i))→Q l s)→(kas_place p k f l r).kasWp cmp Q s
 |0,l,r,h1,h2,h3,h4,h5,h=>h l (by omega) h4 λi q=>h5 i (by omega)
 | f+1,l,r,h1,h2,h3,h4,h5,h=>by
  unfold kas_place
  split
  ·exact h l (by omega) h4 λi q=>h5 i (by omega)
  ·refine t_ask h0 hc P (fun e=>?_) fun e=>?_
   ·rw [if_pos rfl]
    exact t_place P hs f l _ (by omega) (by omega) (by omega) h4 (λi q1 q2=>Kw e (hs _ _ q1 q2)) h
   ·rw [if_neg (by simp)]
    exact t_place P hs f _ r (by omega) h2 (by omega) (λi q=>Yl (hs i ((l+r)/2) (by omega) (by omega)) e) h5 h
theorem t_bin(h:∀p,Ar n p→Up kf p n→Q p s):∀(f:Nat) (p:Array Nat) (k:Nat),Ar n p→Up kf p k→k+f=n→(kas_bin f p k).kasWp cmp Q s
 |0,p,k,P,hs,e=>h p P (by rwa[←e])
 | f+1,p,k,P,hs,e=>by
  unfold kas_bin
  rw[Xp]
  refine t_place h0 hc P hs k 0 k (by omega) (by omega) (by omega) (λi q=>absurd q (by omega)) (λi q1 q2=>absurd q2 (by omega)) λl hl hlo hhi=>t_bin h f _ (k+1) (P.bub _ _) (λi j aX hj=>?_) (by omega)
  have hk:k<p.size:=by rw[P.sz];omega
  rw[kk_bub hk (by omega),kk_bub hk (by omega),show k-(k-l)=l by omega]
  repeat' split
  all_goals first
   |(exfalso;omega)
   |exact Wc _
   |exact hlo _ (by omega)
   |exact Yi (hhi _ (by omega) (by omega))
   |exact hs _ _ (by omega) (by omega)
theorem t_sort(h:∀p,Ar n p→Up kf p n→Q p s):(kas_sort n).kasWp cmp Q s:=by
 unfold kas_sort
 rw[Xp]
 refine t_count h0 hc (.of (Array.Perm.refl _)) λp k P h1 h2 hs=>?_
 dsimp only
 split
 ·exact t_bin h0 hc h _ p _ P (by rwa[Nat.max_eq_left h1]) (by omega)
 ·exact h p P (by rwa[show k=n by omega]at hs)
end
open AutoSeq1 (wpAny_loadPart')
open MeetsSeq MeetsSeq2 MeetsSeq3 SeqRoads2
section
variable{prog:Nj}{w:Nl}{A:Nm}{E:Na}{s:Ng}{R:List Value→Prop}{vs:Nh}
structure zbv(prog:Nj)(w:Nl)(A:Nm)(E:Na)(s:Ng)(R:List Value→Prop)(vs:Nh):Prop where
 few:vs.length<2→R vs
 go:2≤vs.length→∃kd:SortKind,(∀Q:SortKind→Shared→Prop,Q kd s→wpAny (model prog w) A (keyKind' vs.toArray) Q E s) ∧
  ∀Q:Unit→SortSt→Prop,(∀a7,(arrOf a7).Perm (pairsOf vs)→failedOf a7=none→R ((arrOf a7).toList.map (·.2))→Q () a7)→wpS (model prog w) A E s sortRuns' Q (SortSt.mk' kd (vs.toArray.zip vs.toArray) #[] 7 none)
def zci(vs:Nh):(pairsOf vs).toList=vs.map λv=>(v,v):=by
 rw[pairsOf_toList]
 induction vs with
 |nil=>rfl
 |cons v r ih=>rw[List.zip_cons_cons,Qj,ih]
def perm_back{l:List Keyed}{vs:Nh}(h:l.Perm (vs.map λv=>(v,v))):(l.map (·.2)).Perm vs:=by
 have:=h.map (·.2)
 rwa[Zk,show((λ(p:Keyed)=>p.2)∘λv=>(v,v))=id from rfl,List.map_id]at this
def cmp_of{kd:SortKind}(h:∀x y,x∈vs→y∈vs→∀(Q:Bool→Shared→Prop) (E':Value→Shared→Prop),(∀b,Q b s)→wpAny (model prog w) A (keyLt' kd x y) Q E' s):Cmp prog w A E s kd (pairsOf vs):=by
 intro x y st Q hx hy hk q
 rw[zci]at hx hy
 obtain⟨v,hv,rfl⟩:=Qk.mp hx
 obtain⟨u,hu,rfl⟩:=Qk.mp hy
 rw[lt'_eq]
 refine wpS_bind (wpS_get ?_)
 rw[hk]
 refine wpS_bind (wpS_lift (wpAny_attempt (h v u hv hu _ _ λb=>⟨rfl,?_⟩)))
 exact wpS_pure (q b)
def zbv.ord{O:KeyOrd}{kv:Value→O.α}(h:2≤vs.length→∃ kd:SortKind,(∀ Q:SortKind→Shared→Prop,Q kd s→wpAny (model prog w) A (keyKind' vs.toArray) Q E s)∧∀ x y,x∈vs→y∈vs→∀ (Q:Bool→Shared→Prop) (E':Na),Q (O.blt (kv x) (kv y)) s→wpAny (model prog w) A (keyLt' kd x y) Q E' s):zbv prog w A E s (fun ws=>vs.length < 64→ws.Pairwise fun x y=>O.kle (kv x) (kv y)) vs:=by
 refine⟨λh2 _=>?_,λh2=>?_⟩
 ·obtain _ | ⟨v,_ | ⟨v',r⟩⟩:=vs
  ·exact List.Pairwise.nil
  ·exact Ki _ _
  ·exact absurd h2 (by simp)
 obtain⟨kd,a1,a2⟩:=h h2
 refine⟨kd,a1,λQ q=>?_⟩
 by_cases om:vs.length<64
 ·have at_:∀ i,i < vs.length→vs.getD i .none∈vs:=fun i hi=>by
   rw[Qw,Qc hi]
   exact Qn hi
  have st0:SortSt.mk' kd (vs.toArray.zip vs.toArray) #[] 7 none=kas_st kd (pairsOf vs) (List.toArray (List.range vs.length)):=by
   unfold kas_st
   rw[←pairsOf_size vs,kas_range]
   rfl
  rw[st0]
  refine kas_runs (κ:=kd) (it:=pairsOf vs) (E:=E) (Q:=λr st s'=>s'=s∧Q r st) (G:=λp s'=>Aj3 (s'=s) (Ar vs.length p) (Up (O:=O) (λi=>kv (vs.getD i .none)) p vs.length)) h2 om (λp a7 s' hz ha hf ⟨hs,P,U⟩=>⟨hs,q a7 ?_ hf λ_=>?_⟩) (t_sort (O:=O) (kf:=λi=>kv (vs.getD i .none)) (by omega) (λi j C hi hj hC=>?_) λp P U=>⟨rfl,P,U⟩)
  ·have:=(Zz.mp P.pm).map (kas_item (pairsOf vs))
   rw[←Xu,←Xu,←pairsOf_size vs,kas_range]at this
   rw[ha]
   exact Zz.mpr this
  ·rw [ha,Xu,Zk,Ws,Wr]
   intro i j hi hj aX
   have e:∀k (hk:k<p.toList.length),kv ((kas_item (pairsOf vs) p.toList[k]).2)=kk (λi=>kv (vs.getD i .none)) p k:=λk hk=>by
    unfold kk
    rw[kas_item_eq,Uk,getElem?_pos p k (by simpa using hk)]
    rfl
   show O.kle (kv _) (kv _)
   dsimp only[Function.comp]
   rw[e i hi,e j hj]
   exact U i j (Zt aX) (by simpa[P.sz] using hj)
  ·unfold kas_cmp
   rw[kas_item_eq,kas_item_eq]
   exact a2 _ _ (at_ i hi) (at_ j hj) _ _ hC
 ·exact wpS_sortAll (cmp_of λx y hx hy Q' E' q'=>a2 x y hx hy Q' E' (q' _)) rfl rfl (Array.Perm.refl _) rfl λa7 p1 p2=>q a7 p1 p2 λz=>absurd z om
abbrev strO:KeyOrd:=strKind.toKeyOrd
def kvS(v:Value):List Nat:=(strOf v).cps.toList
def zek(hv:∀v∈vs,∃x t,v=.str x t):zbv prog w A E s (λws=>vs.length<64→ws.Pairwise λx y=>strO.kle (kvS x) (kvS y)) vs:=by
 refine .ord λh2=>⟨oneType',λQ q=>kas_kind (T:=.type "str") h2 (λv hm=>?_) (by decide) (by decide) q,λx y hx hy Q E' q=>?_⟩
 ·obtain ⟨x,t,rfl⟩:=hv v hm
  exact Looks.of_pure rfl
 ·obtain ⟨a,t,rfl⟩:=hv x hx
  obtain⟨b,u,rfl⟩:=hv y hy
  rw[keyLt'_oneType]
  exact oneLt_str q
def sort_list{a:Nc}{n:Nat}{P:Fin→Shared→Prop}(ho:s.heap.get? a=some (seqObj "list" vs.toArray n))(hz:vs.length≤sizeLine)(hS:∀s':Shared,(∀b o,b≠a→s.heap.get? b=some o→s'.heap.get? b=some o)→zbv prog w A E s' R vs)(h:∀ws:List Value,ws.Perm vs→R ws→P (.done (.ret .none)) {s with heap:=sortedHeap s.heap a vs ws.toArray}) :
  wpAny (model prog w) A (Builtin.«list.sort» ⟨[.ref a],[]⟩) P E s:=by
 have lt:a<s.heap.objs.size:=Qz ho
 rw[list_sort_plain]
 refine wpAny_bind (listItems_at ho rfl (wpAny_bind (listUpdate_at ho rfl ?_ (hsz:=by simpa using hz) (hsz2:=by simp))))
 obtain⟨e1,k1⟩:∃e,(s.heap.update a (Obj.mapSeq λ_=>#[])).get? a=some (seqObj "list" #[] e):=⟨_,get?_update_seq ho λ_=>#[]⟩
 refine wpAny_bind (seqEpoch_at k1 rfl (wpAny_bind (wpAny_newTuple (wpAny_bind (wpAny_newList (wpAny_holding ?_))))))
 show wpAny (model prog w) A _ P E {s with heap:=((s.heap.update a (Obj.mapSeq λ_=>#[])).push (seqObj "tuple" vs.toArray 0)).push (seqObj "list" #[] 0)}
 generalize hg:((s.heap.update a (Obj.mapSeq λ_=>#[])).push (seqObj "tuple" vs.toArray 0)).push (seqObj "list" #[] 0)=g
 have k6:g.get? a=some (seqObj "list" #[] e1):=by
  rw[←hg]
  exact Qi _ (Qi _ k1)
 have kk:∀b o,b≠a→s.heap.get? b=some o→g.get? b=some o:=λb o hb e=>by
  rw[←hg]
  exact Qi _ (Qi _ ((Js s.heap _ (Zo hb)).trans e))
 have eh:∀out,sortedHeap s.heap a vs out=g.update a (Obj.mapSeq λ_=>out):=λout=>by rw[←hg];rfl
 have S:=hS {s with heap:=g} kk
 dsimp only
 have fin:∀(l:Array Keyed),l.toList.Perm (vs.map λv=>(v,v))→R (l.toList.map (·.2))→P (.done (.ret .none)) {s with heap:=g.update a (Obj.mapSeq λ_=>l.map (·.2))}:=λl p1 p2=>by
  have:=h _ (perm_back p1) p2
  rw[eh]at this
  rw[show l.map (·.2)=(l.toList.map (·.2)).toArray by rw[←Xu]]
  exact this
 have lz:vs.toArray.size=vs.length:=Qq
 have szOk:∀l:Array Keyed,l.toList.Perm (vs.map λv=>(v,v))→(l.map (·.2)).size≤sizeLine+1:=λl p1=>by
  rw[Array.size_map,←Ym,p1.length_eq,Qa];exact zh2 ‹_›
 by_cases few:vs.toArray.size<2
 ·rw [if_pos few,if_pos few]
  refine wpAny_bind (wpAny_pure ?_)
  rw[StateT.run_pure]
  have pr:(pairsOf vs).toList.Perm (vs.map λv=>(v,v)):=by rw[zci]
  refine wpAny_bind (wpAny_pure (wpAny_bind (seqEpoch_at k6 rfl (wpAny_bind (listUpdate_at k6 rfl ?_ (hsz:=by simp) (hsz2:=szOk (pairsOf vs) pr))))))
  simp only[bne_self_eq_false,Wo,if_false]
  refine wpAny_pure (fin (pairsOf vs) pr ?_)
  rw[zci,Zk,show((λ(p:Keyed)=>p.2)∘λv=>(v,v))=id from rfl,List.map_id]
  exact S.few (by rw[←lz];exact few)
 ·rw [if_neg few,if_neg few]
  obtain⟨kd,ask,C⟩:=S.go (by omega)
  refine wpAny_bind (ask _ ?_)
  refine wpAny_bind (wpAny_mono (C (λ_ a7=>Aj3 ((arrOf a7).Perm (pairsOf vs)) (failedOf a7=none) (R ((arrOf a7).toList.map (·.2)))) λa7 p1 p2 p3=>⟨p1,p2,p3⟩) ?_ λ_ _ e=>e)
  rintro⟨⟨⟩,a7⟩ s' ⟨rfl,p1,p2,p3⟩
  have pr:(arrOf a7).toList.Perm (vs.map λv=>(v,v)):=by rw[←zci];exact Zz.mp p1
  dsimp only
  refine wpAny_bind (seqEpoch_at k6 rfl (wpAny_bind (listUpdate_at k6 rfl ?_ (hsz:=by simp) (hsz2:=szOk (arrOf a7) pr))))
  rw[p2]
  simp only[bne_self_eq_false,Wo,if_false]
  exact wpAny_pure (fin _ pr p3)
def zfc{x:Value}{G:List Value→Prop}{R:List Value→List Value→Prop}{Q:Na}(rO:∀(E':Na) (R:List Value→Shared→Prop),(∀(g:Nn) (tk:Nat) (vs:Nh),(∀b o,s.heap.get? b=some o→g.get? b=some o)→s.heap.objs.size≤g.objs.size→G vs→R vs {s with heap:=g,toks:=tk})→wpAny (model prog w) A.in1 (collect x) R E' s)(hz:∀vs,G vs→vs.length≤sizeLine)(hS:∀vs,G vs→∀(A':Around) (E':Value→Shared→Prop) (s':Shared),A'.units≤A.units+8→(∀b o,s.heap.get? b=some o→s'.heap.get? b=some o)→zbv prog w A' E' s' (R vs) vs)(h:∀(vs ws:Nh) (l:Nc) (g:Nn) (tk e:Nat),G vs→ws.Perm vs→R vs ws→s.heap.objs.size≤l→(∀b o,s.heap.get? b=some o→g.get? b=some o)→g.get? l=some (seqObj "list" ws.toArray e)→Q (.ref l) {s with heap:=g,toks:=tk}) :
  wpAny (model prog w) A (call (.builtin "sorted") [x]) Q E s:=by
 refine Calls.call_function_entry kind_sorted plain_sorted entry_sorted (args_sorted1 _) ?_
 unfold Builtin.«sorted»
 refine wpAny_bind (m:=checkCount "sorted" 1 1 _) (wpAny_pure (wpAny_bind (rO _ _ λg tk vs kg le hG=>?_)))
 have hzv:=hz vs hG
 refine wpAny_bind (wpAny_newList ?_ (hsz:=hzv))
 have o1:(g.push (seqObj "list" vs.toArray 0)).get? g.objs.size=some (seqObj "list" vs.toArray 0):=Zd _ rfl
 show wpAny _ _ _ _ _ {s with heap:=g.push (seqObj "list" vs.toArray 0),toks:=tk}
 refine wpAny_bind (wpAny_holding (wpAny_call_entry slot_list_sort ⟨_,o1,rfl⟩ entry_list_sort (sort_list (R:=R vs) o1 hzv (λs' k=>hS vs hG _ _ s' ?_ λb o e=>k b o (λz=>?_) (Qi _ (kg b o e))) λws p1 p2=>⟨_,rfl,?_⟩) (args_list_sort _)))
 ·show A.units+1+1≤A.units+8
  omega
 ·have lt:b < g.objs.size:=Qz (kg b o e)
  rw[z]at lt
  exact absurd lt (Wh _)
 ·obtain ⟨e,he⟩:=sortedHeap_at (out:=ws.toArray) o1
  refine wpAny_pure ⟨_,rfl,h vs ws _ _ _ e hG p1 p2 le (λb o q=>?_) he⟩
  have lt:b<g.objs.size:=Qz (kg b o q)
  rw[sortedHeap_old (Zr lt) (by rw[size_push'];exact Kk lt)]
  exact Qi _ (kg b o q)
def zhc{T:String}{r d:Nc}{n:Nat}{P:Nat→Value→Prop}{OK:Heap→Prop}{R:List Value→Shared→Prop}(K:KdlSrc prog w T r d n P OK)(hh:A.handled=none)(ok:OK s.heap)(hn:n≤sizeLine)(h:∀(g:Nn) (tk:Nat) (am:Array Value),(∀b o,s.heap.get? b=some o→g.get? b=some o)→s.heap.objs.size≤g.objs.size→ItemsOf P am n→R am.toList {s with heap:=g,toks:=tk}) :
  wpAny (model prog w) A (collect (.ref r)) R E s:=by
 have there:=K.there _ ok
 unfold collect
 refine wpAny_bind (wpAny_runValue (codeAny_builtin entry_proto_collect' ?_))
 rw[Wx PySem.F.plain_proto_collect _]
 show wpAny _ A.in1 (newList [] >>= λl =>
  again (.builtin "list.__iadd__" ⟨[l,.ref r],[]⟩)) _ _ s
 refine wpAny_bind (wpAny_newObj_type (wpAny_pure ⟨plainId_quiet PySem.F.plain_list_iadd _,codeAny_builtin entry_list_iadd' ?_⟩))
 rw[Wx PySem.F.plain_list_iadd _]
 show wpAny _ A.in1 (Builtin.List.listExtendWith (.ref s.heap.objs.size)
  (.ref r) (.ref s.heap.objs.size)) _ _ _
 have jI:(s.heap.push {cls:=.type "list",data:=.seq ([]:List Value).toArray}).get? s.heap.objs.size=some {cls:=.type "list",data:=.seq #[]}:=Zd _ rfl
 refine wpAny_mono (kdl_extend (A:=A) (s:={s with heap:=s.heap.push {cls:=.type "list",data:=.seq ([]:List Value).toArray}})
  (R:=fun (q:Result) (s':Ng)=>∃ (g:Nn) (tk:Nat) (am:Array Value) (c:Nat),q=.ok (.ret (.ref s.heap.objs.size))∧s'={ s with heap:=g,toks:=tk } ∧
   (∀b o,s.heap.get? b=some o→g.get? b=some o)∧g.get? s.heap.objs.size=some {cls:=.type "list",dict:=none,data:=.seq am c,slots:=#[]}∧ItemsOf P am n)
  K hh (K.keep _ _ ok λb _ o e=>Qi _ e) s.heap.objs.size (Wk there.1) (Wk there.2) (.ref s.heap.objs.size) 0 jI
  (λg tk am c hk hS ha=>⟨g,tk,am,c,rfl,rfl,λb o e=>hk b o (Zr (Qz e)) (Qi _ e),hS,ha⟩) hn) (λfin s' x=>?_) λe s' x=>?_
 ·cases fin with
  |done f =>
   obtain⟨g,tk,am,c,e,rfl,hk,hS,ha⟩:=x
   cases e
   show wpAny _ A (load s.heap.objs.size >>= _) _ _ _
   exact wpAny_bind (wpAny_load hS (wpAny_pure (h g tk am hk (Zt (Qz hS)) ha)))
  |again c1 =>
   refine⟨x.1,codeAny_mono x.2 λq s2 y=>?_⟩
   obtain⟨g,tk,am,c,rfl,rfl,hk,hS,ha⟩:=y
   show wpAny _ A (load s.heap.objs.size >>= _) _ _ _
   exact wpAny_bind (wpAny_load hS (wpAny_pure (h g tk am hk (Zt (Qz hS)) ha)))
 ·obtain ⟨_,_,_,_,e',_⟩:=x
  cases e'
def sorted_any{Q:Na}(hl:s.heap.IsList l vs.toArray)(hz:vs.length≤sizeLine)(hS:∀(A':Around) (E':Value→Shared→Prop) (s':Shared),A'.units≤A.units+8→(∀b o,s.heap.get? b=some o→s'.heap.get? b=some o)→zbv prog w A' E' s' R vs)(h:∀(ws:Nh) (l:Nc) (g:Nn) (tk e:Nat),ws.Perm vs→R ws→s.heap.objs.size≤l→(∀b o,s.heap.get? b=some o→g.get? b=some o)→g.get? l=some (seqObj "list" ws.toArray e)→Q (.ref l) {s with heap:=g,toks:=tk}) :
  wpAny (model prog w) A (call (.builtin "sorted") [.ref l]) Q E s :=
 zfc (G:=λus=>us=vs) (R:=λ_=>R) (λE' R' hR=>collect_list hl (hR _ _ _ (λb o e=>(Js _ _ (Zo (Zr (Qz e)))).trans (Qi _ e)) (by rw[Heap.size_update,size_push'];exact Kh _) rfl) hz) (λus e=>e▸hz) (λus e=>e▸hS) λus ws l g tk e e' p1 p2=>h ws l g tk e (e'▸p1) p2
end
def str_ext{a b:Str}(h:a.cps.toList=b.cps.toList):a=b:=by
 cases a;cases b
 exact congrArg _ (Xv.mp h)
def str_ne{a b:Str}(h:¬a=b):¬a.cps.toList=b.cps.toList:=λq=>h (str_ext q)
def pairO(O P:KeyOrd):KeyOrd where
 α:=O.α×P.α
 blt a b:=O.blt a.1 b.1||(!O.blt b.1 a.1&&P.blt a.2 b.2)
 irrefl a:=by rw[O.irrefl,P.irrefl];rfl
 trans a b c h1 h2:=by
  simp only[Jl,Jd,Wm]at *
  rcases h1 with h1 | ⟨n1,h1⟩
  ·rcases h2 with h2 | ⟨n2,h2⟩
   ·exact .inl (O.trans _ _ _ h1 h2)
   ·exact .inl (Kw h1 n2)
  ·rcases h2 with h2 | ⟨n2,h2⟩
   ·exact .inl (Kx n1 h2)
   ·exact .inr ⟨Yl n1 n2,P.trans _ _ _ h1 h2⟩
 negTrans a b c h:=by
  simp only[Jl,Jd,Wm]at *
  rcases h with h | ⟨n,h⟩
  ·rcases O.negTrans _ b.1 _ h with q | q
   ·exact .inl (.inl q)
   ·exact .inr (.inl q)
  ·cases e1:O.blt a.1 b.1 with
   |true=>exact .inl (.inl rfl)
   | false =>
    cases e2:O.blt b.1 c.1 with
    |true=>exact .inr (.inl rfl)
    |false =>
     have n1:O.blt b.1 a.1=false:=Yl (O:=O) (a:=a.1) (b:=c.1) (c:=b.1) n e2
     have n2:O.blt c.1 b.1=false:=Yl (O:=O) (a:=b.1) (b:=a.1) (c:=c.1) e1 n
     rcases P.negTrans _ b.2 _ h with q | q
     ·exact .inl (.inr ⟨n1,q⟩)
     ·exact .inr (.inr ⟨n2,q⟩)
 total a b h1 h2:=by
  simp only[Bool.or_eq_false_iff,Bool.and_eq_false_iff,Kf]at *
  have e1:=O.total _ _ h1.1 h2.1
  obtain⟨a1,a2⟩:=a
  obtain⟨b1,b2⟩:=b
  simp only at e1 h1 h2
  subst e1
  have i:=O.irrefl a1
  rw[i]at h1 h2
  have p1:P.blt a2 b2=false:=h1.2.elim (λz=>by cases z) id
  have p2:P.blt b2 a2=false:=h2.2.elim (λz=>by cases z) id
  rw[P.total _ _ p1 p2]
def zg7(h:Nn):Value→List Value
 | .ref a=>match h.get? a with
  |some o=>match o.data with
   |.seq xs _=>xs.toList
   |_=>[]
  |none=>[]
 |_=>[]
def zg6(e:h.get? a=some o)(d:o.data=.seq xs n):zg7 h (.ref a)=xs.toList:=by
 unfold zg7
 dsimp only
 rw[e]
 dsimp only
 rw[d]
def kvP(h:Nn)(v:Value):List Nat×List Nat:=(kvS ((zg7 h v).getD 0 .none),kvS ((zg7 h v).getD 1 .none))
def zeh(h:Nn)(v:Value)(x:Str)(q:Value):Prop:=∃a o t n,v=.ref a∧h.get? a=some o∧o.cls=.type "tuple" ∧ o.data=.seq #[.str x t,q] n
def zeh.key(p:zeh h v x q):kvP h v=(x.cps.toList,kvS q):=by
 obtain⟨a,o,t,n,rfl,e,c,d⟩:=p
 unfold kvP
 rw[zg6 e d]
 rfl
theorem katTups(k:∀b o,h.get? b=some o→s.get? b=some o):∀(vs:Nh),(∀v∈vs,∃x q,zeh h v x q)→∃fs,KatTups s vs fs∧fs.length=vs.length∧∀f∈fs,∃x t,f=.str x t
 |[],_=>⟨[],.nil,rfl,λf hf=>by cases hf⟩
 |v::vs,hv=>by
  obtain⟨fs,h1,h2,h3⟩:=katTups k vs λu hu=>hv u (Qg _ hu)
  obtain⟨x,q,a,o,t,n,rfl,e,c,d⟩:=hv v Qd
  refine⟨.str x t::fs,.cons (k _ _ e) c d rfl h1,by rw[Zb,Zb,h2],λf hf=>?_⟩
  rcases Qh.mp hf with z | z
  ·exact⟨x,t,z⟩
  ·exact h3 f z
section
variable{prog:Nj}{w:Nl}{A:Nm}{E:Na}{s:Ng}{vs:Nh}{h:Nn}
def kind_tups(k:∀b o,h.get? b=some o→s.heap.get? b=some o)(hv:∀v∈vs,∃x q,zeh h v x q)(h2:2≤vs.length)(q:Q (tuples' true) s):wpAny (model prog w) A (keyKind' vs.toArray) Q E s:=by
 obtain⟨fs,h1,h3,h4⟩:=katTups k vs hv
 refine kat_kind (T:=.type "str") h1 (by omega) (λf hf=>?_) (by decide) q
 obtain⟨x,t,rfl⟩:=h4 f hf
 exact Looks.of_pure rfl
def blt_p:(pairO strO strO).blt (x,y) (x',y')=if x=x' then decide (y<y') else decide (x<x'):=by
 show(decide (x<x')||(!decide (x'<x)&&decide (y<y')))=_
 split
 ·rename_i e
  subst e
  rw[decide_eq_false (Wn x)];rfl
 ·rename_i ne
  by_cases h1:x<x'
  ·rw[decide_eq_true h1];rfl
  ·rw[decide_eq_false h1,decide_eq_true (Xh λh2=>ne (strO.total _ _ (decide_eq_false h1) (decide_eq_false h2)))];rfl
def zh7(k:∀ b o,h.get? b=some o→s.heap.get? b=some o)(hv:∀ v∈vs,∃ x q,zeh h v x q)(hd:∀ v∈vs,∀ u∈vs,∀ x p q,zeh h v x p→zeh h u x q→v=u∨∃ y t y' t',p=.str y t∧q=.str y' t'):zbv prog w A E s (fun ws=>vs.length < 64→ws.Pairwise fun x y=>(pairO strO strO).kle (kvP h x) (kvP h y)) vs:=by
 refine .ord λh2=>⟨tuples' true,λQ q=>kind_tups k hv h2 q,λv v' hx hy Q E' q=>?_⟩
 have same:=hd v hx v' hy
 obtain⟨x,z,p⟩:=hv v hx
 obtain⟨x',z',p'⟩:=hv v' hy
 have P:=p
 have P':=p'
 rw[P.key,P'.key,blt_p]at q
 obtain⟨a,o,t,n,rfl,e,c,d⟩:=p
 obtain⟨a',o',t',n',rfl,e',c',d'⟩:=p'
 refine kat_lt (k _ _ e) d (k _ _ e') d' ?_
 show KatLex _ _ _ _ _ _ [(Value.str x t,Value.str x' t'),(z,z')] 0 s
 refine kat_cons (wpAny_eqBool_str ?_)
 by_cases ex:x=x'
 ·subst ex
  rw[if_pos rfl]at q
  rw[decide_eq_true rfl]
  refine kat_yes (kat_cons ?_)
  rcases same x z z' P P' with e2 | ⟨y,u,y',u',rfl,rfl⟩
  ·cases e2
   rw[e]at e'
   cases e'
   rw[d]at d'
   have d2:(#[Value.str x t,z]:Array Value)=#[Value.str x t',z']:=by injection d'
   have d3:z=z':=by
    have:=congrArg (λa:Array Value=>a[1]?) d2
    simpa using this
   subst d3
   rw[decide_eq_false (Wn _)]at q
   exact SeqAt.EqAt.same z _ _ _ _ (kat_yes (kat_nil q))
  ·refine wpAny_eqBool_str ?_
   by_cases ey:y=y'
   ·subst ey
    rw[show kvS (Value.str y u')=kvS (Value.str y u) from rfl,decide_eq_false (Wn _)]at q
    rw[decide_eq_true rfl]
    exact kat_yes (kat_nil q)
   ·rw [decide_eq_false ey]
    exact kat_no (kat_one _ _ (lt_str q))
 ·rw [decide_eq_false ex]
  rw[if_neg (str_ne ex)]at q
  exact kat_no (oneLt_str q)
end
section
variable{prog:Nj}{w:Nl}{A:Nm}{E:Na}{s:Ng}
end
end Tm
end
section
namespace L2
open PySem PySem.Spec PyProof.Rows
def zez{K:Nb}{a:Nc}{zs:Ni}{g:TG}{tb:TS}{D:Ends}{σ:St}{H:Hp}(Pv:Nat→St→Hp→Prop)(h0:Pv 0 σ H)(hl:∀i σ H,i≤(zs.map V.str).length→Pv i σ H→SqL K H a (zs.map V.str))(hs:∀i (hi:i<zs.length) σ H,Pv i σ H→g (.str zs[i]) σ H λ σ2 H2=>tb {D with nx:=Pv (i+1),ct:=Pv (i+1),bk:=D.nx} σ2 H2)(hd:∀σ H,Pv (zs.map V.str).length σ H→D.nx σ H) :
  ∃W:Nat→Nat→St→Hp→Prop,(∃m,W 0 m σ H)∧∀i m σ H,W i m σ H →
   ((Itl K a).stop i H∧D.nx σ H)∨((Itl K a).go i H∧∃N:St→Hp→Prop,(∀σ' H',N σ' H'→∃m',m'<m∧W (i+1) m' σ' H')∧∀x H',(Itl K a).yld i H x H'→g x σ H' λ σ2 H2=>tb {D with nx:=N,ct:=N,bk:=D.nx} σ2 H2) :=
 zbq Pv h0 hl (λi x σ H e p=>by
  have hi:i<zs.length:=by
   have:=(Zg.mp e).1
   rwa[Qa]at this
  rw[Qu,Qc hi]at e
  cases e
  exact hs i hi σ H p) hd
section
variable{X:Cx}
inductive RrIndex(x:V)(vs:List V)(H:Hp)(Q:VK):Prop
 |mk (l:Nc) (xs:List V) (y:V) (j:Nat) (h0:x=.ref l) (h1:vs=[y]) (h2:H l=some (.lst xs)) (h3:zdp y=true) (h4:xs.all zdp=true) (h5:(∃z,xs[j]?=some z∧eqV z y=true)) (h6:(∀m z,m<j→xs[m]?=some z→eqV z y=false)) (h7:Q (.int j) H):RrIndex x vs H Q
def rIndex:V→List V→Hp→VK→Prop:=λx vs H Q=>RrIndex x vs H Q
def zeq:MtM X "list.index" rIndex:=by
 intro a6 s σ H x vs v us Q I rx rv h
 obtain⟨l,xs,y,j,rfl,rfl,hH,fy,fs,⟨z,hz,ez⟩,cG,q⟩:=h
 cases rx
 obtain⟨u,rfl,ru⟩:=rv.one
 obtain⟨zz,a8,n,r,hl,e⟩:=I.lstM hH
 have hn:=zet
 obtain⟨wv,hw,db⟩:=r.get hz
 have hj:j<a8.length:=(Zg.mp hw).1
 have fl:∀{i:Nat} {a:V},xs[i]?=some a→zdp a=true:=λ{i a} q=>Jv.mp fs a (Yq q)
 refine call_meets F.slot_list_index ⟨_,e,rfl⟩ F.entry_list_index (F.args_list_index_2 _ _)
  (SeqAt.list_indexAt l a8.toArray n none #[] u (eqU y) j (by simpa using hj) (by lia) ?_ ?_) ⟨e,λa ha=>zd0 ru fy r fs a (by simpa using ha),?_⟩
 ·have e1:a8[j]=wv:=by
   have:=Qc hj
   rw[this]at hw;exact Qt hw
  show eqU y (a8.toArray[j])=true
  rw[Kv,e1,eqU_of db (fl hz)]
  exact ez
 ·intro m hm ad
  have gU:m<a8.length:=by simpa using hm
  have bg:m<xs.length:=by exact zar6 ‹_› ‹_›
  have gx:xs[m]?=some xs[m]:=Qc bg
  obtain⟨wm,hwm,rm⟩:=r.get gx
  have e1:a8[m]=wm:=by
   have:=Qc gU
   rw[this]at hwm;exact Qt hwm
  show eqU y (a8.toArray[m])=false
  rw[Kv,e1,eqU_of rm (fl gx)]
  exact cG m _ ad gx
 ·exact⟨.int j,H,I.tok _,⟨_,rfl⟩,q⟩
inductive RrInsert(x:V)(vs:List V)(H:Hp)(Q:VK):Prop
 |mk (l:Nc) (xs:List V) (y:V) (k:Nat) (h0:x=.ref l) (h1:vs=[.int k,y]) (h2:H l=some (.lst xs)) (h3:xs.length<sizeLine) (h4:k≤xs.length) (h5:Q .non (upd H l (.lst (xs.take k++y::xs.drop k)))):RrInsert x vs H Q
def rInsert:V→List V→Hp→VK→Prop:=λx vs H Q=>RrInsert x vs H Q
def zgy:MtM X "list.insert" rInsert:=by
 intro a6 s σ H x vs v us Q I rx rv h
 obtain⟨l,xs,y,k,rfl,rfl,hH,hz,hk,q⟩:=h
 cases rx
 obtain⟨u1,u,rfl,⟨t,rfl⟩,ru⟩:=rv.two
 obtain⟨zz,a8,n,r,hl,e⟩:=I.lstM hH
 have hn:=zet
 obtain⟨i,hi⟩:∃i:Int,i=(k:Int):=⟨_,rfl⟩
 have qY:¬(!Builtin.List.listFitsIndex i)=true:=by
  rw[fitsIndex_both (by lia) (by lia)]
  exact Zh
 have hsz:a8.toArray.size≤sizeLine:=by rw[Qq];exact zd1 ‹_› ‹_›
 have M:=AutoSeq1.list_insert_list_int_val_1 l a8.toArray n i t u qY hsz
 rw[←hi]
 refine call_meets F.slot_list_insert ⟨_,e,rfl⟩ F.entry_list_insert (F.args_list_insert_3 _ _ _) M ⟨e,?_⟩
 refine⟨.non,_,I.lset (its':=a8.take k++u::a8.drop k) hH e ?_ ((r.take k).append (.cons ru (r.drop k))) ?_,rfl,q⟩
 ·have e1:¬ (i < 0):=by lia
  have e2:min i.toNat a8.toArray.size=k:=by rw[Qq];lia
  show(a8.toArray.extract 0 (if i<0 then(i+((a8.toArray.size:Nat):Int)).toNat else min i.toNat a8.toArray.size)).push u++a8.toArray.extract (if i<0 then(i+((a8.toArray.size:Nat):Int)).toNat else min i.toNat a8.toArray.size)=_
  rw[if_neg e1,e2]
  apply Xv.mp
  simp
  rw[Qv (by rw[Yz];exact Qf _)]
 ·simp;lia
theorem zej:∀{zs:Ni} {a8:Nh},Vals (zs.map V.str) a8→∃l:List (Str×Tok),a8=PySem.strValues l∧l.map (·.1)=zs
 |[],_,.nil=>⟨[],rfl,rfl⟩
 |z::zs,_,.cons r t=>by
  obtain⟨tk,rfl⟩:=r
  obtain⟨l,rfl,e⟩:=zej t
  exact⟨(z,tk)::l,rfl,by rw[Qj,e]⟩
def call_isi_str:zce X (.builtin "isinstance") (λxs H Q=>Ex1 λz=>Aj2 (xs=[.str z,.ty "str"]) (Q (.bl true) H)):=by
 intro a6 s σ H xs us Q I r h
 obtain⟨z,rfl,q⟩:=h
 obtain⟨u,w',rfl,⟨t,rfl⟩,e⟩:=vals2 r
 have e':w'=Value.type "str" := e
 subst e'
 exact IsiPair.str_str ⟨.bl true,H,I,rfl,q⟩
def zfz{a6:Nd}{s:Ng}{σ:St}{H:Hp}{p:Nc}{ys:List V}(hc:X.calm=true)(I:Inv X a6 σ H s)(hq:SqL X.K H p ys){Q:Na}(h:∀ (a8:Nh) (It:Nc) (h1:Nn),Vals ys a8→Walks X.prog X.w X.A.in1 It [It,p] [It] a8.toArray.size (fun i v=>a8.toArray[i]?=some v) (fun i h=>h.IsListIter It p i∧h.IsList p a8.toArray)→(h1.IsListIter It p 0∧h1.IsList p a8.toArray)→(∀ b∈[It,p],b < h1.objs.size) →
   (∀(h':Nn) (tk:Nat),(∀b o,b∉[It]→h1.get? b=some o→h'.get? b=some o)→Inv X a6 σ H {s with heap:=h',toks:=tk})→Q (.ref It) {s with heap:=h1}) :
  wpAny (model X.prog X.w) X.A.in1 (pyIter (.ref p)) Q X.xe s:=by
 obtain⟨a8,rv,pl,hz⟩:=I.list hq
 refine wpAny_pyIter_list pl.isList ?_
 have lt:p<s.heap.objs.size:=by obtain⟨o,n,e,_⟩:=pl;exact Qz e
 refine h a8 s.heap.objs.size _ rv (Walks.list (show X.A.in1.handled=none from I.ok.hd hc) _ _ (Zr lt) _) ⟨⟨_,Zd _ rfl,rfl,rfl⟩,?_⟩ (λb hb=>?_) λh' tk k=>I.kept (t':=tk) λb o e=>?_
 ·obtain ⟨o,e,r⟩:=pl.isList
  exact⟨o,Qi _ e,r⟩
 ·rcases Qh.mp hb with e | e
  ·rw[e];simp[Heap.push]
  ·rw[Qb.mp e];simp[Heap.push];exact Kk lt
 ·exact k b o (λz=>absurd (Qz e) (by rw[Qb.mp z];exact Wh _)) (Qi _ e)
theorem zec(ns:List Int):∀k,k≤ns.length→preSum (λi=>ns.getD i 0) k=(ns.take k).sum
 |0,_=>rfl
 |k+1,h=>by
  show preSum (λi=>ns.getD i 0) k+ns.getD k 0=_
  have hk:k<ns.length:=h
  rw[zec ns k (by exact Zt ‹_›),Qo hk,List.sum_append,List.sum_singleton]
  congr 1
  simp[List.getD,hk]
theorem zhk:∀{ns:List Int} {a8:Nh},Vals (ns.map V.int) a8→∀(i:Nat) (v:Value),a8[i]?=some v→∃t,v=Value.int (ns.getD i 0) t
 |[],_,.nil,i,v,e=>by simp at e
 |n::ns,_,.cons r t,0,v,e=>by
  obtain⟨tk,rfl⟩:=r
  simp at e;subst e
  exact⟨tk,rfl⟩
 |n::ns,_,.cons r t,i+1,v,e=>by
  obtain⟨tk,h⟩:=zhk t i v (by simpa using e)
  exact⟨tk,by rw[h];simp⟩
def sum_small{ns:List Int}(hb:∀n∈ns,0≤n∧n≤1000000):0≤ns.sum∧ns.sum≤1000000*(ns.length:Int):=by
 induction ns with
 |nil=>simp
 |cons a r ih =>
  have h1:=hb a Qd
  have h2:=ih λn hn=>hb n (Qg _ hn)
  rw[Yv,Zb]
  lia
def call_sum(hc:X.calm=true):zce X (.builtin "sum") (λxs H Q=>Ex2 λ(p:Nc) (ns:List Int)=>Aj5 (xs=[.ref p]) (SqL X.K H p (ns.map V.int)) (ns.length≤1000000) (∀n∈ns,0≤n∧n≤1000000) (Q (.int ns.sum) H)):=by
 intro a6 s σ H xs us Q I r h
 obtain⟨p,ns,rfl,hq,hl,hb,q⟩:=h
 obtain⟨u,rfl,rx⟩:=vals1 r
 cases rx
 refine call_sum_walk (zfz hc I hq λa8 It h1 rv W st lt keep=>⟨It,_,_,_,_,_,λi=>ns.getD i 0,rfl,W,st,lt,λi v e=>zhk rv i v (by simpa using e),λj hj=>?_,λh' tk t' k=>⟨.int ns.sum,H,keep h' tk k,⟨t',?_⟩,q⟩⟩)
 ·have ak:=rv.length
  rw[Qa]at ak
  have jl:j<ns.length:=by rw[ak];simpa using hj
  have s1:=sum_small (ns:=ns.take (j+1)) λn hn=>hb n (Wd hn)
  rw[Zf]at s1
  have g:ns.getD j 0=ns[j]:=by simp[List.getD,jl]
  have g2:=hb _ (Qn jl)
  refine⟨?_,?_⟩
  ·show InLong (ns.getD j 0)
   rw[g];unfold InLong;lia
  ·rw [zec ns (j+1) jl]
   unfold InLong;lia
 ·have ak:=rv.length
  rw[Qa]at ak
  rw[Qq,zec ns _ (by lia),←ak,Qv (Qf _)]
theorem zfa:∀{bs:List Bool} {a8:Nh},Vals (bs.map V.bl) a8→∀(i:Nat) (v:Value),a8[i]?=some v→v=Value.bool (bs.getD i true)
 |[],_,.nil,i,v,e=>by simp at e
 |n::ns,_,.cons r t,0,v,e=>by
  cases r
  simp at e;subst e
  rfl
 |n::ns,_,.cons r t,i+1,v,e=>by
  have h:=zfa t i v (by simpa using e)
  rw[h];simp
def all_range(bs:List Bool):(List.range bs.length).all (λi=>bs.getD i true)=bs.all id:=by
 rw[Yr,Jv,Jv]
 constructor
 ·intro h x hx
  obtain⟨i,hi,e⟩:=Qx hx
  have:=h i (Yp.mpr hi)
  simp[List.getD,hi]at this
  rw[←e];exact this
 ·intro h i hi
  have cI:=Yp.mp hi
  simp[List.getD,cI]
  exact h _ (Qn cI)
def zi4(hc:X.calm=true):zce X (.builtin "all") (λxs H Q=>Ex2 λ(p:Nc) (bs:List Bool)=>Aj3 (xs=[.ref p]) (SqL X.K H p (bs.map V.bl)) (Q (.bl (bs.all id)) H)):=by
 intro a6 s σ H xs us Q I r h
 obtain⟨p,bs,rfl,hq,q⟩:=h
 obtain⟨u,rfl,rx⟩:=vals1 r
 cases rx
 refine call_all_walk (zfz hc I hq λa8 It h1 rv W st lt keep=>⟨It,_,_,_,_,_,λi=>bs.getD i true,rfl,W,st,λi v s' Q' E' e q'=>?_,λh' tk k=>⟨.bl (bs.all id),H,keep h' tk k,?_,q⟩⟩)
 ·have e':=zfa rv i v (by simpa using e)
  subst e'
  exact wpAny_truthy_bool q'
 ·have ak:=rv.length
  rw[Qa]at ak
  show Value.bool _=Value.bool _
  rw[Qq,←ak,all_range]
end
end L2
end
section
namespace L2
open PySem PySem.Spec PyProof.Rows Tm
def Vals.perm{ws us:Nh}(p:ws.Perm us):∀{ys:List V},Vals ys us→∃zs,zs.Perm ys∧Vals zs ws:=by
 induction p with
 |nil=>intro ys r;cases r;exact⟨[],.nil,.nil⟩
 | cons x q ih =>
  intro ys r
  cases r with
  |cons r1 r2 =>
   obtain⟨zs,h1,h2⟩:=ih r2
   exact⟨_::zs,h1.cons _,.cons r1 h2⟩
 | swap x y l =>
  intro ys r
  cases r with
  |cons r1 r2 =>
   cases r2 with
   |cons r3 r4=>exact⟨_,List.Perm.swap ..,.cons r3 (.cons r1 r4)⟩
 |trans _ _ ih1 ih2 =>
  intro ys r
  obtain⟨zs,h1,h2⟩:=ih2 r
  obtain⟨cA,h3,h4⟩:=ih1 h2
  exact⟨cA,h3.trans h1,h4⟩
theorem Vals.pairwise{α:Type}{R:α→α→Prop}{kv:Value→α}{kV:V→α}:∀{zs:List V} {ws:Nh},Vals zs ws→(∀v∈zs,∀u,RelV v u→kv u=kV v)→ws.Pairwise (λa b=>R (kv a) (kv b))→zs.Pairwise λa b=>R (kV a) (kV b)
 |_,_,.nil,_,_=>.nil
 |v::zs,u::ws,.cons r t,hk,h=>by
  rw[Uc]at h ⊢
  refine⟨λb hb=>?_,Vals.pairwise t (λv hv=>hk v (Qg _ hv)) h.2⟩
  obtain⟨i,hi,e⟩:=Qx hb
  obtain⟨x,hx,rx⟩:=Vals.get t (i:=i) (x:=b) (by rw[Qc hi,e])
  have:=h.1 x (Yq hx)
  rw[hk v Qd u r,hk b (Qg _ hb) x rx]at this
  exact this
section
variable{X:Cx}
def zd9{a6:Nd}{s:Ng}{σ:St}{H:Hp}{p:Nc}{ys:List V}{R:List Value→List Value→Prop}{Q:VK}(I:Inv X a6 σ H s)(hq:SqL X.K H p ys)(hS:∀a8,Vals ys a8→∀(A':Around) (E':Value→Shared→Prop) (s':Shared),A'.units≤X.A.units+8→(∀b o,s.heap.get? b=some o→s'.heap.get? b=some o)→zbv X.prog X.w A' E' s' (R a8) a8)(h:∀(l:Nc) (ws:List V) (a8 us:Nh),H l=none→ws.Perm ys→Vals ys a8→Vals ws us→R a8 us→Q (.ref l) (upd H l (.lst ws))) :
  wpAny (model X.prog X.w) X.A (call (.builtin "sorted") [.ref p]) (EP X a6 σ Q) X.xe s:=by
 obtain⟨a8,r,pl,hz⟩:=I.list hq
 refine sorted_any pl.isList (by rw[←r.length];exact hz) (hS a8 r) λws l g tk e p1 p2 le k he=>?_
 obtain⟨zs,q1,q2⟩:=Vals.perm p1 r
 exact⟨.ref l,_,I.laid (t':=tk) k le (show zbt X.prog X.w _ g _ (.lst zs) from⟨by rw[q1.length_eq];exact hz,ws,e,q2,he⟩),rfl,h l zs a8 ws (I.hok.fresh le) q1 r q2 p2⟩
def leS(x y:Str):Prop:=¬y.cps.toList<x.cps.toList
def txV:V→List Nat
 |.str x=>x.cps.toList
 |_=>[]
def strs_perm{ws:List V}{zs:Ni}(pm:ws.Perm (zs.map V.str)):∃ts:List Str,ws=ts.map V.str∧ts.Perm zs:=by
 have a1:∀v∈ws,∃x,v=V.str x:=λv hv=>by
  obtain⟨x,_,e⟩:=Qk.mp (pm.mem_iff.mp hv)
  exact⟨x,e.symm⟩
 have a2:∃ts:List Str,ws=ts.map V.str:=by
  clear pm
  induction ws with
  |nil=>exact⟨[],rfl⟩
  |cons v r ih =>
   obtain⟨ts,e⟩:=ih λv hv=>a1 v (Qg _ hv)
   obtain⟨x,e2⟩:=a1 v Qd
   exact⟨x::ts,by rw[e,e2];rfl⟩
 obtain⟨ts,rfl⟩:=a2
 refine⟨ts,rfl,?_⟩
 have:=pm.map (λv=>match v with | .str x=>x | _=>Str.empty)
 rw[Zk,Zk]at this
 simpa[Function.comp_def] using this
def zfq{zs:Ni}{a8:Nh}(r:Vals (zs.map V.str) a8):∀v∈a8,∃x t,v=.str x t:=λv hv=>by
 obtain⟨l,rfl,e⟩:=zej r
 obtain⟨pr,_,e2⟩:=Qk.mp hv
 exact⟨_,_,e2.symm⟩
def txV_str{zs:Ni}:∀v∈zs.map V.str,∀u,RelV v u→kvS u=txV v:=λv hv u ru=>by
 obtain⟨x,_,rfl⟩:=Qk.mp hv
 obtain⟨t,rfl⟩:=ru
 rfl
def strs_out{zs ts:Ni}{a8 us:Nh}(r:Vals (zs.map V.str) a8)(r2:Vals (ts.map V.str) us)(p:a8.length<64→us.Pairwise λx y=>strO.kle (kvS x) (kvS y))(h:zs.length<64):ts.Pairwise leS:=by
 have p2:=Vals.pairwise (R:=λa b=>strO.kle a b) (kV:=txV) r2 txV_str (p (by rw[←r.length,Qa];exact h))
 rw[Ws]at p2
 exact p2.imp of_decide_eq_false
def zdm:zce X (.builtin "sorted") (λxs H Q=>Ex2 λ(p:Nc) (zs:Ni)=>Aj3 (xs=[.ref p]) (SqL X.K H p (zs.map V.str)) (∀(l:Nc) (ws:Ni),H l=none→ws.Perm zs→(zs.length<64→ws.Pairwise leS)→Q (.ref l) (upd H l (.lst (ws.map V.str))))):=by
 intro a6 s σ H xs us Q I r h
 obtain⟨p,zs,rfl,hq,q⟩:=h
 obtain⟨u,rfl,rx⟩:=vals1 r
 cases rx
 refine zd9 I hq (λa8 r A' E' s' _ _=>zek (zfq r)) λl ws a8 us hl p1 r1 r2 p2=>?_
 obtain⟨ts,rfl,p3⟩:=strs_perm p1
 exact q l ts hl p3 (strs_out r1 r2 p2)
def zf0(I:Inv X a6 σ H s)(e:H a=some (.tup [.str x,z])):∃q,RelV z q∧zeh s.heap (.ref a) x q:=by
 obtain⟨_,a8,r,o,e1,c,n,d⟩:=I.hok a _ e
 obtain⟨u,w',rfl,⟨t,rfl⟩,rz⟩:=vals2 r
 exact⟨w',rz,a,o,t,n,rfl,e1,c,d⟩
def zgb(r:Vals ys a8):∀v∈a8,∃b∈ys,RelV b v:=λv hv=>by
 obtain⟨i,hi,e⟩:=Qx hv
 have hl:=r.length
 have aE:i<ys.length:=by exact zar6 ‹_› ‹_›
 obtain⟨u,hu,ru⟩:=r.get (i:=i) (Qc aE)
 rw[Qc hi,e]at hu
 cases hu
 exact⟨_,Qn aE,ru⟩
def zf1(a:zeh h v x p)(b:zeh h v y q):x=y∧p=q:=by
 obtain⟨a,o,t,n,rfl,e,c,d⟩:=a
 obtain⟨a',o',t',n',e0,e',c',d'⟩:=b
 cases e0
 rw[e]at e'
 cases e'
 rw[d]at d'
 have d2:(#[Value.str x t,p]:Array Value)=#[Value.str y t',q]:=by injection d'
 have d3:=congrArg (λa:Array Value=>a[0]?) d2
 have d4:=congrArg (λa:Array Value=>a[1]?) d2
 simp at d3 d4
 exact⟨d3.1,d4⟩
def rowV(H:Hp):V→List Nat
 |.ref a=>match H a with
  |some (.tup [x,_])=>txV x
  |_=>[]
 |_=>[]
def zep(e:H a=some (.tup [x,y])):rowV H (.ref a)=txV x:=by
 unfold rowV;dsimp only;rw[e]
def zfy:zce X (.builtin "sorted") (λxs H Q=>Ex2 λ(p:Nc) (ys:List V)=>Aj5 (xs=[.ref p]) (SqL X.K H p ys) (∀v∈ys,∃a x z,v=.ref a∧H a=some (.tup [.str x,z])) (∀v∈ys,∀u∈ys,rowV H v=rowV H u→v=u) (∀(l:Nc) (ws:List V),H l=none→ws.Perm ys→(ys.length<64→ws.Pairwise λa b=>strO.kle (rowV H a) (rowV H b))→Q (.ref l) (upd H l (.lst ws)))):=by
 intro a6 s σ H xs us Q I r h
 obtain⟨p,ys,rfl,hq,hy,hd,q⟩:=h
 obtain⟨u,rfl,rx⟩:=vals1 r
 cases rx
 have back:∀a8,Vals ys a8→∀v∈a8,∃b∈ys,RelV b v∧∃a x z q,b=.ref a∧v=.ref a∧H a=some (.tup [.str x,z])∧zeh s.heap v x q:=λa8 r v hv=>by
  obtain⟨b,hb,rb⟩:=zgb r v hv
  obtain⟨a,x,z,rfl,e2⟩:=hy b hb
  have rb':=rb
  cases rb
  obtain⟨q',_,T⟩:=zf0 I e2
  exact⟨_,hb,rb',a,x,z,q',rfl,rfl,e2,T⟩
 refine zd9 I hq (λa8 r A' E' s' _ k=>zh7 k (λv hv=>?_) λv hv u hu x p q T T'=>?_) λl ws a8 us hl p1 r1 r2 p2=>q l ws hl p1 λom=>?_
 ·obtain ⟨b,hb,rb,a,x,z,q,_,_,_,T⟩:=back a8 r v hv
  exact⟨x,q,T⟩
 ·obtain ⟨b,hb,rb,a,x1,z,q1,rfl,rfl,e1,T1⟩:=back a8 r v hv
  obtain⟨c,hc,rc,a',x2,z',q2,rfl,rfl,e2,T2⟩:=back a8 r u hu
  have h1:=(zf1 T T1).1
  have h2:=(zf1 T' T2).1
  subst h1
  subst h2
  have:=hd _ hb _ hc (by rw[zep e1,zep e2])
  cases this
  exact .inl rfl
 ·refine Vals.pairwise (R:=fun a b=>strO.kle a b) (kv:=fun u=>(kvP s.heap u).1) r2 (fun v hv u ru=>?_) ((p2 (by rw [← r1.length];exact om)).imp fun h=>(Bool.or_eq_false_iff.mp h).1)
  obtain⟨a,x,z,rfl,e2⟩:=hy v (p1.mem_iff.mp hv)
  cases ru
  obtain⟨q',_,T⟩:=zf0 I e2
  rw[T.key,zep e2]
  rfl
def dk_at{a6:Nd}{s:Ng}{σ:St}{H:Hp}{d:Nc}{kvs:List (Key×V)}(I:Inv X a6 σ H s)(rd:Rd H d (.dK kvs)) :
  kvs.length≤sizeLine∧(d==sysModules)=false∧∃vs ep,KV kvs vs∧s.heap.DictAt (zar X.prog X.w) d vs ep∧vs.length=kvs.length:=by
 obtain⟨z,y,vs,r,hd⟩:=rd.ok I.hok
 obtain⟨ep,ha⟩:=hd.dictAt
 exact⟨z,y,vs,ep,r,ha,(Zx r).symm⟩
def KV.get{kvs:List (Key×V)}{vs:List (Key×Value)}(r:KV kvs vs){i:Nat}(e:vs[i]?=some (k,x)):∃v,kvs[i]?=some (k,v)∧RelV v x:=by
 induction r generalizing i with
 |nil=>simp at e
 | cons h t ih =>
  cases i with
  |zero =>
   simp at e
   subst e
   exact⟨_,by simp;exact Ks h.1 rfl,h.2⟩
  |succ j =>
   obtain⟨v,h1,h2⟩:=ih (i:=j) (by simpa using e)
   exact⟨v,by simpa using h1,h2⟩
def key_rel(h:(zar P w).is k v=true):RelV (kV k) v:=by
 rcases zbd h with⟨i,t,rfl,rfl⟩ | ⟨x,t,rfl,rfl⟩
 ·exact⟨t,rfl⟩
 ·exact⟨t,rfl⟩
def keys_vals{P:Nj}{w:Nl}{kvs:List (Key×V)}{vs:List (Key×Value)}{am:Array Value}(r:KV kvs vs)(hl:vs.length=kvs.length)(h:ItemsOf (λi v=>∃k x,vs[i]?=some (k,x)∧(zar P w).is k v=true) am vs.length):Vals (kvs.map λp=>kV p.1) am.toList:=by
 have g:∀(i:Nat),i<kvs.length→∃v,am.toList[i]?=some v∧RelV (kV ((kvs.map Prod.fst).getD i (.inl 0))) v:=λi hi=>by
  have aE:i<am.size:=by rw[h.1];exact zar6 ‹_› ‹_›
  have e:am[i]?=some am[i]:=by simp[aE]
  obtain⟨k,x,e1,e2⟩:=h.2 i _ e
  obtain⟨v',e3,_⟩:=KV.get r e1
  refine⟨am[i],by rw[Us];exact e,?_⟩
  have e4:(kvs.map Prod.fst).getD i (.inl 0)=k:=by
   rw[Qw,Qu,e3];rfl
  rw[e4]
  exact key_rel e2
 have hsz:am.toList.length=kvs.length:=by rw[Ym,h.1];exact hl
 clear h r hl
 generalize am.toList=l at g hsz
 induction kvs generalizing l with
 |nil =>
  have:l=[]:=Jb.mp hsz
  subst this
  exact .nil
 | cons p t ih =>
  cases l with
  |nil=>cases hsz
  | cons u us =>
   refine .cons ?_ (ih us (λi hi=>?_) (by simpa using hsz))
   ·obtain ⟨v,e1,e2⟩:=g 0 (by simp)
    simp at e1
    subst e1
    exact e2
   ·obtain ⟨v,e1,e2⟩:=g (i+1) (by simpa using hi)
    exact⟨v,by simpa using e1,by simpa using e2⟩
def zbu(hc:X.calm=true):zce X (.builtin "sorted") (λxs H Q=>Ex3 λ(d:Nc) (kvs:List (Key×V)) (zs:Ni)=>Aj4 (xs=[.ref d]) (Rd H d (.dK kvs)) ((kvs.map λp=>kV p.1)=zs.map V.str) (∀(l:Nc) (ws:Ni),H l=none→ws.Perm zs→(zs.length<64→ws.Pairwise leS)→Q (.ref l) (upd H l (.lst (ws.map V.str))))):=by
 intro a6 s σ H xs us Q I r h
 obtain⟨d,kvs,zs,rfl,hq,ez,q⟩:=h
 obtain⟨u,rfl,rx⟩:=vals1 r
 cases rx
 obtain⟨z,lo,vs,ep,rk,ha,hl⟩:=dk_at I hq
 refine zfc (G:=λa8=>Vals (zs.map V.str) a8) (λE' R hR=>zhc (PySem.W.kdl_dict lo) (show X.A.in1.handled=none from I.ok.hd hc) ha (by rw[hl];exact z) λg tk am k le hi=>hR g tk _ k le (ez▸keys_vals rk hl hi))
  (λa8 r=>by rw[←r.length,←ez,Qa];exact z) (λa8 r A' E' s' _ _=>zek (zfq r)) λa8 ws l g tk e r p1 p2 le k he=>?_
 obtain⟨cA,q1,q2⟩:=Vals.perm p1 r
 obtain⟨ts,rfl,p3⟩:=strs_perm q1
 refine⟨.ref l,_,I.laid (t':=tk) k le (show zbt X.prog X.w _ g _ (.lst _) from⟨?_,ws,e,q2,he⟩),rfl,q l ts (I.hok.fresh le) p3 (strs_out r q2 p2)⟩
 rw[q1.length_eq,←ez,Qa];exact z
end
section
variable{X:Cx}{a6:Nd}{σ:St}{H:Hp}{s:Ng}
def Inv.freeze(I:Inv X a6 σ H s)(hd:H d=some u)(ho:s.heap.get? d=some o)(mu:Mut (some u)):Inv X a6 σ (upd H d (.frz o u)) s:=by
 have ne:∀b,H b=none→b≠d:=λb e z=>by rw[z,hd]at e;cases e
 have nt:∀b xs,H b=some (.tup xs)→b≠d:=λb xs e z=>by rw[z,hd]at e;cases e;exact mu
 have nf:∀b o' u',H b=some (.frz o' u')→b≠d:=λb o' u' e z=>by rw[z,hd]at e;cases e;exact mu
 have nb:∀b ps,H b=some (.tbl ps)→b≠d:=λb ps e z=>by rw[z,hd]at e;cases e;exact mu
 have no:∀b a,H b=some (.own a)→b≠d:=λb a e z=>by rw[z,hd]at e;cases e;exact mu
 refine I.un (h':=s.heap) (t':=s.toks) ⟨λb o e _ _ _=>e,λb o e _ _ _=>⟨o.slots,e⟩,λb o e n _=>by rw[zaf (ne b n)];exact n,λb o e _=>⟨o,e⟩,λb xs e=>by rw[zaf (nt b xs e)];exact e,
  λb o' u' e=>by rw[zaf (nf b o' u' e)];exact e,λb ps e=>⟨#[],by rw[zaf (nb b ps e),e];simp⟩⟩ λb v e=>?_
 by_cases hb:b=d
 ·subst hb
  rw[zac]at e
  cases e
  exact⟨ho,(I.hok b u hd).stay (λc v _ q=>q) (λc q=>by rw[zaf (no c _ q)];exact q) λc xs q=>by rw[zaf (nt c xs q)];exact q⟩
 ·rw [zaf hb] at e
  exact(I.hok b v e).stay (λc v _ q=>q) (λc q=>by rw[zaf (no c _ q)];exact q) λc xs q=>by rw[zaf (nt c xs q)];exact q
def Inv.thaw(I:Inv X a6 σ H s)(hd:H d=some (.frz o u))(hx:∀o' u',X.H₀ d≠some (.frz o' u')):Inv X a6 σ (upd H d u) s:=by
 have ne:∀b,H b=none→b≠d:=λb e z=>by rw[z,hd]at e;cases e
 have nt:∀b xs,H b=some (.tup xs)→b≠d:=λb xs e z=>by rw[z,hd]at e;cases e
 have nb:∀b ps,H b=some (.tbl ps)→b≠d:=λb ps e z=>by rw[z,hd]at e;cases e
 have no:∀b a,H b=some (.own a)→b≠d:=λb a e z=>by rw[z,hd]at e;cases e
 have B:=I.base
 refine⟨I.ok,I.os,I.bare,⟨B.keep,B.slot,λb o e n hx=>?_,B.there,λb xs e=>?_,λb o' u' e=>?_,λb ps e=>?_⟩,I.loc,I.cell,?_,λx c e=>?_,λp hp=>?_,λb v e=>?_,I.len⟩
 ·have:=B.free b o e n hx
  rw[zaf (ne b this)];exact this
 ·have:=B.tups b xs e
  rw[zaf (nt b xs this)];exact this
 ·have:=B.frzs b o' u' e
  have nd:b≠d:=λz=>hx o' u' (z▸e)
  rw[zaf nd];exact this
 ·obtain ⟨m,q⟩:=B.tbls b ps e
  exact⟨m,by rw[zaf (nb b _ q)];exact q⟩
 ·rw[zaf (ne _ I.free)];exact I.free
 ·rw[zaf (ne c (I.freeC x c e))];exact I.freeC x c e
 ·obtain ⟨h1,h2,h3⟩:=I.pin p hp
  exact⟨h1,by rw[zaf (ne _ h2)];exact h2,h3⟩
 ·by_cases hb:b=d
  ·subst hb
   rw[zac]at e
   cases e
   exact(show s.heap.get? b=some o∧zbt X.prog X.w H s.heap b u from I.hok b _ hd).2.stay (λc v _ q=>q) (λc q=>by rw[zaf (no c _ q)];exact q) λc xs q=>by rw[zaf (nt c xs q)];exact q
  ·rw [zaf hb] at e
   exact(I.hok b v e).stay (λc v _ q=>q) (λc q=>by rw[zaf (no c _ q)];exact q) λc xs q=>by rw[zaf (nt c xs q)];exact q
inductive Thaw(X:Cx)(R:Hp→Prop)(H':Hp):Prop
 |mk (d:Nc) (o:Obj) (u:HO) (h:H' d=some (.frz o u)) (n:∀o' u',X.H₀ d≠some (.frz o' u')) (q:R (upd H' d u)):Thaw X R H'
def sThaw(X:Cx)(t:TS):TS:=λD σ H=>t {nx:=λ σ' H'=>Thaw X (D.nx σ') H',rt:=λv H'=>Thaw X (D.rt v) H',bk:=λ σ' H'=>Thaw X (D.bk σ') H',ct:=λ σ' H'=>Thaw X (D.ct σ') H'} σ H
def ps_thaw{st:Stmt}{t:TS}(h:PS X st t):PS X st (sThaw X t):=by
 intro a6 s σ H D I q
 refine thn (h a6 s σ H _ I q) λf s' z=>?_
 cases f with
 |next=>obtain⟨σ',H',I',d,o,w',e1,e2,e3⟩:=z;exact⟨σ',_,I'.thaw e1 e2,e3⟩
 |brk=>obtain⟨σ',H',I',d,o,w',e1,e2,e3⟩:=z;exact⟨σ',_,I'.thaw e1 e2,e3⟩
 |cont=>obtain⟨σ',H',I',d,o,w',e1,e2,e3⟩:=z;exact⟨σ',_,I'.thaw e1 e2,e3⟩
 |ret u=>obtain⟨v,σ',H',I',r,d,o,w',e1,e2,e3⟩:=z;exact⟨v,σ',_,I'.thaw e1 e2,r,e3⟩
def Itd(d:Nc)(o:Obj)(kvs:List (Key×V)):It :=
 ⟨λi H=>H d=some (.frz o (.dK kvs))∧i<kvs.length,λi H x H'=>H'=H∧∃p,kvs[i]?=some p∧x=kV p.1,λi H=>H d=some (.frz o (.dK kvs))∧kvs.length≤i⟩
def frz_at(I:Inv X a6 σ H s)(e:H d=some (.frz o (.dK kvs))):s.heap.get? d=some o∧zbt X.prog X.w H s.heap d (.dK kvs):=I.hok d _ e
def zhv{h:Nn}{kvs:List (Key×V)}{vs vs':List (Key×Value)}{ep ep':Nat}(ho:h.get? d=some o)(a:h.DictAt (zar P w) d vs ep)(o':Obj)(h':Nn)(aU:h'.get? d=some o):h'.DictAt (zar P w) d vs ep:=by
 obtain⟨q,es,e,r⟩:=a
 rw[ho]at e
 cases e
 exact⟨o,es,aU,r⟩
theorem turn_dict{P:Nj}{w:Nl}{K:Nb}{tg:Expr}{o:Obj}{kvs:List (Key×V)}{vs:List (Key×Value)}{ep:Nat}{h0:Nn}(d it:Nc)(rk:KV kvs vs)(hl:vs.length=kvs.length)(h00:h0.get? d=some o)(jI:h0.DictAt (zar P w) d vs ep) :
  Turn P w K tg (Itd d o kvs) [it] it (λi h=>h.IsKeyIter it d i vs.length ep) where
 mem:=by simp
 obj:=λi h st b hb=>by
  have e:b=it:=by simpa using hb
  subst e
  obtain⟨o,e,c,d⟩:=st
  exact⟨o,e,λv z=>by rw[d]at z;cases z⟩
 keep:=λi h h' st k=>st.at λo e=>k it (by simp) o e
 item:=by
  intro X hP hw hK hc i a6 s σ H E I hf st hg
  subst hP hw hK
  obtain⟨fz,hi⟩:=hg
  obtain⟨ho,_⟩:=frz_at I fz
  have DA:s.heap.DictAt (zar X.prog X.w) d vs ep:=zhv (kvs:=kvs) (vs':=vs) (ep':=ep) h00 jI o s.heap ho
  obtain⟨f0,f1,f2,f3,f4,f5⟩:=hf it (by simp)
  have aE:i<vs.length:=by exact zar6 ‹_› ‹_›
  obtain⟨v',e3,_⟩:=KV.get rk (i:=i) (k:=vs[i].1) (x:=vs[i].2) (Qc aE)
  refine wpAny_pyNext_dict_item st DA (k:=vs[i].1) (v:=vs[i].2) (Qc aE) λkey h' hk a7 sb=>?_
  have I1:Inv X a6 σ H {s with heap:=h'}:=I.turned (t':=s.toks) (λb o hb e=>(sb.2 b hb).trans e) f0 f1 f3 f4 f5
  obtain⟨o2,e,c,d2⟩:=id a7
  exact⟨key,rfl,go_of (s:={s with heap:=h'}) e c d2 (by decide) ⟨kV vs[i].1,H,I1,key_rel hk,⟨rfl,_,e3,rfl⟩,a7,λb hb=>(hf b hb).1⟩⟩
 done:=by
  intro X hP hw hK hc i a6 s σ H E I hf st hg
  subst hP hw hK
  obtain⟨fz,hi⟩:=hg
  obtain⟨ho,_⟩:=frz_at I fz
  have DA:s.heap.DictAt (zar X.prog X.w) d vs ep:=zhv (kvs:=kvs) (vs':=vs) (ep':=ep) h00 jI o s.heap ho
  obtain⟨f0,f1,f2,f3,f4,f5⟩:=hf it (by simp)
  exact wpAny_pyNext_dict_end (I.ok.hd hc) st DA (Ua (by omega)) λh' eb=>⟨rfl,I.turned (t':=s.toks) (λb o hb e=>eb b o hb e) f0 f1 f3 f4 f5⟩
 self:=λ_ _ _ _ _ st h=>wpAny_pyIter_keyiter st h
inductive RIDi(x:V)(H:Hp)(R:It→Hp→Prop):Prop
 |mk (d:Nc) (kvs:List (Key×V)) (e:x=.ref d) (h:H d=some (.dK kvs)) (q:∀o,R (Itd d o kvs) (upd H d (.frz o (.dK kvs)))):RIDi x H R
def iDict(td:TE):TI:=λ σ H R=>td σ H λx H1=>RIDi x H1 R
def pi_dict{tg l:Expr}{tl:TE}(hl:PE X l tl):PI X tg l (iDict tl):=by
 intro a6 s σ H R I h
 refine thn (hl a6 s σ H _ I h) λv s1 ⟨x,H1,I1,r1,q1⟩=>?_
 obtain⟨d,kvs,e,hd,q⟩:=q1
 subst e
 cases r1
 obtain⟨z,lo,vs,ep,rk,ha,aa⟩:=dk_at I1 (.inl hd)
 obtain⟨o,es,ho,r⟩:=id ha
 refine wpAny_pyIter_dict lo ha ?_
 have I2:=I1.freeze hd ho trivial
 have I3:Inv X a6 σ (upd H1 d (.frz o (.dK kvs))) {s1 with heap:=s1.heap.push {cls:=.type "dict_keyiterator",data:=.fields #[.ref d,.int 0 0,.int vs.length 0,.int ep 0]}}:=I2.kept (t':=s1.toks) λb o e=>Qi _ e
 refine⟨s1.heap.objs.size,[s1.heap.objs.size],_,_,_,rfl,I3,turn_dict d _ rk aa ho ha,⟨_,Zd _ rfl,rfl,rfl⟩,λb hb=>?_,q o⟩
 have e:b=s1.heap.objs.size:=by simpa using hb
 subst e
 exact I2.fpOk (Qf _) (I2.hok.fresh (Qf _))
end
def for_dict{d:Nc}{o:Obj}{kvs:List (Key×V)}{g:TG}{tb:TS}{D:Ends}{σ:St}{H:Hp}(Pv:Nat→St→Hp→Prop)(h0:Pv 0 σ H)(hl:∀i σ H,i≤kvs.length→Pv i σ H→H d=some (.frz o (.dK kvs)))(hs:∀i p σ H,kvs[i]?=some p→Pv i σ H→g (kV p.1) σ H λ σ2 H2=>tb {D with nx:=Pv (i+1),ct:=Pv (i+1),bk:=D.nx} σ2 H2)(hd:∀σ H,Pv kvs.length σ H→D.nx σ H) :
  ∃W:Nat→Nat→St→Hp→Prop,(∃m,W 0 m σ H)∧∀i m σ H,W i m σ H →
   ((Itd d o kvs).stop i H∧D.nx σ H)∨((Itd d o kvs).go i H∧∃N:St→Hp→Prop,(∀σ' H',N σ' H'→∃m',m'<m∧W (i+1) m' σ' H')∧∀x H',(Itd d o kvs).yld i H x H'→g x σ H' λ σ2 H2=>tb {D with nx:=N,ct:=N,bk:=D.nx} σ2 H2):=by
 refine⟨λi m σ H=>m=kvs.length-i∧i≤kvs.length∧Pv i σ H,⟨kvs.length,by simp,Zn _,h0⟩,?_⟩
 rintro i m σ H ⟨rfl,hi,p⟩
 have q:=hl i σ H hi p
 by_cases ad:i<kvs.length
 ·refine .inr ⟨⟨q,ad⟩,Pv (i+1),fun σ' H' p'=>⟨kvs.length - (i+1),by exact zar1 ‹_›,rfl,ad,p'⟩,fun x H' y=>?_⟩
  obtain⟨e,pr,e2,rfl⟩:=y
  subst e
  exact hs i pr σ _ e2 p
 ·have e:i=kvs.length:=by exact zar3 ‹_› ‹_›
  subst e
  exact .inl ⟨⟨q,Qf _⟩,hd σ H p⟩
end L2
end
section
namespace Enu
open PySem PyProof.Rows
open AutoSeq1 (wpAny_loadPart')
section
variable{prog:Nj}{w:Nl}{A:Nm}{E:Na}{s:Ng}
def next_item(st:s.heap.IsTupleIter j t i)(ht:s.heap.IsTuple t xs)(hx:xs[i]?=some x)(hQ:∀g,g.IsTupleIter j t (i+1)→Heap.SameBut j s.heap g→Q x {s with heap:=g}):wpAny (model prog w) A (Builtin.SmallTypes.nextOf (.ref j)) Q E s:=by
 obtain⟨o,ho,hc,hd⟩:=id st
 obtain⟨p,hp,_,k,hk⟩:=ht
 unfold Builtin.SmallTypes.nextOf
 refine wpAny_bind (wpAny_callSpecial?_slot (name:=Str.ofString "__next__") st.typeIs Jx (wpAny_call_entry Jx st.typeIs F.entry_tuple_iterator_next ?_ (F.args_tuple_iterator_next_1 _)))
 show wpAny _ _ (field (.ref j) 0 >>= _) _ _ s
 refine wpAny_bind (wpAny_field ho hd (x:=.ref t) rfl ?_)
 show wpAny _ _ (if(Value.ref t==.none)=true then _ else _) _ _ s
 rw[if_neg (show ¬((Value.ref t==.none)=true) from Zh)]
 show wpAny _ _ (field (.ref j) 1 >>= _) _ _ s
 refine wpAny_bind (wpAny_field ho hd (x:=.int i 0) rfl ?_)
 show wpAny _ _ (seqItems? (.ref t) >>= _) _ _ s
 refine wpAny_bind (wpAny_seqItems hp hk ?_)
 simp only[Jr,hx]
 refine wpAny_bind (wpAny_setField ho hd (by simp) (wpAny_pure ⟨x,rfl,wpAny_pure (hQ _ ⟨_,Heap.get?_update_self _ ho (Obj.isFreed_of_fields (Xq hd _)),(Obj.cls_mapFields ..).trans hc,by rw[Xq hd];simp[rawInt]⟩ (Xm ..))⟩))
def next_end(hh:A.handled=none)(st:s.heap.IsTupleIter j t i)(ht:s.heap.IsTuple t xs)(hx:xs[i]?=none)(hE:∀g e,Heap.ExtBut j s.heap g→(∃o,g.get? e=some o∧o.cls=.type "StopIteration")→E (.ref e) {s with heap:=g}):wpAny (model prog w) A (Builtin.SmallTypes.nextOf (.ref j)) Q E s:=by
 obtain⟨o,ho,hc,hd⟩:=id st
 obtain⟨p,hp,_,k,hk⟩:=ht
 unfold Builtin.SmallTypes.nextOf
 refine wpAny_bind (wpAny_callSpecial?_slot (name:=Str.ofString "__next__") st.typeIs Jx (wpAny_call_entry Jx st.typeIs F.entry_tuple_iterator_next ?_ (F.args_tuple_iterator_next_1 _)))
 show wpAny _ _ (field (.ref j) 0 >>= _) _ _ s
 refine wpAny_bind (wpAny_field ho hd (x:=.ref t) rfl ?_)
 show wpAny _ _ (if(Value.ref t==.none)=true then _ else _) _ _ s
 rw[if_neg (show ¬((Value.ref t==.none)=true) from Zh)]
 show wpAny _ _ (field (.ref j) 1 >>= _) _ _ s
 refine wpAny_bind (wpAny_field ho hd (x:=.int i 0) rfl ?_)
 show wpAny _ _ (seqItems? (.ref t) >>= _) _ _ s
 refine wpAny_bind (wpAny_seqItems hp hk ?_)
 simp only[Jr,hx]
 refine wpAny_bind (wpAny_rule (wpAny_bind (wpAny_setField ho hd (by simp) ?_)))
 show wpAny _ _ (newExc (.type "StopIteration") [] >>= _) _ _ _
 refine wpAny_bind ?_
 simp only[newExc,newTuple]
 refine wpAny_bind (wpAny_newObj_type (wpAny_bind (m:=firstArgMember _ _) (wpAny_of_eq (a:=Value.none) (by first | rfl | (simp only[firstArgMember];rfl)) (wpAny_newObj_type ?_ (by size_fits)))) (by size_fits))
 simp only[raiseNew]
 refine wpAny_bind (wpAny_handled ?_)
 first | rw[show A.in1.handled=none from hh] | rw[hh]
 refine wpAny_bind (wpAny_pure (wpAny_throw (hE _ _ (((Xm ..).extBut.push _).push _) ⟨_,Zd _ rfl,rfl⟩)))
theorem drawsT(hh:A.handled=none)(j t:Nc)(aH:t≠j)(xs:Array Value) :
  Draws prog w A j [j,t] xs.size (λi v=>xs[i]?=some v) (λi h=>h.IsTupleIter j t i∧h.IsTuple t xs) where
 live:=λ_ _ st=>let⟨o,ho,_⟩:=st.1;⟨o,ho⟩
 frame:=λi h h' st k=>⟨st.1.at λo e=>k j (by simp) o e,let⟨o,e,r⟩:=st.2;⟨o,k t (by simp) o e,r⟩⟩
 item:=λi s Q E hi st hQ=>by
  refine next_item st.1 st.2 (x:=xs[i]) (by simp[hi]) λg a b=>?_
  obtain⟨o,e,r⟩:=st.2
  exact hQ _ g s.toks (by simp[hi]) ⟨a,o,(b.2 t aH).trans e,r⟩ b
 done:=λs Q E st hE=>next_end hh st.1 st.2 (by simp) hE
def new_tuple(t:Nc)(xs:Array Value)(n:Nat)(dct:Option Addr)(sl:Array (Option Value)) :
  Meets (Builtin.«enumerate.__new__» ⟨[.type "enumerate",.ref t],[]⟩) (λ_ R s=>s.heap.get? t=some {cls:=.type "tuple",dict:=dct,data:=.seq xs n,slots:=sl} ∧
   R (.ok (.ret (.ref (s.heap.push {cls:=.type "tuple_iterator",data:=.fields #[.ref t,.int 0 0]}).objs.size)))
    {s with heap:=(s.heap.push {cls:=.type "tuple_iterator",data:=.fields #[.ref t,.int 0 0]}).push {cls:=.type "enumerate",data:=.fields #[.none,.bool false,.ref s.heap.objs.size,rawInt 0,.none,.none]}}) :=
 .of_wp λprog w A R s h=>by
  obtain⟨hp,g,d,tk,os⟩:=s;obtain⟨hl,h⟩:=h
  have dZ:=sub_enumerate
  have hL:Heap.IsTuple (Shared.heap ⟨hp,g,d,tk,os⟩) t xs:=⟨_,hl,rfl,n,rfl⟩
  wp_walk using wpAny_loadPart' hl
  refine wpAny_stack_any λst=>wpAny_pure ?_
  split
  ·rename_i c _ _ _ _ _
   cases(c==Value.type "enumerate")<;>(wp_walk using wpAny_loadPart' hl,wpAny_pyIter_tuple hL;exact⟨_,rfl,h⟩)
  ·wp_walk using wpAny_loadPart' hl,wpAny_pyIter_tuple hL
   exact⟨_,rfl,h⟩
def call_enum(hL:s.heap.IsTuple t xs)(h:∀g,IsEnum g (s.heap.objs.size+1) s.heap.objs.size 0 .none→g.IsTupleIter s.heap.objs.size t 0→g.objs.size=s.heap.objs.size+2→(∀b o,s.heap.get? b=some o→g.get? b=some o)→Q (.ref (s.heap.objs.size+1)) {s with heap:=g}) :
  wpAny (model prog w) A (call (.type "enumerate") [.ref t]) Q E s:=by
 obtain⟨⟨c,dct,dt,sl⟩,hl,hc,n,hd⟩:=hL
 replace hc:c=.type "tuple" := hc
 replace hd:dt=.seq xs n:=hd
 subst hc hd
 refine callType_new F.called_enumerate (by decide) (F.typeCall_enumerate_1 _) (F.newCall_enumerate_1 _) (λobj=>F.args_object_init_2 obj _) F.entry_enumerate_new (new_tuple t xs n dct sl) ⟨hl,?_⟩
 have hz:(s.heap.push {cls:=.type "tuple_iterator",data:=.fields #[.ref t,.int 0 0]}).objs.size=s.heap.objs.size+1:=Uv ..
 show _∧_
 rw[hz]
 have he:IsEnum ((s.heap.push {cls:=.type "tuple_iterator",data:=.fields #[.ref t,.int 0 0]}).push {cls:=.type "enumerate",data:=.fields #[.none,.bool false,.ref s.heap.objs.size,rawInt 0,.none,.none]}) (s.heap.objs.size+1) s.heap.objs.size 0 .none:=by
  have q:=Zd (s.heap.push {cls:=.type "tuple_iterator",data:=.fields #[.ref t,.int 0 0]}) (o:={cls:=.type "enumerate",data:=.fields #[.none,.bool false,.ref s.heap.objs.size,rawInt 0,.none,.none]}) rfl
  rw[hz]at q;exact q
 exact⟨⟨_,he,rfl⟩,h _ he ⟨_,Qi _ (Zd _ rfl),rfl,rfl⟩ (by rw[Uv,hz]) λb o x=>Qi _ (Qi _ x)⟩
end
end Enu
namespace L2
open PySem PySem.Spec PyProof.Rows Enu
def Ite(a:Nc)(K:Nb):It :=
 ⟨λi H=>∃xs,SqT K H a xs∧i<xs.length,λi H x H'=>∃y t,(∀xs,SqT K H a xs→xs[i]?=some y)∧H t=none∧x=.ref t∧H'=upd H t (.tup [.int i,y]),λi H=>∃xs,SqT K H a xs∧xs.length≤i⟩
theorem turn_enum{P:Nj}{w:Nl}{K:Nb}{elts:Nq}{kk:Nat}{pos:Pos}(a e j:Nc)(rJ:e≠j)(haj:a≠j)(hae:e≠a) :
  Turn P w K (.Tuple elts kk pos) (Ite a K) [e,j] e (λi h=>(∃old,IsEnum h e j i old)∧h.IsTupleIter j a i) where
 mem:=by simp
 obj:=λi h st b hb=>by
  rcases Qh.mp hb with z | z
  ·subst z
   obtain⟨old,q⟩:=st.1
   exact⟨_,q,λv z=>by
    have z':Data.fields _=Data.cell v:=z
    cases z'⟩
  ·rw [Qb.mp z]
   obtain⟨o,q,c,d⟩:=st.2
   exact⟨o,q,λv z=>by rw[d]at z;cases z⟩
 keep:=λi h h' st k=>⟨let⟨old,q⟩:=st.1;⟨old,k e (by simp) _ q⟩,st.2.at λo q=>k j (by simp) o q⟩
 item:=by
  intro X hP hw hK hc i a6 s σ H E I hf st hg
  subst hP hw hK
  obtain⟨xs,hq,hi⟩:=hg
  obtain⟨a8,rv,p,hz⟩:=I.tuple hq
  have hl:=rv.length
  obtain⟨⟨old,he⟩,ke⟩:=st
  have hh:X.A.in1.handled=none:=I.ok.hd hc
  refine wpAny_pyNext_enum_itemD (drawsT hh j a haj a8.toArray) he ⟨ke,p⟩ (by simp;exact zar7 ‹_› ‹_›) rJ (by simp[rJ,hae]) λx g tk hP ho hs hT hsz hk=>⟨.ref s.heap.objs.size,rfl,?_⟩
  have fr:∀b,b∈[e,j]→FpOk X a6 H b:=hf
  obtain⟨e0,e1,e2,e3,e4,e5⟩:=hf e (by simp)
  obtain⟨j0,j1,j2,j3,j4,j5⟩:=hf j (by simp)
  have hHe:∀b u,H b=some u→b≠e∧b≠j:=λb u q=>⟨λz=>(by rw[z,e0]at q;cases q),λz=>(by rw[z,j0]at q;cases q)⟩
  have I1:Inv X a6 σ H {s with heap:=g,toks:=tk+1}:=by
   refine I.step (g':=s.gens) (d':=s.drawn) (ch:=[e,j]) (λb hb=>?_) (λb o _ _ hc q _=>hk b o (λz=>hc (by simp[z])) (λz=>hc (by simp[z])) q) (λb o _ _ hc q _=>⟨o.slots,hk b o (λz=>hc (by simp[z])) (λz=>hc (by simp[z])) q⟩) (λ_ _ _ _ n=>n)
    (λb o hc q=>⟨o,hk b o (λz=>hc (by simp[z])) (λz=>hc (by simp[z])) q⟩) (λ_ _ q=>q) (λ_ _ _ q=>q) (λb ps q=>⟨#[],by rw[q];simp⟩) (λm hm=>?_) (λb u q=>?_) I.bare
   ·rcases Qh.mp hb with z | z
    ·subst z;exact⟨e3,e1,e4,e5⟩
    ·rw[Qb.mp z];exact⟨j3,j1,j4,j5⟩
   ·obtain ⟨o,es,ep,q,r⟩:=hm
    exact⟨o,es,ep,hk _ o (Zo e1) (Zo j1) q,r⟩
   ·refine (I.hok b u q).stay (fun c v hc z=>?_) (fun _ z=>z) fun _ _ z=>z
    have hcn:c≠e∧c≠j:=by
     rcases hc with rfl | hc
     ·exact hHe c u q
     ·exact hHe c _ hc
    exact hk c v hcn.1 hcn.2 z
  obtain⟨y,hy⟩:∃y,xs[i]?=some y:=⟨xs[i],Qc hi⟩
  obtain⟨u,hu,ru⟩:=rv.get hy
  have hP':a8[i]?=some x:=by simpa using hP
  rw[hu]at hP'
  have hux:u=x:=Qt hP'
  subst hux
  have hN:H s.heap.objs.size=none:=I.hok.fresh (Qf _)
  refine wpAny_letOwnedTupleGo_enum ho λg' cS bm=>?_
  have nT:s.heap.objs.size≠e:=Wk (Qz he)
  have nJ:s.heap.objs.size≠j:=by obtain⟨o,q,_⟩:=ke;exact Wk (Qz q)
  have I2:Inv X a6 σ H {s with heap:=g',toks:=tk+1}:=Inv.turned (s:={s with heap:=g,toks:=tk+1}) (t':=tk+1) (it:=e) I1 (λb o hb q=>(bm.2 b hb).trans q) e0 e1 e3 e4 e5
  have hT':g'.get? s.heap.objs.size=some {cls:=.type "tuple",data:=.seq #[.int i tk,u]}:=(bm.2 _ nT).trans hT
  have I3:Inv X a6 σ (upd H s.heap.objs.size (.tup [.int i,y])) {s with heap:=g',toks:=tk+1}:=by
   refine⟨I2.ok,I2.os,I2.bare,⟨I2.base.keep,I2.base.slot,λb o q n hx=>?_,I2.base.there,λb zs q=>?_,λb o v q=>?_,λb ps q=>?_⟩,I2.loc,I2.cell,?_,λz c q=>?_,λpp hp=>?_,λb v q=>?_,I2.len⟩
   ·have lt:b < s.heap.objs.size:=Yh (Qz q) I.sz
    rw[zaf (Zr lt)];exact I2.base.free b o q n hx
   ·have:=I2.base.tups b zs q
    rw[zaf (zab this hN)];exact this
   ·have:=I2.base.frzs b o v q
    rw[zaf (zab this hN)];exact this
   ·obtain ⟨m,z⟩:=I2.base.tbls b ps q
    exact⟨m,by rw[zaf (zab z hN)];exact z⟩
   ·rw[zaf (Zr I.lt)];exact I2.free
   ·rw[zaf (Zr (I.cl_lt z c q))];exact I2.freeC z c q
   ·obtain ⟨h1,h2,h3⟩:=I2.pin pp hp
    exact⟨h1,by rw[zaf (Zr (I.pin_lt pp hp))];exact h2,h3⟩
   ·by_cases hb:b=s.heap.objs.size
    ·subst hb
     rw[zac]at q
     cases q
     exact⟨by show 2≤sizeLine;decide,[.int i tk,u],.cons ⟨tk,rfl⟩ (.cons ru .nil),_,hT',rfl,_,rfl⟩
    ·rw [zaf hb] at q
     exact(I2.hok b v q).stay (λc v _ z=>z) (λc z=>by rw[zaf (zab z hN)];exact z) λc zs z=>by rw[zaf (zab z hN)];exact z
  refine⟨.ref s.heap.objs.size,_,I3,rfl,⟨y,_,λys hys=>by rw[I.tuple_inj hys hq];exact hy,hN,rfl,rfl⟩,⟨⟨u,by simpa using cS⟩,?_⟩,λb hb=>?_⟩
  ·exact hs.1.at λo q=>(bm.2 j (Zo rJ)).trans q
  ·rcases Qh.mp hb with z | z
   ·rw[z,zaf (Zo nT)];exact e0
   ·rw[Qb.mp z,zaf (Zo nJ)];exact j0
 done:=by
  intro X hP hw hK hc i a6 s σ H E I hf st hg
  subst hP hw hK
  obtain⟨xs,hq,hi⟩:=hg
  obtain⟨a8,rv,p,hz⟩:=I.tuple hq
  have hl:=rv.length
  obtain⟨⟨old,he⟩,ke⟩:=st
  obtain⟨j0,j1,j2,j3,j4,j5⟩:=hf j (by simp)
  have hh:X.A.in1.handled=none:=I.ok.hd hc
  have hT:s.TypeIs (.ref e) "enumerate" := ⟨_,he,rfl⟩
  unfold pyNext
  refine wpAny_bind (wpAny_attempt (wpAny_callSpecial?_slot (name:=Str.ofString "__next__") hT F.slot_enumerate_next (wpAny_call_entry F.slot_enumerate_next hT F.entry_enumerate_next ?_ (F.args_enumerate_next_1 _))))
  show wpAny _ _ (field (.ref e) 2 >>= _) _ _ _
  refine wpAny_bind (wpAny_field he rfl (x:=.ref j) rfl (wpAny_bind (next_end hh ke p (by simp;exact zd1 ‹_› ‹_›) λg x hg hx=>?_)))
  obtain⟨o,ho,hc⟩:=hx
  refine wpAny_bind (wpAny_isInstance (T := "StopIteration") (b:=true) ⟨o,ho,hc⟩ isSubtype_stop (wpAny_pure ⟨rfl,?_⟩))
  exact I.turned (t':=s.toks) (λb o hb q=>hg b o hb q) j0 j1 j3 j4 j5
 self:=λA i s Q E st h=>by
  obtain⟨⟨old,he⟩,_⟩:=st
  exact wpAny_pyIter_enum he h
end L2
end
section
namespace L2
open PySem PySem.Spec PyProof.Rows Enu
section
variable{X:Cx}
def iEnum(K:Nb)(ta:TA):TI:=λ σ H R=>ta σ H λvs H1=>∃a,vs=[.ref a]∧(∃xs,SqT K H1 a xs)∧R (Ite a K) H1
def pi_enum(hg:Gl X "enumerate")(hm:X.mg "enumerate" = none)(ha:PA X [a] ta)(hs:starEach [a] X.env=[(false,eval a X.env)]:=by rfl) :
  PI X (.Tuple elts kk tpos) (.Call (.Name "enumerate" p) [a] [] pos) (iEnum X.K ta):=by
 intro a6 s σ H R I h
 refine Call_ (ld_blt I hg hm boot_enumerate (Xc (thn (ha pos a6 s σ H _ I h) λus s1 ⟨vs,H1,I1,r1,q1⟩=>?_) hs rfl))
 obtain⟨t,e,⟨xs,hq⟩,q⟩:=q1
 subst e
 obtain⟨u,rfl,ru⟩:=vals1 r1
 cases ru
 obtain⟨a8,rv,pl,hz⟩:=I1.tuple hq
 have lt:t<s1.heap.objs.size:=by obtain⟨o,q,_⟩:=pl;exact Qz q
 refine call_enum pl λg he ke hsz k=>wpAny_pyIter_enum he ?_
 have I2:Inv X a6 σ H1 {s1 with heap:=g}:=I1.kept (t':=s1.toks) k
 refine⟨s1.heap.objs.size+1,[s1.heap.objs.size+1,s1.heap.objs.size],_,_,H1,rfl,I2,turn_enum t _ _ (Nat.succ_ne_self _) (Zr lt) (Wk (Kk lt)),⟨⟨_,he⟩,ke⟩,λb hb=>?_,q⟩
 have oi:s1.heap.objs.size≤b:=by
  rcases Qh.mp hb with z | z
  ·rw[z];exact Kh _
  ·rw[Qb.mp z];exact Qf _
 exact I1.fpOk oi (I1.hok.fresh oi)
def for_enum{K:Nb}{a:Nc}{xs:List V}{g:TG}{tb:TS}{D:Ends}{σ:St}{H:Hp}(Pv:Nat→St→Hp→Prop)(h0:Pv 0 σ H)(hl:∀i σ H,i≤xs.length→Pv i σ H→H a=some (.tup xs))(hs:∀i x t σ H,xs[i]?=some x→Pv i σ H→H t=none→g (.ref t) σ (upd H t (.tup [.int i,x])) λ σ2 H2=>tb {D with nx:=Pv (i+1),ct:=Pv (i+1),bk:=D.nx} σ2 H2)(hd:∀σ H,Pv xs.length σ H→D.nx σ H) :
  ∃W:Nat→Nat→St→Hp→Prop,(∃m,W 0 m σ H)∧∀i m σ H,W i m σ H →
   ((Ite a K).stop i H∧D.nx σ H)∨((Ite a K).go i H∧∃N:St→Hp→Prop,(∀σ' H',N σ' H'→∃m',m'<m∧W (i+1) m' σ' H')∧∀x H',(Ite a K).yld i H x H'→g x σ H' λ σ2 H2=>tb {D with nx:=N,ct:=N,bk:=D.nx} σ2 H2):=by
 refine⟨λi m σ H=>m=xs.length-i∧i≤xs.length∧Pv i σ H,⟨xs.length,by simp,Zn _,h0⟩,?_⟩
 rintro i m σ H ⟨rfl,hi,p⟩
 have q:=hl i σ H hi p
 by_cases ad:i<xs.length
 ·refine .inr ⟨⟨xs,SqT.of q,ad⟩,Pv (i+1),fun σ' H' p'=>⟨xs.length - (i+1),by exact zar1 ‹_›,rfl,ad,p'⟩,fun x H' y=>?_⟩
  obtain⟨z,t,e1,e3,rfl,rfl⟩:=y
  exact hs i z t σ H (e1 xs (SqT.of q)) p e3
 ·have e:i=xs.length:=by exact zar3 ‹_› ‹_›
  subst e
  exact .inl ⟨⟨xs,SqT.of q,Qf _⟩,hd σ H p⟩
def Its(x:Str):It:=⟨λi _=>i<x.cps.size,λi H v H'=>H'=H∧∃c,x.cps[i]?=some c∧v=.str ⟨#[c]⟩,λi _=>x.cps.size≤i⟩
theorem turn_str{P:Nj}{w:Nl}{K:Nb}{tg:Expr}{x:Str}{t:Tok}(it:Nc):Turn P w K tg (Its x) [it] it (λi h=>h.IsStrIter it "str_ascii_iterator" x t i) where
 mem:=by simp
 obj:=λi h st b hb=>by
  rw[Qb.mp hb]
  obtain⟨o,e,c,d⟩:=st
  exact⟨o,e,λv z=>by rw[d]at z;cases z⟩
 keep:=λi h h' st k=>let⟨o,ho,r⟩:=st;⟨o,k it (by simp) o ho,r⟩
 item:=by
  intro X hP hw hK hc i a6 s σ H E I hf st hg
  subst hP hw hK
  obtain⟨f0,f1,f2,f3,f4,f5⟩:=hf it (by simp)
  have hi:i<x.cps.size:=hg
  refine wpAny_pyNext_ascii_item st (c:=x.cps[i]) (by simp[hi]) λh' a7 sb=>?_
  have I1:Inv X a6 σ H {s with heap:=h',toks:=s.toks+1}:=I.turned (λb o hb e=>(sb.2 b hb).trans e) f0 f1 f3 f4 f5
  obtain⟨o,e,c,d⟩:=id a7
  exact⟨_,rfl,go_of (s:={s with heap:=h',toks:=s.toks+1}) e c d (by decide) ⟨.str ⟨#[x.cps[i]]⟩,H,I1,⟨_,rfl⟩,⟨rfl,_,by simp[hi],rfl⟩,a7,λb hb=>(hf b hb).1⟩⟩
 done:=by
  intro X hP hw hK hc i a6 s σ H E I hf st hg
  subst hP hw hK
  obtain⟨f0,f1,f2,f3,f4,f5⟩:=hf it (by simp)
  have hi:x.cps.size≤i:=hg
  exact wpAny_pyNext_ascii_end (I.ok.hd hc) st (by simp[hi]) λh' eb=>⟨rfl,I.turned (t':=s.toks) (λb o hb e=>eb b o hb e) f0 f1 f3 f4 f5⟩
 self:=λ_ _ _ _ _ st h=>wpAny_pyIter_striter_ascii st h
def iStr(tl:TE):TI:=λ σ H R=>tl σ H λv H1=>∃x:Str,v=.str x∧x.cps.all (· < 128)=true∧R (Its x) H1
def pi_str{tg l:Expr}{tl:TE}(hl:PE X l tl):PI X tg l (iStr tl):=by
 intro a6 s σ H R I h
 refine thn (hl a6 s σ H _ I h) λv s1 ⟨y,H1,I1,r1,q1⟩=>?_
 obtain⟨x,e,ha,q⟩:=q1
 subst e
 obtain⟨t,rfl⟩:=r1
 refine wpAny_pyIter_ascii ha ?_
 refine⟨s1.heap.objs.size,[s1.heap.objs.size],_,_,H1,rfl,I1.kept (t':=s1.toks) λb o e=>Qi _ e,turn_str (t:=t) _,⟨_,Zd _ rfl,rfl,rfl⟩,λb hb=>?_,q⟩
 rw[Qb.mp hb]
 exact I1.fpOk (Qf _) (I1.hok.fresh (Qf _))
def op_le_str:OpR X (compareOp .LtE) (λx y H Q=>Ex2 λi j=>Aj3 (x=.str i) (y=.str j) (Q (.bl (!decide (j.cps.toList<i.cps.toList))) H)):=by
 intro a6 s σ H x y v u Q I rx ry h
 obtain⟨i,j,rfl,rfl,q⟩:=h
 obtain⟨t,rfl⟩:=rx
 obtain⟨t',rfl⟩:=ry
 exact PySem.P.le_str (za9 I q rfl)
end
end L2
end
section
namespace L2
open PySem PySem.Spec PyProof.Rows
section
variable{X:Cx}{a6:Nd}{σ:St}{H:Hp}{s:Ng}
inductive RrNil(neg:Bool)(K:Nb)(x:V)(y:V)(H:Hp)(Q:VK):Prop
 |mk (l:_) (b:_) (xs:_) (h0:x=.ref l) (h1:y=.ref b) (h2:SqL K H l xs) (h3:SqL K H b []) (h4:Q (.bl (if neg then !xs.isEmpty else xs.isEmpty)) H):RrNil neg K x y H Q
def rNil(neg:Bool)(K:Nb):R2:=λx y H Q=>RrNil neg K x y H Q
def op_eq_nil(hu:X.A.units<cLine):OpR X (compareOp .Eq) (rNil false X.K):=by
 intro a6 s σ H x y v u Q I rx ry h
 obtain⟨l,b,xs,rfl,rfl,h1,h2,q⟩:=h
 cases rx;cases ry
 obtain⟨a8,r,pl,_⟩:=I.list h1
 obtain⟨ax,r2,gK,_⟩:=I.list h2
 cases r2
 cases r with
 |nil=>exact SeqAt.eq_listAt (e:=λ_=>true) pl.isList gK.isList rfl hu (λj h1 _=>by simp at h1) ⟨.bl true,H,I,rfl,q⟩
 |cons a t=>exact SeqAt.eq_list_lengthsAt pl.isList gK.isList (by simp) hu ⟨.bl false,H,I,rfl,q⟩
def eq_pairs(I:Inv X a6 σ H s)(hu:A.units < cLine)(ha:H a=some (.tup [.str x,.str y]))(hb:H b=some (.tup [.str x',.str y'])) :
  SeqAt.EqAt A s (.ref a) (.ref b) (decide ((x,y)=(x',y'))):=by
 obtain⟨_,a8,r,p⟩:=I.hok a _ ha
 obtain⟨_,ax,r2,p2⟩:=I.hok b _ hb
 obtain⟨u1,u2,rfl,⟨t1,rfl⟩,⟨t2,rfl⟩⟩:=vals2 r
 obtain⟨w1,w2,rfl,⟨t3,rfl⟩,⟨t4,rfl⟩⟩:=vals2 r2
 by_cases hab:a=b
 ·subst hab
  rw[ha]at hb
  cases hb
  rw[decide_eq_true rfl]
  exact SeqAt.EqAt.same _
 ·have key:=SeqAt.RcAt.tuples (A:=A) (s:=s) (e:=fun j=>if j=0 then x == x' else y == y') p p2 hu fun j j1 j2=>by
   have iy:j<2:=by simpa using j1
   match j,iy with
   |0,_=>exact Uu x t1 x' t3
   |1,_=>exact Uu y t2 y' t4
  have e:((List.range (min (#[Value.str x t1,Value.str y t2]:Array Value).size (#[Value.str x' t3,Value.str y' t4]:Array Value).size)).all (λj=>if j=0 then x==x' else y==y')&&(#[Value.str x t1,Value.str y t2]:Array Value).size==(#[Value.str x' t3,Value.str y' t4]:Array Value).size)=decide ((x,y)=(x',y')):=by
   show((List.range 2).all (λj=>if j=0 then x==x' else y==y')&&true)=_
   rw[show List.range 2=[0,1] from rfl]
   by_cases hx:x=x'
   ·by_cases hy:y=y'
    ·simp[hx,hy]
    ·simp[hx,hy]
   ·simp[hx]
  have pc:SeqAt.RcAt A s (.ref a) (.ref b) (decide ((x,y)=(x',y'))):=e▸key
  exact SeqAt.EqAt.of_refs hab pc
inductive RrInP(neg:Bool)(K:Nb)(x:V)(y:V)(H:Hp)(Q:VK):Prop
 |mk (a p:Nc) (q:Str×Str) (as:Nk) (qs:No) (h0:x=.ref a) (h1:y=.ref p) (h2:H a=some (.tup [.str q.1,.str q.2])) (h3:SqL K H p (as.map V.ref)) (h4:Paired (λb (r:Str×Str)=>H b=some (.tup [.str r.1,.str r.2])) as qs) (h5:Q (.bl (if neg then !decide (q∈qs) else decide (q∈qs))) H):RrInP neg K x y H Q
def rInP(neg:Bool)(K:Nb):R2:=λx y H Q=>RrInP neg K x y H Q
def in_pairs(I:Inv X a6 σ H s)(hu:X.A.units+1 < cLine)(ha:H a=some (.tup [.str q.1,.str q.2]))(rv:Vals (as.map V.ref) a8)(pq:Paired (λb (r:Str×Str)=>H b=some (.tup [.str r.1,.str r.2])) as qs):∃e:Value→Bool,(∀y∈a8,SeqAt.EqAt X.A.in1 s y (.ref a) (e y))∧a8.any e=decide (q∈qs):=by
 refine⟨λv=>match v with | .ref b=>(match H b with | some (.tup [.str x,.str y])=>decide ((x,y)=q) | _=>false) | _=>false,?_,?_⟩
 ·intro y hy
  obtain⟨b,hb,rb⟩:=zgb rv y hy
  obtain⟨c,hc,rfl⟩:=Qk.mp hb
  cases rb
  obtain⟨i,hi,ei⟩:=Qx hc
  obtain⟨r,_,hr⟩:∃r,r∈qs∧H c=some (.tup [.str r.1,.str r.2]):=by
   clear rv hy hb hi ei i
   induction pq with
   |nil=>cases hc
   | cons h t ih =>
    rcases Qh.mp hc with z | z
    ·subst z;exact⟨_,Qd,h⟩
    ·obtain ⟨r,h1,h2⟩:=ih z
     exact⟨r,Qg _ h1,h2⟩
  dsimp only
  rw[hr]
  exact eq_pairs I (by show X.A.units+1<cLine;exact hu) hr ha
 ·induction pq generalizing a8 with
  |nil=>cases rv;simp
  | cons h t ih =>
   cases rv with
   | cons r1 r2 =>
    cases r1
    rw[Kq,ih r2]
    dsimp only
    rw[h]
    rename_i r _ rs _
    have:decide (q∈r::rs)=(decide ((r.1,r.2)=q)||decide (q∈rs)):=by
     rw[Yr]
     simp only[decide_eq_true_eq,Qh,Jl]
     constructor
     ·rintro (z | z)
      ·exact .inl z.symm
      ·exact .inr z
     ·rintro (z | z)
      ·exact .inl z.symm
      ·exact .inr z
    rw[this]
def zhh(hu:X.A.units+1<cLine):OpR X (compareOp .NotIn) (rInP true X.K):=by
 intro a6 s σ H x y v u Q I rx ry h
 obtain⟨a,p,q,as,qs,rfl,rfl,ha,hq,pq,q'⟩:=h
 cases rx;cases ry
 obtain⟨a8,r,pl,_⟩:=I.list hq
 obtain⟨e,h1,h2⟩:=in_pairs I hu ha r pq
 refine SeqAt.notIn_listAt e pl.isList (λw hw=>h1 w (by simpa using hw)) ⟨.bl _,H,I,?_,q'⟩
 show Value.bool (!(a8.toArray.any e))=_
 rw[show a8.toArray.any e=a8.any e by simp,h2]
 rfl
theorem argBest_lt:∀k,argBest bt k≤k
 |0=>Qf _
 |k+1=>by
  show(if bt (k+1) (argBest bt k)=true then k+1 else argBest bt k)≤k+1
  split
  ·exact Qf _
  ·exact Nat.le_succ_of_le (argBest_lt k)
theorem zdk(f:Nat→List Nat):∀k j,j≤k→¬f j<f (argBest (λi j=>decide (f i<f j)) k)
 |0,j,h=>by
  have:j=0:=by lia
  subst this
  exact Wn _
 | k+1,j,h=>by
  show ¬f j<f (if decide (f (k+1)<f (argBest (λi j=>decide (f i<f j)) k))=true then k+1 else argBest (λi j=>decide (f i<f j)) k)
  by_cases ad:f (k+1)<f (argBest (λi j=>decide (f i<f j)) k)
  ·rw [if_pos (decide_eq_true ad)]
   by_cases hj:j=k+1
   ·subst hj;exact Wn _
   ·intro z
    exact zdk f k j (by lia) (List.lt_trans z ad)
  ·rw [if_neg (by simpa using ad)]
   by_cases hj:j=k+1
   ·subst hj;exact ad
   ·exact zdk f k j (by lia)
def zi1(hc:X.calm=true):zce X (.builtin "min") (λxs H Q=>Ex2 λ(p:Nc) (zs:Ni)=>Aj4 (xs=[.ref p]) (SqL X.K H p (zs.map V.str)) (zs≠[]) (∀z∈zs,(∀y∈zs,leS z y)→Q (.str z) H)):=by
 intro a6 s σ H xs us Q I r h
 obtain⟨p,zs,rfl,hq,aH,q⟩:=h
 obtain⟨u,rfl,rx⟩:=vals1 r
 cases rx
 have cM:0<zs.length:=Ug.mpr aH
 refine call_min_walk (zfz hc I hq λa8 It h1 rv W st lt keep=>⟨It,_,_,_,_,_,λi j=>decide ((zs.getD i Str.empty).cps.toList<(zs.getD j Str.empty).cps.toList),rfl,W,st,lt,?_,λi j vi vj s' Q' E' hi hj gi=>?_,λv h' tk hv k=>?_⟩)
 ·have:=rv.length
  rw[Qa]at this
  rw[Qq];exact zar7 ‹_› ‹_›
 ·have gs:∀ (i:Nat) (v:Value),a8.toArray[i]?=some v→∃ t,v=.str (zs.getD i Str.empty) t:=fun i v e=>by
   have e':a8[i]?=some v:=by simpa using e
   have hi:i<a8.length:=(Zg.mp e').1
   have hl:=rv.length
   rw[Qa]at hl
   have aE:i<zs.length:=by exact zar6 ‹_› ‹_›
   obtain⟨u,e2,t,e3⟩:=rv.get (i:=i) (x:=.str zs[i]) (by simp[aE])
   rw[e']at e2
   cases e2
   exact⟨t,by rw[e3];simp[List.getD,aE]⟩
  obtain⟨t1,rfl⟩:=gs i vi hi
  obtain⟨t2,rfl⟩:=gs j vj hj
  exact lt_str gi
 ·have hl:=rv.length
  rw[Qa]at hl
  have hk:=argBest_lt (bt:=λi j=>decide ((zs.getD i Str.empty).cps.toList<(zs.getD j Str.empty).cps.toList)) (a8.toArray.size-1)
  generalize hb:argBest (λi j=>decide ((zs.getD i Str.empty).cps.toList<(zs.getD j Str.empty).cps.toList)) (a8.toArray.size-1)=b at hv hk
  have dC:b<zs.length:=by rw[Qq]at hk;lia
  have dI:a8[b]?=some v:=by simpa using hv
  obtain⟨u,e2,t,e3⟩:=rv.get (i:=b) (x:=.str zs[b]) (by simp[dC])
  rw[dI]at e2
  cases e2
  refine⟨.str zs[b],H,keep h' tk k,⟨t,e3⟩,q _ (Qn dC) λy hy=>?_⟩
  obtain⟨j,hj,ej⟩:=Qx hy
  have:=zdk (λi=>(zs.getD i Str.empty).cps.toList) (a8.toArray.size-1) j (by rw[Qq];lia)
  rw[hb]at this
  have g1:zs.getD b Str.empty=zs[b]:=by simp[List.getD,dC]
  have g2:zs.getD j Str.empty=y:=by simp[List.getD,hj,ej]
  rw[g1,g2]at this
  exact this
end
section
variable{X:Cx}
def eqV_self{x:V}(f:zdp x=true):eqV x x=true:=by
 cases x with
 |non=>rfl
 |bl b=>exact beq_self_eq_true b
 |int i=>exact beq_self_eq_true i
 |str z=>exact beq_self_eq_true z
 |_=>cases f
end
end L2
end
section
namespace SetT
open PySem PyProof.Rows PySem.Spec
section
variable{prog:Nj}{w:Nl}{A:Nm}{R:Nv}{I:Nc}{fp wr:Nk}{G:Array GenState→Array GenState→Prop}{n:Nat}{P:Nat→Value→Prop}{St:Nat→Shared→Prop}
def loop(W:WalksS prog w A.in1 I fp wr G n P St)(S:Nc)(oj:S∉fp)(zs:Ni)(hz:zs.length=n)(nd:zs.Nodup)(iI:∀i v,P i v→∃t,v=.str (zs.getD i Str.empty) t)(hb:n+1<scanBound) :
  ∀(k i:Nat) (s:Ng),n-i=k→i≤n→St i s→s.heap.SetOf (PySem.strKind prog w) S (λx=>decide (x∈zs.take i)) i →
   (∀s',Moved (S::wr) G s s'→s'.heap.SetOf (PySem.strKind prog w) S (λx=>decide (x∈zs.take n)) n→R (.ok (.ret .none)) s')→codeAny (model prog w) A (.builtin "set.update.loop" ⟨[.ref S,.ref I],[]⟩) R s:=by
 have hSw:S∉wr:=λh=>oj (W.sub _ h)
 have sub:∀b∈wr,b∈S::wr:=λb q=>Qg _ q
 intro k
 induction k with
 |zero =>
  intro i s hk hi aO hS hR
  obtain rfl:i=n:=by lia
  refine codeAny_builtin F.entry_set_update_loop ?_
  rw[Wx F.plain_set_update_loop _]
  show wpAny _ A.in1 (pyNext (.ref I) >>= _) _ _ s
  refine wpAny_bind (W.done s _ _ aO λs' hm=>(show wpAny _ A.in1 (ret Value.none) _ _ s' from wpAny_pure (hR s' (hm.mono sub) ?_)))
  obtain⟨o,es,ep,t,ho,rest⟩:=hS
  exact⟨o,es,ep,t,hm.heap S _ hSw ho,rest⟩
 | succ k ih =>
  intro i s hk hi aO hS hR
  have lt:i<n:=by lia
  refine codeAny_builtin F.entry_set_update_loop ?_
  rw[Wx F.plain_set_update_loop _]
  show wpAny _ A.in1 (pyNext (.ref I) >>= _) _ _ s
  refine wpAny_bind (W.item i s _ _ lt aO λv s' hP iM hm=>?_)
  obtain⟨t,rfl⟩:=iI i v hP
  have aE:i<zs.length:=by exact zar6 ‹_› ‹_›
  have eg:zs.getD i Str.empty=zs[i]:=by simp[List.getD,aE]
  rw[eg]
  have kB:s'.heap.SetOf (PySem.strKind prog w) S (λx=>decide (x∈zs.take i)) i:=by
   obtain⟨o,es,ep,tb,ho,rest⟩:=hS
   exact⟨o,es,ep,tb,hm.heap S _ hSw ho,rest⟩
  show wpAny _ A.in1 (holding [Value.str zs[i] t] (setAdd S (.str zs[i] t)) >>= _) _ _ s'
  refine wpAny_bind (wpAny_holding ?_)
  unfold setAdd
  refine wpAny_holding (wpAny_bind ((PySem.strKind prog w).pyHash (k:=zs[i]) (by simp[PySem.strKind,Value.isStrOf]) ?_))
  have nin:decide (zs[i]∈zs.take i)=false:=decide_eq_false λq=>by
   obtain⟨j,hj,e⟩:=Qx q
   rw[Zf]at hj
   rw[Ww]at e
   have:=(Wq nd).mp e
   lia
  refine wpAny_setAddHashed_of (knd:=PySem.strKind prog w) (k:=zs[i]) (by simp[PySem.strKind,Value.isStrOf]) rfl kB (by lia) λg sb hS2=>?_
  have hSi:g.SetOf (PySem.strKind prog w) S (λx=>decide (x∈zs.take (i+1))) (i+1):=by
   refine SetOf_congr hS2 (λx=>?_) (by simp only[nin];simp)
   rw[Yr]
   simp only[Jl,decide_eq_true_eq]
   rw[Qo aE,Qe,Qb]
  refine wpAny_pure ⟨plainId_quiet F.plain_set_update_loop _,ih (i+1) _ (by lia) lt (W.frame _ s' _ _ iM (by first | exact Qf _ | exact Kh _) λb q o e=>?_) hSi λs2 bg hS3=>hR s2 (Moved.trans W.gtrans ((hm.mono sub).then_heap (by first | exact Qf _ | exact Kh _) λb o q e=>?_) bg) hS3⟩
  ·rw[sb.2 b (λz:b=S=>oj (by rw[←z];exact q))];exact e
  ·rw[sb.2 b (λz:b=S=>q (by rw[z];exact Qd))];exact e
end
section
variable{prog:Nj}{w:Nl}{A:Nm}{E:Na}{s:Ng}
def call_set{l:Nc}{a8:Nh}{zs:Ni}{Q:Na}(hh:A.handled=none)(hl:s.heap.IsList l a8.toArray)(hz:zs.length=a8.length)(nd:zs.Nodup)(iI:∀(i:Nat) (v:Value),a8[i]?=some v→∃t,v=.str (zs.getD i Str.empty) t)(hb:a8.length+1<scanBound)(h:∀(g:Nn) (tk:Nat),g.SetOf (PySem.strKind prog w) s.heap.objs.size (λx=>decide (x∈zs)) zs.length→(∀b o,s.heap.get? b=some o→g.get? b=some o)→Q (.ref s.heap.objs.size) {s with heap:=g,toks:=tk}) :
  wpAny (model prog w) A (call (.type "set") [.ref l]) Q E s:=by
 obtain⟨c,tl,hmro⟩:=Ub.mro
 have hmade:=Ub.made
 have dZ:=Ub.sub
 refine wpAny_call (codeAny_of_tree (show wpAny _ _ (callAny (.type "set") _) _ _ _ from wpAny_pure ⟨Code.quiet_builtin _ (by decide +kernel),codeAny_builtin PySem.F.entry_type_call ?_⟩))
 rw[Around.under_plain (weight_type_call_type "set" [.ref l] []) rfl]
 have h1:=Ub.notType
 have h2:=Ub.canCreate
 have ko:=PySem.F.typeCall_set_1 (.ref l)
 repeat(any_goals (first | assumption | wp_step))
 refine codeAny_mono (code_set_new_1 (.ref l) (E:=E) (Q₁:=λobj s₁=>∃led:Bool,obj=.ref s.heap.objs.size∧s₁={s with heap:=s.heap.push {cls:=.type "set",dict:=none,data:=.set #[] 0 (.fresh 0 0 led)}}) λled=>⟨led,rfl,rfl⟩) λr s1 hr=>?_
 cases r with
 |error e=>exact hr
 | ok fl =>
  cases fl with
  | ret obj =>
   obtain⟨led,rfl,rfl⟩:=hr
   have hS:(s.heap.push {cls:=.type "set",dict:=none,data:=.set #[] 0 (.fresh 0 0 led)}).get? s.heap.objs.size=some {cls:=.type "set",dict:=none,data:=.set #[] 0 (.fresh 0 0 led)}:=Zd _ rfl
   have hT:Shared.TypeIs {s with heap:=s.heap.push {cls:=.type "set",dict:=none,data:=.set #[] 0 (.fresh 0 0 led)}} (.ref s.heap.objs.size) "set" := ⟨_,hS,rfl⟩
   have hli:=Ub.init.lookup
   have hbi:=Ub.init.bind (.ref s.heap.objs.size)
   repeat(any_goals (first | assumption | wp_step))
   refine codeAny_mono (codeAny_call_builtin (R:=wants (λr s₂=>r=.none∧∃g tk,s₂={s with heap:=g,toks:=tk}∧g.SetOf (PySem.strKind prog w) s.heap.objs.size (λx=>decide (x∈zs)) zs.length∧(∀b o,s.heap.get? b=some o→g.get? b=some o)) E)
    Ub.init.plain PySem.F.entry_set_init (check_set_init_1 hT ?_)) λr2 s2 dM=>?_
   ·obtain ⟨ol,ql,jw,nl,kl⟩:=hl
    obtain⟨ocls,odict,odata,oslots⟩:=ol
    simp only at jw kl
    subst jw;subst kl
    have qk:(s.heap.push {cls:=.type "set",dict:=none,data:=.set #[] 0 (.fresh 0 0 led)}).get? l=some {cls:=.type "list",dict:=odict,data:=.seq a8.toArray nl,slots:=oslots}:=Qi _ ql
    have hsls:=PySem.F.sub_list_set
    have hslf:=PySem.F.sub_list_frozenset
    have aH:(Value.type "list" == Value.type "dict")=false:=by decide
    have bx:(s.heap.push {cls:=.type "set",dict:=none,data:=.set #[] 0 (.fresh 0 0 led)}).IsList l a8.toArray:=⟨_,qk,rfl,nl,rfl⟩
    unfold Builtin.«set.__init__» noKeywords Builtin.Frozenset.updateFrom
    generalize hPI:pyIter=PI
    wp_walk
    subst hPI
    refine wpAny_pyIter_list bx (wpAny_bind (wpAny_runValue ?_))
    have hlS:l<s.heap.objs.size:=Qz ql
    have hh3:A.in1.in1.in1.handled=none:=by simp[hh]
    have z1:(s.heap.push {cls:=.type "set",dict:=none,data:=.set #[] 0 (.fresh 0 0 led)}).objs.size=s.heap.objs.size+1:=Uv ..
    have qq:l≠(s.heap.push {cls:=.type "set",dict:=none,data:=.set #[] 0 (.fresh 0 0 led)}).objs.size:=by rw[z1];exact Zr (Kk hlS)
    have oj:s.heap.objs.size∉[(s.heap.push {cls:=.type "set",dict:=none,data:=.set #[] 0 (.fresh 0 0 led)}).objs.size,l]:=by
     rw[z1];simp only[Qh,List.not_mem_nil,or_false,not_or]
     exact⟨Zr (Wg _),Wk hlS⟩
    refine loop ((Walks.list hh3 _ l qq a8.toArray).toS) s.heap.objs.size oj zs (by rw[Qq];exact hz) nd (λi v hv=>iI i v (by simpa using hv)) (by rw[Qq];exact hb) _ 0 _ rfl (Zn _) ⟨⟨_,Zd _ rfl,rfl,rfl⟩,(bx.push _)⟩ ?_ ?_
    ·exact SetOf_congr ((setObjOf_fresh (knd:=PySem.strKind prog w) led).setOf (Qi _ hS) (by unfold scanBound;exact Nat.le_add_left _ _)) (λ_=>by simp) rfl
    ·intro s' hm kB
     obtain⟨g,g',d',oG,oO⟩:=s'
     have eg:g'=s.gens:=hm.gens
     have ed:d'=s.drawn:=hm.drawn
     have eo:oO=s.os:=hm.os
     subst eg;subst ed;subst eo
     show wpAny _ _ _ _ _ _
     refine wpAny_pure (show wpAny _ _ (ret Value.none) _ _ _ from wpAny_pure ⟨rfl,g,oG,rfl,?_,λb o e=>?_⟩)
     ·have e1:a8.toArray.size=zs.length:=by rw [Qq,hz]
      rw[e1,Qv (Qf _)]at kB
      exact kB
     ·have kr:b < s.heap.objs.size:=Qz e
      refine hm.heap b o ?_ (Qi _ (Qi _ e))
      rw[z1]
      simp only[Qh,List.not_mem_nil,or_false,not_or]
      exact⟨Zr kr,Zr (Kk kr)⟩
   ·cases r2 with
    |error e=>exact dM
    | ok fl2 =>
     cases fl2 with
     |ret r =>
      obtain⟨rfl,g,tk,rfl,kB,qD⟩:=dM
      repeat(any_goals (first | assumption | wp_step))
      exact h _ _ kB qD
     |_=>exact dM.elim
  |_=>exact hr.elim
end
end SetT
namespace L2
open PySem PySem.Spec PyProof.Rows
def setO(P:Nj)(w:Nl)(a:Nc)(zs:Ni):HO:=.ext λh=>h.SetOf (PySem.strKind P w) a (λx=>decide (x∈zs)) zs.length
section
variable{X:Cx}
def zi0(hc:X.calm=true):zce X (.type "set") (λxs H Q=>Ex2 λ(p:Nc) (zs:Ni)=>Aj5 (xs=[.ref p]) (SqL X.K H p (zs.map V.str)) zs.Nodup (zs.length≤1000) (∀l,H l=none→Q (.ref l) (upd H l (setO X.prog X.w l zs)))):=by
 intro a6 s σ H xs us Q I r h
 obtain⟨p,zs,rfl,hq,nd,hz,q⟩:=h
 obtain⟨u,rfl,rx⟩:=vals1 r
 cases rx
 obtain⟨a8,rv,pl,_⟩:=I.list hq
 have hl:=rv.length
 rw[Qa]at hl
 refine SetT.call_set (zs:=zs) (I.ok.hd hc) pl.isList hl nd (λi v e=>?_) (by unfold scanBound;lia) λg tk hS k=>?_
 ·have hi:i < a8.length:=(Zg.mp e).1
  have aE:i<zs.length:=by exact zar6 ‹_› ‹_›
  obtain⟨u,e2,t,e3⟩:=rv.get (i:=i) (x:=.str zs[i]) (by simp[aE])
  rw[e]at e2
  cases e2
  exact⟨t,by rw[e3];simp[List.getD,aE]⟩
 ·refine ⟨.ref _,_,I.laid (t':=tk) k (Qf _) (show zbt X.prog X.w _ g _ (setO X.prog X.w s.heap.objs.size zs) from ⟨hS,?_,fun h1 h2 p1 k1=>?_⟩),rfl,q _ (I.hok.fresh (Qf _))⟩
  ·obtain ⟨o,_,_,_,e,_⟩:=hS
   exact⟨o,e⟩
  ·obtain ⟨o,es,ep,t,e,rest⟩:=p1
   exact⟨o,es,ep,t,k1 o e,rest⟩
def zi3:zce X (.builtin "len") (λxs H Q=>Ex2 λ(p:Nc) (zs:Ni)=>Aj4 (xs=[.ref p]) (H p=some (setO X.prog X.w p zs)) (zs.length≤1000) (Q (.int zs.length) H)):=by
 intro a6 s σ H xs us Q I r h
 obtain⟨p,zs,rfl,hq,hz,q⟩:=h
 obtain⟨u,rfl,rx⟩:=vals1 r
 cases rx
 obtain⟨⟨o,es,ep,t,ho,hex,hd,kj,gn,hb,hf,hn⟩,_⟩:=(show zbt X.prog X.w H s.heap p (setO X.prog X.w p zs) from I.hok p _ hq)
 exact call_len_set ho hex hd hf (by rw[hn];lia) ⟨.int zs.length,H,I.tok _,⟨_,by rw[hn]⟩,q⟩
end
end L2
end
section
namespace DictR
open PySem PyProof.Rows PySem.Spec
def miss_keys:typeLookup (.type "list") "keys" = pure none:=am_miss_of_fast (by decide +kernel)
section
variable{prog:Nj}{w:Nl}{A:Nm}{E:Na}{s:Ng}
def no_keys{a:Nc}{xs:Array Value}{k:Nat}{sl:Array (Option Value)}{Q:Option Value→Shared→Prop}(hx:s.heap.get? a=some {cls:=.type "list",dict:=none,data:=.seq xs k,slots:=sl})(hA:A.handled=none)(h:∀g tk,(∀b o,s.heap.get? b=some o→g.get? b=some o)→Q none {s with heap:=g,toks:=tk}):wpAny (model prog w) A (getAttr? (.ref a) "keys") Q E s:=by
 obtain⟨hp,g,d,tk,os⟩:=s
 have hT:∀t',(⟨hp,g,d,t',os⟩:Shared).TypeIs (.ref a) "list" := λ_=>⟨_,hx,rfl⟩
 have f1:=sub_AttributeError
 have f3:=F.slot_list_getattribute.lookup
 have f4:=F.slot_list_getattribute.bind (.ref a)
 have f5:=am_list_getattr_none
 unfold getAttr? getAttrBy? getAttrBy
 repeat(any_goals (first | assumption | exact hT _ | ((with_reducible show wpAny _ _ (call (Value.builtin "list.__getattribute__") _ _) _ _ _);refine call_meets F.slot_list_getattribute (hT _) am_entry_list_getattribute (F.args_list_getattribute_2 _ _) (meets_getattribute_miss_list a xs k sl "keys" _ miss_keys (by decide +kernel) (by decide +kernel)) ⟨hx,hA,λh' oG e cg=>?_⟩) | wp_step))
 obtain⟨t',u',he⟩:=cg.there
 show wpAny _ _ (getattributeRaised _ _ _ _ _ _ _) _ _ _
 unfold getattributeRaised
 repeat(any_goals (first | assumption | wp_step))
 exact h h' oG cg.keeps
def zhu:entryFor table "dict.update.loop" = some Builtin.«dict.update.loop»:=entryFor_of_tree (by kernel_rfl)
def zdz:plainId "dict.update.loop" = true:=by decide +kernel
structure Row(K:Type) where
 a:Addr
 o:Obj
 k:K
 key:Value
 val:Value
 n:Nat
variable{K:Type}[DecidableEq K]{knd:KeyKind prog w K}
def RowAt(knd:KeyKind prog w K)(h:Nn)(r:Row K):Prop:=h.get? r.a=some r.o∧r.o.cls=.type "tuple" ∧ r.o.data=.seq #[r.key,r.val] r.n∧knd.is r.k r.key=true
def stored_new{kvs:List (K×Value)}(h:k∉kvs.map (·.1)):stored kvs k v=kvs++[(k,v)]:=by
 unfold stored
 rw[if_neg]
 intro z
 obtain⟨p,hp,e⟩:=Wa.mp z
 exact h (Qk.mpr ⟨p,hp,of_decide_eq_true e⟩)
def loop{R:Nv}{I l:Nc}(hh:A.handled=none)(rows:List (Row K))(d:Nc)(rL:d≠I)(kl:d≠l)(hlI:l≠I)(hr:∀ r∈rows,r.a≠d∧r.a≠I)(nd:(rows.map (·.k)).Nodup)(hz:rows.length≤sizeLine) :
  ∀(m i:Nat) (s:Ng),rows.length-i=m→i≤rows.length→s.heap.IsListIter I l i→s.heap.IsList l (rows.map λr=>Value.ref r.a).toArray→(∀r∈rows,RowAt knd s.heap r)→s.heap.DictOf knd d ((rows.take i).map λr=>(r.k,r.val)) →
   (∀g tk,(∀b o,b≠d→b≠I→s.heap.get? b=some o→g.get? b=some o)→g.DictOf knd d (rows.map λr=>(r.k,r.val))→R (.ok (.ret .none)) {s with heap:=g,toks:=tk}) →
   codeAny (model prog w) A (.builtin "dict.update.loop" ⟨[.ref d,.ref I,rawInt i,.none],[]⟩) R s:=by
 intro m
 induction m with
 |zero =>
  intro i s hm hi st hl hR hd hQ
  obtain rfl:i=rows.length:=by lia
  refine codeAny_builtin zhu ?_
  rw[Wx zdz _]
  show wpAny _ A.in1 (pyNext (.ref I) >>= _) _ _ s
  refine wpAny_bind (wpAny_pyNext_list_end (show A.in1.handled=none from hh) st hl (by simp) λg eb=>?_)
  show wpAny _ A.in1 (Builtin.Dict.addKeywords d [] >>= λ_=>ret Value.none) _ _ _
  refine wpAny_bind (show wpAny _ A.in1 (pure ()) _ _ _ from wpAny_pure (wpAny_pure (hQ g s.toks (λb o _ hb e=>eb b o hb e) ?_)))
  rw[Qv (Qf _)]at hd
  exact hd.extBut eb rL
 | succ m ih =>
  intro i s hm hi st hl hR hd hQ
  have lt:i<rows.length:=by lia
  obtain⟨e1,e2,e3,e4⟩:=hR rows[i] (Qn lt)
  obtain⟨n1,n2⟩:=hr rows[i] (Qn lt)
  refine codeAny_builtin zhu ?_
  rw[Wx zdz _]
  show wpAny _ A.in1 (pyNext (.ref I) >>= _) _ _ s
  refine wpAny_bind (wpAny_pyNext_list_item st hl (x:=.ref rows[i].a) (by simp[lt]) λg a7 sb=>?_)
  have k1:∀b o,b≠I→s.heap.get? b=some o→g.get? b=some o:=λb o hb e=>(sb.2 b hb).trans e
  have o9:g.DictOf knd d ((rows.take i).map λr=>(r.k,r.val)):=hd.sameBut sb rL
  refine wpAny_bind (wpAny_holding ?_)
  refine wpAny_bind (wpAny_tryCatch ?_)
  show wpAny _ A.in1 (Builtin.Dict.pairItems (.ref rows[i].a)) _ _ _
  unfold Builtin.Dict.pairItems
  refine wpAny_bind (wpAny_typeOf (T := "tuple") ⟨_,k1 _ _ n2 e1,e2⟩ ?_)
  rw[if_pos (by decide)]
  refine wpAny_bind (wpAny_seqItems (k1 _ _ n2 e1) e3 (wpAny_pure ?_))
  show wpAny _ A.in1 (holding [rows[i].key,rows[i].val] (dictSet d rows[i].key rows[i].val)) _ _ _
  have nk:rows[i].k∉((rows.take i).map λr=>(r.k,r.val)).map (·.1):=by
   rw[Zk]
   intro q
   obtain⟨r,aW,dM⟩:=Qk.mp q
   obtain⟨j,hj,ej⟩:=Qx aW
   rw[Zf]at hj
   rw[Ww]at ej
   have cc:j<rows.length:=by lia
   have:(rows.map (·.k))[j]'(by simpa using cc)=(rows.map (·.k))[i]'(by simpa using lt):=by
    rw[Zi,Zi,ej];exact dM
   have:=(Wq nd).mp this
   lia
  refine wpAny_holding (wpAny_dictSet_pairs (knd:=knd) e4 o9 (λg2 hd2 sb2=>?_) (by rw[Qa,Zf];lia))
  rw[stored_new nk]at hd2
  have me:g2.DictOf knd d ((rows.take (i+1)).map λr=>(r.k,r.val)):=by
   rw[Qo lt,Qs];exact hd2
  have k2:∀b o,b≠d→b≠I→s.heap.get? b=some o→g2.get? b=some o:=λb o fT dC e=>(sb2.2 b fT).trans (k1 b o dC e)
  have hc:((i:Int)+1)=((i+1:Nat):Int):=by push_cast;rfl
  refine wpAny_pure ⟨plainId_quiet zdz _,?_⟩
  rw[hc]
  refine ih (i+1) _ (by lia) lt ?_ ?_ (λr lv=>?_) me λg3 tk3 k3 rM=>?_
  ·obtain ⟨o,q,z⟩:=a7
   exact⟨o,(sb2.2 I (Zo rL)).trans q,z⟩
  ·obtain ⟨o,q,z⟩:=hl
   exact⟨o,k2 l o (Zo kl) hlI q,z⟩
  ·obtain ⟨q1,q2⟩:=hR r lv
   exact⟨k2 _ _ (hr r lv).1 (hr r lv).2 q1,q2⟩
  ·exact hQ g3 tk3 (λb o fT dC e=>k3 b o fT dC (k2 b o fT dC e)) rM
def call{l:Nc}{rows:List (Row K)}{Q:Na}{xk:Nat}(hh:A.handled=none)(hl:s.heap.get? l=some {cls:=.type "list",data:=.seq (rows.map λr=>Value.ref r.a).toArray xk})(hR:∀r∈rows,RowAt knd s.heap r)(nd:(rows.map (·.k)).Nodup)(hz:rows.length≤sizeLine)(h:∀g tk,g.DictOf knd s.heap.objs.size (rows.map λr=>(r.k,r.val))→(∀b o,s.heap.get? b=some o→g.get? b=some o)→Q (.ref s.heap.objs.size) {s with heap:=g,toks:=tk}) :
  wpAny (model prog w) A (call (.type "dict") [.ref l]) Q E s:=by
 refine callType_codes (Q₁:=λobj s₁=>obj=.ref s.heap.objs.size∧s₁={s with heap:=s.heap.push {cls:=.type "dict",data:=.dict #[]}}) PySem.F.kt_called_dict (PySem.F.kt_typeCall_dict_1 _) PySem.F.entry_dict_init (kt_code_dict_new _ ⟨rfl,rfl⟩) ?_
 rintro obj s₁ ⟨rfl,rfl⟩
 have cr:(s.heap.push {cls:=.type "dict",data:=.dict #[]}).DictOf knd s.heap.objs.size []:=Heap.DictOf.new s.heap
 refine⟨cr.typeIs,PySem.F.args_dict_init_2 _ _,?_⟩
 unfold Builtin.«dict.__init__»
 refine wpAny_bind ?_
 unfold Builtin.Dict.selfAndRest
 refine wpAny_bind (wpAny_notOrdered_dict cr.typeIs (show wpAny _ _ (pure (s.heap.objs.size,[Value.ref l])) _ _ _ from wpAny_pure ?_))
 show wpAny _ _ (Builtin.Dict.updateFrom "dict.__init__" s.heap.objs.size (.ref l) [] .none) _ _ _
 unfold Builtin.Dict.updateFrom
 have bx:(s.heap.push {cls:=.type "dict",data:=.dict #[]}).get? l=some {cls:=.type "list",data:=.seq (rows.map λr=>Value.ref r.a).toArray xk}:=Qi _ hl
 refine wpAny_bind (wpAny_typeOf (T := "list") ⟨_,bx,rfl⟩ ?_)
 rw[if_pos (by decide)]
 refine wpAny_bind (no_keys bx (by first | exact hh | (show A.handled=none;exact hh)) λg tk kg=>?_)
 simp only[Option.isNone_none,if_true]
 refine wpAny_bind (wpAny_rule ?_)
 have ltl:l<s.heap.objs.size:=Qz hl
 have dg:g.DictOf knd s.heap.objs.size []:=by
  obtain⟨o,es,ep,q,z⟩:=cr
  exact⟨o,es,ep,kg _ _ q,z⟩
 have hlg:g.IsList l (rows.map λr=>Value.ref r.a).toArray:=⟨_,kg _ _ bx,rfl,xk,rfl⟩
 have ltd:s.heap.objs.size<g.objs.size:=by
  obtain⟨o,es,ep,q,z⟩:=dg
  exact Qz q
 have lts:∀b o,s.heap.get? b=some o→b≠s.heap.objs.size∧b≠g.objs.size:=λb o e=>⟨Zr (Qz e),Zr (Wu (Qz e) ltd)⟩
 refine wpAny_bind (wpAny_pyIter_list (s:={s with heap:=g,toks:=tk}) hlg (wpAny_pure ⟨plainId_quiet zdz _,?_⟩))
 refine loop (knd:=knd) (I:=g.objs.size) (l:=l) (by first | exact hh | (show A.handled=none;exact hh)) rows s.heap.objs.size (Zr ltd) (Wk ltl) (Zr (Wu ltl ltd)) (λr hr=>lts r.a r.o (hR r hr).1) nd hz _ 0 _ rfl (Zn _) ⟨_,Zd _ rfl,rfl,rfl⟩ ?_ (λr hr=>?_) ?_ λg2 n6 k2 hd=>?_
 ·obtain ⟨o,q,z⟩:=hlg
  exact⟨o,Qi _ q,z⟩
 ·obtain ⟨q1,q2⟩:=hR r hr
  exact⟨Qi _ (kg _ _ (Qi _ q1)),q2⟩
 ·exact dg.push _
 ·exact⟨rfl,h g2 n6 hd λb o e=>k2 b o (lts b o e).1 (lts b o e).2 (Qi _ (kg _ _ (Qi _ e)))⟩
end
end DictR
end
section
namespace L2
open PySem PySem.Spec PyProof.Rows
section
variable{X:Cx}
abbrev RowsAt(H:Hp):List Addr→List (Str×V)→Prop:=Paired λa p=>H a=some (.tup [.str p.1,p.2])
theorem rows_of(I:Inv X a6 σ H s):∀{as:Nk} {ps:List (Str×V)},RowsAt H as ps →
  ∃rows:List (DictR.Row Key),rows.map (·.a)=as∧(∀r∈rows,DictR.RowAt (zar X.prog X.w) s.heap r)∧rows.map (·.k)=ps.map (λp=>Sum.inr p.1)∧KV (ps.map λp=>((Sum.inr p.1:Key),p.2)) (rows.map λr=>(r.k,r.val))
 |_,_,.nil=>⟨[],rfl,λr hr=>(by cases hr),rfl,.nil⟩
 | a::as,p::ps,.cons h t=>by
  obtain⟨rows,e1,e2,e3,e4⟩:=rows_of I t
  obtain⟨_,a8,r,o,q,c,n,d⟩:=I.hok a _ h
  obtain⟨u,w',rfl,⟨tk,rfl⟩,rz⟩:=vals2 r
  refine⟨⟨a,o,Sum.inr p.1,.str p.1 tk,w',n⟩::rows,by rw[Qj,e1],λx hx=>?_,by rw[Qj,Qj,e3],.cons ⟨rfl,rz⟩ e4⟩
  rcases Qh.mp hx with z | z
  ·subst z
   exact⟨q,c,d,zgz _ _ _ _⟩
  ·exact e2 x z
def zd5(hc:X.calm=true):zce X (.type "dict") (fun xs H Q=>Ex3 fun (p:Nc) (as:Nk) (ps:List (Str×V))=>Aj5 (xs=[.ref p]) (H p=some (.lst (as.map V.ref))) (RowsAt H as ps) ((ps.map (·.1)).Nodup) (∀ l,H l=none→Q (.ref l) (upd H l (.dK (ps.map fun p=>((Sum.inr p.1:Key),p.2)))))):=by
 intro a6 s σ H xs us Q I r h
 obtain⟨p,as,ps,rfl,hp,hr,nd,q⟩:=h
 obtain⟨u,rfl,rx⟩:=vals1 r
 cases rx
 obtain⟨hz,a8,n,rv,hl,e⟩:=I.lstM hp
 obtain⟨rows,e1,e2,e3,e4⟩:=rows_of I hr
 have eits:a8=rows.map λr=>Value.ref r.a:=by
  have dE:=e1
  clear hz hl e hp e4 e3 e2 hr e1 q
  induction rows generalizing as a8 with
  |nil=>subst dE;cases rv;rfl
  | cons r rs ih =>
   cases as with
   |nil=>cases dE
   | cons a as =>
    rw[Qj]at dE rv
    injection dE with h1 h2
    cases rv with
    |cons r1 r2 =>
     cases r1
     rw[Qj,h1,ih _ _ r2 h2]
 subst eits
 have aa:rows.length≤sizeLine:=by rw[Qa]at hz hl;rw[Qa]at hl;exact zd1 ‹_› ‹_›
 have ndk:(rows.map (·.k)).Nodup:=by
  rw[e3,show(λp:Str×V=>(Sum.inr p.1:Key))=(Sum.inr:Str→Key)∘(λp:Str×V=>p.1) from rfl,←Zk]
  exact List.Pairwise.map _ (λa b z q=>z (Kg q)) nd
 refine DictR.call (knd:=zar X.prog X.w) (rows:=rows) (xk:=n) (I.ok.hd hc) e e2 ndk aa λg tk hd k=>?_
 have nS:(s.heap.objs.size==sysModules)=false:=beq_eq_false_iff_ne.mpr (Wk I.big)
 refine⟨.ref _,_,I.laid (t':=tk) k (Qf _) (show zbt X.prog X.w _ g _ (.dK _) from⟨?_,nS,_,e4,hd⟩),rfl,q _ (I.hok.fresh (Qf _))⟩
 have:=Zx e4
 rw[Qa,Qa]at this
 rw[Qa];omega
end
def ziv{prog:Nj}{w:Nl}{A:Nm}{s:Ng}{kx vx target iter:Expr}{ifs:Nq}{scope:Scope}{pos:Pos}{it:Value}{D:Nc}{env:Env}{R:Nv}(I:Nat→Shared→Prop)(turn:∀ n s,I n s→wpAny (model prog w) A (pyNext it) (fun r s₁=>match r with
   |none=>R (.ok .next) s₁
   | some v=>wpAny (model prog w) A (letOwnedTupleGo target it v) (fun _ s₁'=>wpAny (model prog w) A (assign target env v) (fun _ s₂ =>
     wpAny (model prog w) A (forIn ifs true λc r=>if r=true then do let ok ←isTrue c env (eval c env);pure (ForInStep.yield ok) else pure (ForInStep.yield r)) (λok s₃ =>
      if ok=true then wpAny (model prog w) A (eval kx env) (λkv s₄=>wpAny (model prog w) A (eval vx env) (λvv s₅ =>
       wpAny (model prog w) A (dictSet D kv vv) (λ_ s₆=>∃m,m<n∧I m s₆) (λ_ _=>False) s₅) (λ_ _=>False) s₄) (λ_ _=>False) s₃
      else ∃m,m<n∧I m s₃) (λ_ _=>False) s₂) (λ_ _=>False) s₁') (λ_ _=>False) s₁) (λ_ _=>False) s)(n:Nat)(h:I n s):codeAny (model prog w) A (.compLoop (.DictComp kx vx [⟨target,iter,ifs,0⟩] scope pos) 0 it (.ref D) env) R s:=by
 refine codeAny_loop rfl I (λn s hI=>?_) n h
 show wpAny _ A ((compTurn (.DictComp kx vx [⟨target,iter,ifs,0⟩] scope pos) 0 it (.ref D) env).onRaise (λx=>do noteFrame x env;theTreesLotGoes x)) _ _ s
 refine wpAny_noted ?_
 rw[compTurn_dict]
 refine wpAny_bind (wpAny_standAt (wpAny_bind (wpAny_mono (turn n s hI) (λr s₁ h₁=>?_) λ_ _ h'=>h'.elim)))
 cases r with
 |none=>exact wpAny_pure h₁
 | some v =>
  refine wpAny_bind (wpAny_mono h₁ (λ_ s₁' h₁'=>?_) λ_ _ h'=>h'.elim)
  refine wpAny_bind (wpAny_mono h₁' (λ_ s₂ h₂=>wpAny_bind (wpAny_mono h₂ (λok s₃ h₃=>?_) λ_ _ h'=>h'.elim)) λ_ _ h'=>h'.elim)
  cases ok with
  |false=>exact wpAny_pure ⟨rfl,h₃⟩
  |true =>
   exact wpAny_bind (wpAny_bind (wpAny_mono h₃ (λkv s₄ h₄=>wpAny_bind (wpAny_holding (wpAny_mono h₄ (λvv s₅ h₅=>wpAny_bind (wpAny_standAt (wpAny_holding (wpAny_mono h₅ (λ_ s₆ h₆=>wpAny_pure ⟨rfl,h₆⟩) λ_ _ h'=>h'.elim)))) λ_ _ h'=>h'.elim))) λ_ _ h'=>h'.elim))
section
variable{X:Cx}{sc:Scope}{M:Ni}{ix:Nu}{a6:Nd}{σ:St}{H:Hp}{s:Ng}
def rDC(g:TG)(tc:TT)(tk tv:TE)(Q:VK)(J:It)(τ:St)(H1:Hp):Prop:=∃W:Nat→Nat→List (Key×V)→St→Hp→Prop,(∃m,W 0 m [] τ H1)∧∀i m ys τ H,W i m ys τ H →
 (J.stop i H∧∀D,H D=none→Q (.ref D) (upd H D (.dK ys))) ∨
 (J.go i H∧ys.length<sizeLine∧∀x H',J.yld i H x H'→g x τ H' λ τ2 H2=>tc τ2 H2 λb H3=>if b=true then tk τ2 H3 λkv H4=>tv τ2 H4 λy H5=>∃k,kv=kV k∧∃m',m'<m∧W (i+1) m' (putK ys k y) τ2 H5 else ∃m',m'<m∧W (i+1) m' ys τ2 H3)
def tDC(ix:Nu)(wi:TI)(g:TG)(tc:TT)(tk tv:TE):TE:=λ σ H Q=>wi σ H λJ H1=>rDC g tc tk tv Q J (inner ix σ) H1
def dc_block{tg kx vx iter:Expr}{ifs:Nq}{pos:Pos}{g:TG}{tc:TT}{tk tv:TE}{fp:Nk}{it:Nc}{tn:Nat→Heap→Prop}{J:It}{Q:VK}{RR:Value→Addr→Result→Shared→Prop}{E:Na}(B:Blk X sc M ix)(hc:X.calm=true)(hg:∀C ex s H,PG (zdj X sc M C a6 ex s H) tg g)(ht:∀C ex s H,PTs (zdj X sc M C a6 ex s H) ifs tc)(hk:∀C ex s H,PE (zdj X sc M C a6 ex s H) kx tk)(he:∀C ex s H,PE (zdj X sc M C a6 ex s H) vx tv)(I:Inv X a6 σ H s)(T:Turn X.prog X.w X.K tg J fp it tn)(h0:tn 0 s.heap)(hf:∀b∈fp,FpOk X a6 H b)(q:rDC g tc tk tv Q J (inner ix σ) H)(mv:∀D C m ys H' s',Inv X a6 σ (upd H' D (.dK ys)) s'→Q (.ref D) (upd H' D (.dK ys))→s'.heap.Ns C m→upd H' D (.dK ys) C=none→s.heap.objs.size<C→RR (.ref D) C (.ok .next) s') :
  wpAny (model X.prog X.w) X.A newDict (λam s₃=>wpAny (model X.prog X.w) X.A (newFunctionEnv sc X.env.globals (clOf sc X.env) [] X.env.qual none .none (some X.env)) (λcenv s₄ =>
   codeAny (model X.prog X.w) X.A (.compStart (.DictComp kx vx [⟨tg,iter,ifs,0⟩] sc pos) 0 (.ref it) am {cenv with scope:=relabel sc X.env}) (RR am cenv.locals) s₄) E s₃) E s:=by
 refine wpAny_newObj_type (wpAny_newFunctionEnv B.nocell (by intro y hy;simp at hy) (λh₁ hns₁ hsb₁=>?_) B.kind)
 dsimp only at hns₁ hsb₁ ⊢
 generalize hD:s.heap.objs.size=D at hns₁ hsb₁ ⊢
 generalize i7:s.heap.push {cls:=.type "dict",dict:=none,data:=.dict #[]}=g2 at hns₁ hsb₁ ⊢
 have hC:g2.objs.size=D+1:=by rw[←i7,Uv,hD]
 have k2:∀b o,s.heap.get? b=some o→g2.get? b=some o:=λb o e=>by rw[←i7];exact Qi _ e
 have I3:Inv X a6 σ H {s with heap:=g2}:=I.kept (t':=s.toks) k2
 have HD:H D=none:=I.hok.fresh (by rw[hD];exact Qf _)
 have fD:FpOk X a6 H D:=I.fpOk (by rw[hD];exact Qf _) HD
 have D2:g2.get? D=some {cls:=.type "dict",dict:=none,data:=.dict #[]}:=by rw[←i7,←hD];exact Zd _ rfl
 have nS:(D==sysModules)=false:=beq_eq_false_iff_ne.mpr (by rw[←hD];exact Wk I.big)
 have k1:∀b o,g2.get? b=some o→h₁.get? b=some o:=λb o e=>by
  have hb:b≠g2.objs.size:=Zr (Qz e)
  exact(hsb₁.2 b hb).trans (Qi _ e)
 have DN:h₁.DictOf (zar X.prog X.w) D []:=by
  have q:g2.DictOf (zar X.prog X.w) D []:=by rw[←i7,←hD];exact Heap.DictOf.new s.heap
  obtain⟨o,es,ep,e,r⟩:=q
  exact⟨o,es,ep,k1 _ _ e,r⟩
 have fpx:∀b∈D::fp,FpOk X a6 H b:=λb hb=>by
  rcases Qh.mp hb with e | e
  ·rw[e];exact fD
  ·exact hf b e
 have fplt:∀b∈D::fp,b<g2.objs.size:=λb hb=>by
  rcases Qh.mp hb with e | e
  ·rw[e,hC];exact Wg _
  ·obtain ⟨o,q,_⟩:=T.obj _ _ h0 b e
   exact Qz (k2 b o q)
 have fpD:D∉fp:=λhm=>by
  obtain⟨o,q,_⟩:=T.obj _ _ h0 D hm
  have:=Qz q
  rw[hD]at this
  exact Wh _ this
 generalize aI:zdj X sc M g2.objs.size a6 (D::fp) {s with heap:=g2} H=Y
 have IY:Inv Y [] (inner ix σ) H {s with heap:=h₁,toks:=s.toks+([]:List (Str×Value)).length}:=by
  rw[←aI]
  exact inv_blk B I3 fpx fplt rfl hns₁ k1 rfl rfl
 have Yg:=aI▸hg g2.objs.size (D::fp) {s with heap:=g2} H
 have Yt:=aI▸ht g2.objs.size (D::fp) {s with heap:=g2} H
 have Yk:=aI▸hk g2.objs.size (D::fp) {s with heap:=g2} H
 have Ye:=aI▸he g2.objs.size (D::fp) {s with heap:=g2} H
 have eP:Y.prog=X.prog:=by rw[←aI];rfl
 have eW:Y.w=X.w:=by rw[←aI];rfl
 have eK:Y.K=X.K:=by rw[←aI];rfl
 have eA:Y.A=X.A:=by rw[←aI];rfl
 have eC:Y.calm=true:=by rw[←aI];exact hc
 have eE:Y.env=compEnvC sc (clOf sc X.env) g2.objs.size X.env:=by rw[←aI];rfl
 have eX:Y.xe=λ_ _=>False:=by rw[←aI];rfl
 have eEx:Y.ex=D::fp:=by rw[←aI];rfl
 have eFs:Y.fs=frs X.stack:=by rw[←aI];rfl
 have ePn:Y.pn=X.pn++a6:=by rw[←aI];rfl
 have eL:Y.env.locals=g2.objs.size:=by rw[eE];rfl
 have sx:Y.H₀=H:=by rw[←aI];rfl
 have mQ:Y.s₀={s with heap:=g2}:=by rw[←aI];rfl
 have fY:∀{H':Hp} {pl:Nd} {b:Nc},b∈D::fp→H' b=none→(∀p∈pl,p.1≠b)→FpOk Y pl H' b:=λ{H' pl b} hb hn hp=>by
  obtain⟨f0,f1,f2,f3,f4,f5⟩:=fpx b hb
  refine⟨hn,?_,?_,.inl (by rw[eEx];exact hb),IY.ok.exf b (by rw[eEx];exact hb) |>.2,λp dv=>?_⟩
  ·rw[eL];exact Zr (fplt b hb)
  ·rw [eFs]
   intro z
   rcases Qh.mp (I3.stkSub b z) with q | q
   ·exact f1 q
   ·exact f2 q
  ·rw [ePn] at dv
   rcases Qe.mp dv with z | z
   ·exact f5 p z
   ·exact hp p z
 obtain⟨W,⟨m0,w0⟩,turn⟩:=q
 have loop:∀ sN:Shared,sN={ s with heap:=h₁,toks:=s.toks+([]:List (Str×Value)).length } →
   codeAny (model X.prog X.w) X.A (.compLoop (.DictComp kx vx [⟨tg,iter,ifs,0⟩] sc pos) 0 (.ref it) (.ref D) (compEnvC sc (clOf sc X.env) g2.objs.size X.env)) (RR (.ref D) g2.objs.size) sN:=by
  rintro sN rfl
  refine ziv (λn s'=>Ex5 λi τ H' ys vs=>Aj7 (Inv Y [] τ H' s') (tn i s'.heap) (∀b∈D::fp,H' b=none) (s'.heap.DictOf (zar X.prog X.w) D vs) (KV ys vs) (ys.length≤sizeLine) (W i n ys τ H')) ?_ m0
   ⟨0,inner ix σ,H,[],[],IY,T.keep _ _ _ h0 λb _ o e=>k1 b o (k2 b o e),λb hb=>(fpx b hb).1,DN,.nil,Zn _,w0⟩
  rintro n s5 ⟨i,τ,H5,ys,vs,I5,t5,n5,dd5,v5,z5,w5⟩
  obtain⟨o5,jF,sw,d5,ow⟩:=id dd5
  have nc5:∀v,o5.data≠.cell v:=λv z=>by
   obtain⟨_,q,_⟩:=ow
   rw[q]at z;cases z
  have oD:∀b∈[D],∃o,s5.heap.get? b=some o∧∀v,o.data≠.cell v:=λb hb=>by
   rw[Qb.mp hb]
   exact⟨_,d5,nc5⟩
  have jK:Inv Y ([]++zcx [D] s5.heap) τ H5 s5:=I5.pinned (λb hb=>fY (by rw[Qb.mp hb];exact Qd) (n5 b (by rw[Qb.mp hb];exact Qd)) (by simp)) oD
  have pD:∀p∈zcx [D] s5.heap,p.1=D∧p.2=o5:=λp hp=>by
   obtain⟨e1,e2⟩:=zgs hp
   have dE:p.1=D:=Qb.mp e1
   rw[dE,d5]at e2
   exact⟨dE,(Qt e2).symm⟩
  have fN:∀{H':Hp},(∀b∈fp,H' b=none)→∀b∈fp,FpOk Y ([]++zcx [D] s5.heap) H' b:=λhn b hb=>fY (Qg _ hb) (hn b hb) λp hp z=>by
   rw[Jj]at hp
   rw[(pD p hp).1]at z
   exact fpD (z▸hb)
  rcases turn i n ys τ H5 w5 with⟨stop,qn⟩ | ⟨go,zl,step⟩
  ·have h6:=T.done Y eP eW eK eC i _ s5 τ H5 (fun _ _=>False) jK (fN fun b hb=>n5 b (Qg _ hb)) t5 stop
   rw[eA]at h6
   refine thn h6 λr s6 ⟨hr,I6⟩=>?_
   subst hr
   have d6:s6.heap.get? D=some o5:=by
    have hp:=zbw (fp:=[D]) (Qb.mpr rfl) d5
    exact(I6.pin (D,_) (Qp _ hp)).1
   have H5D:H5 D=none:=n5 D Qd
   obtain⟨mL,nL,_⟩:=I6.loc
   rw[eL]at nL
   have CD:g2.objs.size≠D:=by rw[hC];exact Nat.succ_ne_self _
   refine mv D _ mL ys H5 s6 ?_ (qn D H5D) nL ?_ (by rw[hC,hD];exact Wg _)
   ·have u6:=I6.base
    rw[eFs,eEx,sx,mQ]at u6
    refine I3.call' (ch:=D::fp) (I6.os.trans (by rw[mQ])) ⟨u6.keep,u6.slot,λb o e n hx=>?_,u6.there,λb xs e=>?_,λb o u e=>?_,λb ps e=>?_⟩ ?_ I6.bare λb hb=>?_
    ·rw[zaf (λz=>hx (by rw[z];exact Qd))];exact u6.free b o e n hx
    ·rw[zaf (zab e HD)];exact u6.tups b xs e
    ·rw[zaf (zab e HD)];exact u6.frzs b o u e
    ·rw[zaf (zab e HD)];exact u6.tbls b ps e
    ·have kR:=I6.hok
     rw[eP,eW]at kR
     intro b u e
     by_cases hb:b=D
     ·subst hb
      rw[zac]at e
      cases e
      exact⟨z5,nS,vs,v5,o5,jF,sw,d6,ow⟩
     ·rw [zaf hb] at e
      exact(kR b u e).stay (λc v _ q=>q) (λc q=>by rw[zaf (zab q H5D)];exact q) λc xs q=>by rw[zaf (zab q H5D)];exact q
    ·obtain ⟨f0,f1,f2,f3,f4,f5⟩:=fpx b hb
     exact⟨f3,f1,f4,f5⟩
   ·rw [zaf CD]
    have:=I6.free
    rw[eL]at this
    exact this
  ·have h6:=T.item Y eP eW eK eC i _ s5 τ H5 (fun _ _=>False) jK (fN fun b hb=>n5 b (Qg _ hb)) t5 go
   rw[eA]at h6
   refine thn h6 λr s6 ⟨u,hr,h7⟩=>?_
   subst hr
   refine thn h7 λ_ s7 ⟨x,H7,I7,r7,y7,t7,n7⟩=>?_
   have tw:=I7.pinned (fN n7) (T.obj _ _ t7)
   have h8:=Yg _ s7 τ H7 x u _ tw r7 (step x H7 y7)
   rw[eP,eW,eA,eX,eE]at h8
   refine thn h8 λ_ s8 ⟨τ8,H8,I8,q8⟩=>?_
   have h9:=Yt _ s8 τ8 H8 _ I8 q8
   rw[eP,eW,eA,eX,eE]at h9
   refine thn h9 λok s9 ⟨H9,I9,q9⟩=>?_
   have again:∀{τ':St} {H':Hp} {s':Ng},Inv Y (([]++zcx [D] s5.heap)++zcx fp s7.heap) τ' H' s'→s'.heap.get? D=some o5∧H' D=none∧tn (i+1) s'.heap∧∀b∈fp,H' b=none:=λ{τ' H' s'} I'=>by
    have pp:∀{b:Nc} {o:Obj},b∈fp→s7.heap.get? b=some o→s'.heap.get? b=some o∧H' b=none:=λ{b o} hb e =>
     let z:=I'.pin (b,o) (Qp _ (Qp _ (zbw hb e)))
     ⟨z.1,z.2.1⟩
    have hp:=zbw (fp:=[D]) (Qb.mpr rfl) d5
    have z:=I'.pin (D,_) (Qp _ (Qr _ hp))
    refine⟨z.1,z.2.1,T.keep _ _ _ t7 λb hb o e=>(pp hb e).1,λb hb=>?_⟩
    obtain⟨o,e,_⟩:=T.obj _ _ t7 b hb
    exact(pp hb e).2
   have drop:∀{pl:Nd} {τ':St} {H':Hp} {s':Ng},Inv Y pl τ' H' s'→Inv Y [] τ' H' s':=λI'=>I'.pins_of (by simp)
   cases ok with
   |false =>
    rw[if_neg (by decide)]at q9 ⊢
    obtain⟨m',hm,w9⟩:=q9
    obtain⟨d9,H9D,t9,n9⟩:=again I9
    exact⟨m',hm,i+1,τ8,H9,ys,vs,drop I9,t9,λb hb=>(Qh.mp hb).elim (λe=>e▸H9D) (n9 b),⟨o5,jF,sw,d9,ow⟩,v5,z5,w9⟩
   | true =>
    rw[if_pos rfl]at q9 ⊢
    have i8:=Yk _ s9 τ8 H9 _ I9 q9
    rw[eP,eW,eA,eX,eE]at i8
    refine thn i8 λkv ig ⟨kw,kG,oE,ng,q10⟩=>?_
    have on:=Ye _ ig τ8 kG _ oE q10
    rw[eP,eW,eA,eX,eE]at on
    refine thn on λy oI ⟨yv,H11,oC,r11,kk,ek,m',hm,w11⟩=>?_
    subst ek
    obtain⟨d11,H11D,t11,n11⟩:=again oC
    have sC:oI.heap.DictOf (zar X.prog X.w) D vs:=⟨o5,jF,sw,d11,ow⟩
    have jg:(zar X.prog X.w).is kk kv=true:=by
     cases kk with
     |inl i=>obtain⟨t,rfl⟩:=ng;exact keyIs_int i t
     |inr x=>obtain⟨t,rfl⟩:=ng;exact keyIs_str x t
    refine wpAny_dictSet_pairs (knd:=zar X.prog X.w) jg sC (λh' gD sb=>?_) (by rw[←Zx v5];assumption)
    have kkp:∀b o,b≠D→oI.heap.get? b=some o→h'.get? b=some o:=λb o hb e=>(sb.2 b hb).trans e
    obtain⟨g0,g1,g2',g3,g4,g5⟩:=fY (pl:=[]) (H':=H11) (b:=D) Qd H11D (by simp)
    have I12:=(drop oC).turned (h':=h') (t':=oI.toks+1) (it:=D) kkp H11D g1 g3 g4 g5
    refine⟨m',hm,i+1,τ8,H11,putK ys kk yv,stored vs kk y,I12,T.keep _ _ _ t11 λb hb o e=>kkp b o (λz=>fpD (z▸hb)) e,λb hb=>(Qh.mp hb).elim (λe=>e▸H11D) (n11 b),gD,v5.put kk r11,?_,w11⟩
    unfold putK
    split
    ·rw[Qa];exact z5
    ·rw[Ql,Jm];assumption
 exact codeAny_compStart_dict (loop _ rfl) (T.self _ 0 _ _ _ (T.keep _ _ _ h0 λb _ o e=>k1 b o (k2 b o e)) (loop _ rfl))
def ps_dc(hN:X.N.Nodup)(cI:X.N[i]?=some y)(hy:X.env.scope.names.lookup y=some .local)(B:Blk X sc M ix)(hc:X.calm=true)(hi:PI X tg iter wi)(hg:∀C a6 ex s H,PG (zdj X sc M C a6 ex s H) tg g)(ht:∀C a6 ex s H,PTs (zdj X sc M C a6 ex s H) ifs tc)(hk:∀C a6 ex s H,PE (zdj X sc M C a6 ex s H) kx tk)(he:∀C a6 ex s H,PE (zdj X sc M C a6 ex s H) vx tv)(pQ:swapsWith (.DictComp kx vx [⟨tg,iter,ifs,0⟩] sc pos) (some (.Name y py)) spos.line X.env=pure true)(hs:∀x,foldedSetIterable iter X.env x=pure x:=by intro _;rfl):PS X (.Assign [.Name y py] (.DictComp kx vx [⟨tg,iter,ifs,0⟩] sc pos) spos) (tAsg (tDC ix wi g tc tk tv) (gName i)):=by
 intro a6 s σ H D' I h
 rw[exec_Assign_Name_used _ _ _ _ pQ]
 refine wpAny_bind (wpAny_standAt (wpAny_bind ?_))
 show wpAny _ X.A (do let _ ←comprehension (.DictComp kx vx [⟨tg,iter,ifs,0⟩] sc pos) sc X.env _ newDict false (eval iter X.env) (some (assign (.Name y py) X.env))) _ _ s
 refine wpAny_bind (wpAny_mono (wpAny_comprehension_free (use:=some (assign (.Name y py) X.env)) (Q:=λ_ s'=>SP X a6 D' .next s') rfl hs (zcs (B.clos I)) B.kind B.names
  (thn (hi a6 s σ H _ I h) λv s1 h1=>thn h1 λitv s2 h2=>?_)) (λ_ s' hq=>wpAny_pure (wpAny_pure hq)) λ_ _ e=>e)
 obtain⟨it,fp,tn,J,H2,e,I2,T,av,f2,q⟩:=h2
 subst e
 refine dc_block (RR:=λam C=>compPost (model X.prog X.w) X.A X.xe (some (assign (.Name y py) X.env)) (λ_ s'=>SP X a6 D' .next s') am C) B hc (hg · a6) (ht · a6) (hk · a6) (he · a6) I2 T av f2 q ?_
 intro D C m ys H' s' I' q' hn hC ad
 show wpAny _ X.A (assign (.Name y py) X.env (.ref D)) _ _ s'
 refine wpAny_assign_Name (zgc I' hN cI (.inl hy) (v:=.ref D) rfl (λkK tz ⟨a,sb,ha⟩=>?_) (.inr hy))
 have aC:C≠a:=by
  rcases ha with z | z
  ·rw[z];exact Wk (Wu I2.lt ad)
  ·exact Wk (Wu (I2.cl_lt _ _ z) ad)
 have bd:=hn.sameBut sb aC
 exact⟨m,bd,λh' bm=>⟨_,_,tz.letgo bd hC I2.lt I2.cl_lt I2.pin_lt I2.sz ad bm,q'⟩⟩
end
section
variable{prog:Nj}{w:Nl}{A:Nm}{s:Ng}{elt tg1 it1 target iter:Expr}{ifs:Nq}{scope:Scope}{pos:Pos}{it am:Value}{env:Env}{R:Nv}
end
section
variable{X:Cx}{sc:Scope}{M:Ni}{ix:Nu}{a6:Nd}{σ:St}{H:Hp}{s:Ng}
end
end L2
end
section
namespace RawD
open PySem PyProof.Rows PySem.W
def At(h:Nn)(a:Nc)(es:Array DictEntry)(ep:Nat):Prop:=∃o,h.get? a=some o∧o.ExactDict∧o.data=.dict es ep
def At.typeIs{s:Ng}{a:Nc}{es:Array DictEntry}{ep:Nat}(x:At s.heap a es ep):s.TypeIs (.ref a) "dict" := let⟨o,e,c,_⟩:=x;⟨o,e,c.1⟩
def At.keep{h g:Nn}{a:Nc}{es:Array DictEntry}{ep:Nat}(x:At h a es ep)(k:∀o,h.get? a=some o→g.get? a=some o):At g a es ep:=let⟨o,e,r⟩:=x;⟨o,k _ e,r⟩
section
variable{prog:Nj}{w:Nl}{A:Nm}{E:Na}{s:Ng}{d:Nc}{es:Array DictEntry}{ep:Nat}
def iter{Q:Na}(nS:(d==sysModules)=false)(m:At s.heap d es ep)(q:Q (.ref s.heap.objs.size) {s with heap:=s.heap.push {cls:=.type "dict_keyiterator",data:=.fields #[.ref d,.int 0 0,.int es.size 0,.int ep 0]}}):wpAny (model prog w) A (pyIter (.ref d)) Q E s:=by
 obtain⟨o,ho,hc,hd⟩:=id m
 refine wpAny_pyIter_slot m.typeIs F.slot_dict_iter (wpAny_call_entry F.slot_dict_iter m.typeIs F.entry_dict_iter ?_ (F.args_dict_iter_1 _))
 unfold Builtin.«dict.__iter__»
 refine wpAny_bind ?_
 unfold Builtin.Dict.dictSlotNone
 refine wpAny_bind (wpAny_notOrdered_dict m.typeIs (show wpAny _ _ (pure (Value.ref d)) _ _ s from wpAny_pure ?_))
 show wpAny _ _ (Builtin.Dict.showsAll d >>= _) _ _ s
 unfold Builtin.Dict.showsAll
 rw[if_neg (by rw[nS];exact Zh)]
 refine wpAny_bind (wpAny_pure (wpAny_bind (wpAny_dictEntries ho hd (wpAny_bind (wpAny_dictEpoch ho hd ?_)))))
 refine wpAny_bind (wpAny_newObj_type (wpAny_pure ⟨_,rfl, "dict_keyiterator",_,⟨_,Zd _ rfl,rfl⟩,Um.lookup,?_⟩))
 simpa[rawInt] using q
def item{j:Nc}{i:Nat}{Q:Option Value→Shared→Prop}(st:s.heap.IsKeyIter j d i es.size ep)(m:At s.heap d es ep)(hi:i<es.size)(hQ:∀g,g.IsKeyIter j d (i+1) es.size ep→Heap.SameBut j s.heap g→Q (some es[i].key) {s with heap:=g}):wpAny (model prog w) A (pyNext (.ref j)) Q E s:=by
 obtain⟨o,ho,hc,hd⟩:=id st
 obtain⟨od,lG,aY,ju⟩:=id m
 unfold pyNext
 refine wpAny_bind (wpAny_attempt (wpAny_callSpecial?_slot (name:=Str.ofString "__next__") st.typeIs Um (wpAny_call_entry Um st.typeIs F.entry_dict_keyiterator_next ?_ (F.args_dict_keyiterator_next_1 _))))
 refine wpAny_bind (wpAny_pure (wpAny_bind (wpAny_bind ?_)))
 first | refine wpAny_bind (wpAny_typeNameOfWhole_keyiter st.typeIs (wpAny_pure ?_)) | refine wpAny_bind (wpAny_typeNameOf_keyiter st.typeIs (wpAny_pure ?_))
 refine wpAny_bind (wpAny_fieldsOf ho hd ?_)
 have iT:Builtin.Dict_items.ownsTuple "dict_keyiterator" = false:=by decide
 simp only[iT,Wo,if_false]
 show wpAny _ _ (if(Value.ref d==.none)=true then _ else _) _ _ s
 rw[if_neg (show ¬((Value.ref d==.none)=true) from Zh)]
 refine wpAny_bind (wpAny_pure (wpAny_bind (wpAny_dictEntries lG ju ?_)))
 rw[if_neg (by simp)]
 refine wpAny_bind (wpAny_pure (wpAny_bind (wpAny_dictEpoch lG ju ?_)))
 rw[if_neg (by simp)]
 refine wpAny_pure ?_
 simp only[show ¬((i:Int)<0) from by lia,if_false,Jr,Xi hi]
 refine wpAny_bind ?_
 first | refine wpAny_bind (wpAny_typeNameOfWhole_keyiter st.typeIs (wpAny_pure ?_)) | refine wpAny_bind (wpAny_typeNameOf_keyiter st.typeIs (wpAny_pure ?_))
 refine wpAny_bind (wpAny_isOneOf_keyiter st.typeIs ?_)
 show wpAny _ _ (setField (.ref j) 1 (rawInt ((i:Int)+1)) >>= _) _ _ s
 refine wpAny_bind (wpAny_setField ho hd (by simp) ?_)
 have a7:(s.heap.update j (Obj.mapFields (·.setIfInBounds 1 (rawInt ((i:Int)+1))))).IsKeyIter j d (i+1) es.size ep :=
  ⟨_,Heap.get?_update_self _ ho (Obj.isFreed_of_fields (Xq hd _)),(Obj.cls_mapFields ..).trans hc,by rw[Xq hd];simp[rawInt]⟩
 refine wpAny_bind (wpAny_holding (wpAny_bind (wpAny_isOneOf_keyiter (s:={s with heap:=s.heap.update j (Obj.mapFields (·.setIfInBounds 1 (rawInt ((i:Int)+1))))}) a7.typeIs ?_)))
 show wpAny _ _ (pure es[i].key) _ _ _
 exact wpAny_pure (wpAny_pure ⟨_,rfl,wpAny_pure (hQ _ a7 (Xm ..))⟩)
def done{j:Nc}{i:Nat}{Q:Option Value→Shared→Prop}(hh:A.handled=none)(st:s.heap.IsKeyIter j d i es.size ep)(m:At s.heap d es ep)(hi:es.size≤i)(hQ:∀g,Heap.ExtBut j s.heap g→Q none {s with heap:=g}):wpAny (model prog w) A (pyNext (.ref j)) Q E s:=by
 obtain⟨o,ho,hc,hd⟩:=id st
 obtain⟨od,lG,aY,ju⟩:=id m
 unfold pyNext
 refine wpAny_bind (wpAny_attempt (wpAny_callSpecial?_slot (name:=Str.ofString "__next__") st.typeIs Um (wpAny_call_entry Um st.typeIs F.entry_dict_keyiterator_next ?_ (F.args_dict_keyiterator_next_1 _))))
 refine wpAny_bind (wpAny_pure (wpAny_bind (wpAny_bind ?_)))
 first | refine wpAny_bind (wpAny_typeNameOfWhole_keyiter st.typeIs (wpAny_pure ?_)) | refine wpAny_bind (wpAny_typeNameOf_keyiter st.typeIs (wpAny_pure ?_))
 refine wpAny_bind (wpAny_fieldsOf ho hd ?_)
 have iT:Builtin.Dict_items.ownsTuple "dict_keyiterator" = false:=by decide
 simp only[iT,Wo,if_false]
 show wpAny _ _ (if(Value.ref d==.none)=true then _ else _) _ _ s
 rw[if_neg (show ¬((Value.ref d==.none)=true) from Zh)]
 refine wpAny_bind (wpAny_pure (wpAny_bind (wpAny_dictEntries lG ju ?_)))
 rw[if_neg (by simp)]
 refine wpAny_bind (wpAny_pure (wpAny_bind (wpAny_dictEpoch lG ju ?_)))
 rw[if_neg (by simp)]
 refine wpAny_pure ?_
 simp only[show ¬((i:Int)<0) from by lia,if_false,Jr,Array.getElem?_eq_none hi]
 refine wpAny_bind ?_
 first | refine wpAny_bind (wpAny_typeNameOfWhole_keyiter st.typeIs (wpAny_pure ?_)) | refine wpAny_bind (wpAny_typeNameOf_keyiter st.typeIs (wpAny_pure ?_))
 show wpAny _ _ (setField (.ref j) 0 .none >>= _) _ _ s
 refine wpAny_bind (wpAny_setField ho hd (by simp) ?_)
 show wpAny _ _ (newExc (.type "StopIteration") [] >>= _) _ _ _
 refine wpAny_bind ?_
 simp only[newExc,newTuple]
 refine wpAny_bind (wpAny_newObj_type (wpAny_bind (m:=firstArgMember _ _) (wpAny_of_eq (a:=Value.none) (by first | rfl | (simp only[firstArgMember];rfl)) (wpAny_newObj_type ?_ (by size_fits)))) (by size_fits))
 simp only[raiseNew]
 refine wpAny_bind (wpAny_handled ?_)
 first | rw[show A.in1.handled=none from hh] | rw[hh]
 refine wpAny_bind (wpAny_pure (wpAny_throw ?_))
 refine wpAny_bind (wpAny_isInstance (T := "StopIteration") (b:=true) ⟨_,Zd _ rfl,rfl⟩ isSubtype_stop ?_)
 exact wpAny_pure (hQ _ (((Xm ..).extBut.push _).push _))
theorem src(nS:(d==sysModules)=false):KdlSrc prog w "dict" d d es.size (λi v=>∃e,es[i]?=some e∧v=e.key) (λh=>At h d es ep) where
 type:=λ_ m=>m.typeIs
 there:=λ_ m=>let⟨_,e,_⟩:=m;⟨Qz e,Qz e⟩
 keep:=λ_ _ m k=>m.keep λo e=>k d (.inl rfl) o e
 notList:=by decide
 notTuple:=by decide
 hint:=λ_ _ _ _ m q=>kdl_hint_dict m.typeIs q
 iter:=λA s hh m=>by
  have lt:d<s.heap.objs.size:=let⟨_,e,_⟩:=m;Qz e
  refine⟨_,λi h=>h.IsKeyIter s.heap.objs.size d i es.size ep∧At h d es ep,λ_ _ q=>iter nS m q,?_,⟨_,Zd _ rfl,rfl,rfl⟩,m.keep λo e=>Qi _ e⟩
  exact
   {sub:=fun b hb=>by simp at hb;simp [hb]
    frame:=λi h g st k=>⟨st.1.at λo e=>k _ (by simp) o e,st.2.keep λo e=>k d (by simp) o e⟩
    item:=λi s' Q E hi st hQ=>item st.1 st.2 hi λg a b=>hQ _ g s'.toks ⟨_,Xi hi,rfl⟩ ⟨a,st.2.keep λo e=>(b.2 d (Zr lt)).trans e⟩ λc o hc e=>(b.2 c (λz=>hc (by simp[z]))).trans e
    done:=λs' Q E st hQ=>done hh st.1 st.2 (Qf _) λg a=>hQ g s'.toks λc o hc e=>a c o (λz=>hc (by simp[z])) e
    self:=λ_ _ _ _ st q=>wpAny_pyIter_keyiter st.1 q}
end
end RawD
namespace L2
open PySem PySem.Spec PyProof.Rows Tm
def kP(q:Str×Str):List Key:=[Sum.inr q.1,Sum.inr q.2]
abbrev zbf(H:Hp):List Addr→List (Str×Str)→Prop:=Paired λb r=>H b=some (.tup [.str r.1,.str r.2])
section
variable{X:Cx}
def zcm{α β:Type}{R:α→β→Prop}{as bZ:List α}(p:bZ.Perm as):∀{bs:List β},Paired R as bs→∃fV,fV.Perm bs∧Paired R bZ fV:=by
 induction p with
 |nil=>intro bs r;cases r;exact⟨[],.nil,.nil⟩
 | cons x q ih =>
  intro bs r
  cases r with
  |cons r1 r2 =>
   obtain⟨zs,h1,h2⟩:=ih r2
   exact⟨_::zs,h1.cons _,.cons r1 h2⟩
 | swap x y l =>
  intro bs r
  cases r with
  |cons r1 r2 =>
   cases r2 with
   |cons r3 r4=>exact⟨_,List.Perm.swap ..,.cons r3 (.cons r1 r4)⟩
 |trans _ _ ih1 ih2 =>
  intro bs r
  obtain⟨zs,h1,h2⟩:=ih2 r
  obtain⟨cA,h3,h4⟩:=ih1 h2
  exact⟨cA,h3.trans h1,h4⟩
def pairs_mem{H:Hp}{as:Nk}{qs:No}(r:zbf H as qs){a:Nc}(ha:a∈as):∃r:Str×Str,H a=some (.tup [.str r.1,.str r.2]):=by
 induction r with
 |nil=>cases ha
 |cons h t ih =>
  rcases Qh.mp ha with zz | zz
  ·subst zz;exact⟨_,h⟩
  ·exact ih zz
end
end L2
end
section
namespace Tim
open PySem PyProof.Rows
def zhb:Bool→Keyed→Array Keyed→Nat→Nat→Nat→StateT SortSt Sem (Option Nat):=sortPriv% PySem.Builtin.gallop
def zer:Array Keyed→Array Keyed→StateT SortSt Sem (Array Keyed):=sortPriv% PySem.Builtin.mergeLo
def zes:Array Keyed→Array Keyed→StateT SortSt Sem (Array Keyed):=sortPriv% PySem.Builtin.mergeHi
section
variable{prog:Nj}{w:Nl}{A:Nm}{E:Na}{s:Ng}{kd:SortKind}{O:KeyOrd}{key:Keyed→O.α}{a₀:Array Keyed}
def Cmp(prog:Nj)(w:Nl)(A:Nm)(E:Na)(s:Ng)(kd:SortKind)(O:KeyOrd)(key:Keyed→O.α)(a₀:Array Keyed):Prop :=
 ∀(x y:Keyed) (st:SortSt) (Q:Option Bool→SortSt→Prop),x∈a₀.toList→y∈a₀.toList→kindOf st=kd→Q (some (O.blt (key x) (key y))) st→wpS (model prog w) A E s (lt' x y) Q st
def gk(O:KeyOrd)(key:Keyed→O.α)(xs:Array Keyed)(i:Nat):O.α:=match xs[i]? with
 |some p=>key p
 |none=>key (.none,.none)
def zfm{xs:Array Keyed}{i:Nat}{p:Keyed}(h:xs[i]?=some p):gk O key xs i=key p:=by unfold gk;rw[h]
def zey{xs ys:Array Keyed}{i j:Nat}(h:xs[i]?=ys[j]?):gk O key xs i=gk O key ys j:=by unfold gk;rw[h]
def Of(a₀ xs:Array Keyed):Prop:=∀(i:Nat) (p:Keyed),xs[i]?=some p→p∈a₀.toList
def zaz(O:KeyOrd)(key:Keyed→O.α)(left:Bool)(ky:Keyed)(arr:Array Keyed)(i:Nat):Bool:=if left=true then O.blt (gk O key arr i) (key ky) else !(O.blt (key ky) (gk O key arr i))
def zak{arr:Array Keyed}{i:Nat}{p:Keyed}{Q:Keyed→SortSt→Prop}{st:SortSt}(h:arr[i]?=some p)(q:Q p st):wpS (model prog w) A E s (elem' arr i) Q st:=by
 rw[elem'_eq,h];exact wpS_pure q
def zeg(left:Bool)(ky:Keyed)(arr:Array Keyed)(i:Nat):StateT SortSt Sem (Option Bool):=do
 let x ←elem' arr i
 if left=true then lt' x ky else do
  let r ←lt' ky x
  pure (r.map λz=>!z)
def ze9{left:Bool}{ky:Keyed}{arr:Array Keyed}{i:Nat}{Q:Option Bool→SortSt→Prop}{st:SortSt}(C:Cmp prog w A E s kd O key a₀)(hk:kindOf st=kd)(hO:Of a₀ arr)(hy:ky∈a₀.toList)(hi:i<arr.size)(q:Q (some (zaz O key left ky arr i)) st):wpS (model prog w) A E s (zeg left ky arr i) Q st:=by
 have e:=getElem?_pos arr i hi
 unfold zeg
 refine wpS_bind (zak e ?_)
 have m:=hO _ _ e
 unfold zaz at q
 rw[zfm e]at q
 cases left with
 |true=>exact C _ _ _ _ m hy hk q
 |false=>exact wpS_bind (C _ _ _ _ hy m hk (wpS_pure q))
def za6{left:Bool}{ky:Keyed}{arr:Array Keyed}{base n hint:Nat}{Q:Option Nat→SortSt→Prop}{st:SortSt}(C:Cmp prog w A E s kd O key a₀)(hk:kindOf st=kd)(hO:Of a₀ arr)(hy:ky∈a₀.toList)(hb:base+n≤arr.size)(hh:hint<n)(mono:∀i j,i≤j→j<n→zaz O key left ky arr (base+j)=true→zaz O key left ky arr (base+i)=true)(h:∀k,k≤n→(∀i,i<k→zaz O key left ky arr (base+i)=true)→(∀i,k≤i→i<n→zaz O key left ky arr (base+i)=false)→Q (some k) st) :
  wpS (model prog w) A E s (zhb left ky arr base n hint) Q st:=by
 generalize hP:(λi=>zaz O key left ky arr (base+i))=P
 have eP:∀i,zaz O key left ky arr (base+i)=P i:=λi=>by rw[←hP]
 simp only[eP]at mono h
 have ask:∀{i:Nat} {Q':Option Bool→SortSt→Prop},i<n→Q' (some (P i)) st→wpS (model prog w) A E s (zeg left ky arr (base+i)) Q' st:=λ{i Q'} hi q=>ze9 C hk hO hy (by exact zar2 ‹_› ‹_›) (by rw[eP];exact q)
 have anti:∀i j,i≤j→j<n→P i=false→P j=false:=λi j aX hj hi=>by
  cases e:P j with
  |false=>rfl
  |true=>rw[mono i j aX hj e]at hi;exact hi
 have last:∀(f:Nat→(Option (Option Nat)×Nat×Nat)→StateT SortSt Sem (ForInStep (Option (Option Nat)×Nat×Nat))) (lo hi:Nat),lo≤hi→hi≤n→(∀i,i<lo→P i=true)→(∀i,hi≤i→i<n→P i=false) →
   (∀x l r Q',l≥r→Q' (ForInStep.done (none,l,r)) st→wpS (model prog w) A E s (f x (none,l,r)) Q' st) →
   (∀x l r Q',¬l≥r→r≤n→(P (l+(r-l)/2)=true→Q' (ForInStep.yield (none,l+(r-l)/2+1,r)) st)→(P (l+(r-l)/2)=false→Q' (ForInStep.yield (none,l,l+(r-l)/2)) st)→wpS (model prog w) A E s (f x (none,l,r)) Q' st) →
   wpS (model prog w) A E s (forIn [:n] (none,lo,hi) f) (λc a7=>a7=st∧∃k,c=(none,k,k)∧k≤n∧(∀i,i<k→P i=true)∧(∀i,k≤i→i<n→P i=false)) st:=by
  intro f lo hi h1 h2 h3 h4 f1 f2
  refine wpS_forRange
   (I:=λx c a7=>Aj2 (a7=st) (Ex2 λl r=>Aj6 (c=(none,l,r)) (l≤r) (r≤n) (r-l≤n-x) (∀i,i<l→P i=true) (∀i,r≤i→i<n→P i=false))) ?step ?fin ?init
  case init=>exact⟨rfl,lo,hi,rfl,h1,h2,by omega,h3,h4⟩
  case fin =>
   rintro c a7 ⟨rfl,l,r,rfl,a1,a2,a3,a4,a5⟩
   have:l=r:=by omega
   subst this
   exact⟨rfl,l,rfl,a2,a4,a5⟩
  case step =>
   rintro x c a7 _ hx ⟨rfl,l,r,rfl,a1,a2,a3,a4,a5⟩
   by_cases aJ:l≥r
   ·refine f1 x l r _ aJ ?_
    have:l=r:=by exact Ji ‹_› ‹_›
    subst this
    exact⟨rfl,l,rfl,a2,a4,a5⟩
   ·refine f2 x l r _ aJ a2 (fun e=>?_) fun e=>?_
    ·exact⟨rfl,_,_,rfl,by omega,by assumption,by omega,λi hi=>mono i _ (by omega) (by omega) e,a5⟩
    ·exact⟨rfl,_,_,rfl,by exact Yd _ _,by omega,by omega,a4,λi g1 g2=>anti _ i g1 g2 e⟩
 unfold zhb
 refine wpS_bind (ask (i:=hint) hh ?_)
 cases e0:P hint with
 | true =>
  refine wpS_bind (wpS_mono (wpS_forRange
   (I:=λx c a7=>Aj2 (a7=st) (Ex2 λla of=>Aj5 (c=(none,la,of)) (P (hint+la)=true) (hint+la<n) (la<of) (x<of)))
   (Q:=λc a7=>Aj2 (a7=st) (Ex2 λla of=>Aj5 (c=(none,la,of)) (P (hint+la)=true) (hint+la<n) (la<of) ((n-hint≤of)∨(Aj2 (of<n-hint) (P (hint+of)=false))))) ?step ?fin ?init) ?post)
  case init=>exact⟨rfl,0,1,rfl,e0,hh,by exact Qf _,by exact Qf _⟩
  case fin =>
   rintro c a7 ⟨rfl,la,of,rfl,a1,a2,a3,a4⟩
   exact⟨rfl,la,of,rfl,a1,a2,a3,.inl (by omega)⟩
  case step =>
   rintro x c a7 _ hx ⟨rfl,la,of,rfl,a1,a2,a3,a4⟩
   dsimp only
   by_cases aJ:of≥n-hint
   ·rw [if_pos aJ]
    exact wpS_pure ⟨rfl,la,of,rfl,a1,a2,a3,.inl aJ⟩
   ·rw [if_neg aJ]
    refine wpS_bind (ask (i:=hint+of) (by omega) ?_)
    cases e:P (hint+of) with
    |true=>exact wpS_pure ⟨rfl,of,2*of+1,rfl,e,by omega,by omega,by omega⟩
    |false=>exact wpS_pure ⟨rfl,la,of,rfl,a1,a2,a3,.inr ⟨by omega,e⟩⟩
  case post =>
   rintro c a7 ⟨rfl,la,of,rfl,a1,a2,a3,a4⟩
   refine wpS_bind (wpS_mono (last _ (hint+la+1) (hint+min of (n-hint)) (by omega) (by omega) (λi hi=>mono i _ (by omega) a2 a1) ?_ ?_ ?_) ?_)
   ·intro i g1 g2
    rcases a4 with a4 | ⟨a4,a5⟩
    ·omega
    ·exact anti _ i (by omega) g2 a5
   ·intro x l r Q' aJ q
    dsimp only
    rw[if_pos aJ]
    exact wpS_pure q
   ·intro x l r Q' aJ hr q1 q2
    dsimp only
    rw[if_neg aJ]
    refine wpS_bind (ask (i:=l+(r-l)/2) (by omega) ?_)
    cases e:P (l+(r-l)/2) with
    |true=>exact wpS_pure (q1 e)
    |false=>exact wpS_pure (q2 e)
   ·rintro c a7 ⟨rfl,k,rfl,b1,b2,b3⟩
    exact wpS_pure (h k b1 b2 b3)
 | false =>
  refine wpS_bind (wpS_mono (wpS_forRange
   (I:=λx c a7=>Aj2 (a7=st) (Ex2 λla of=>Aj5 (c=(none,la,of)) (P (hint-la)=false) (la≤hint) (la<of) (x<of)))
   (Q:=λc a7=>Aj2 (a7=st) (Ex2 λla of=>Aj5 (c=(none,la,of)) (P (hint-la)=false) (la≤hint) (la<of) ((hint+1≤of)∨(Aj2 (of<hint+1) (P (hint-of)=true))))) ?step ?fin ?init) ?post)
  case init=>exact⟨rfl,0,1,rfl,e0,by exact Zn _,by exact Qf _,by exact Qf _⟩
  case fin =>
   rintro c a7 ⟨rfl,la,of,rfl,a1,a2,a3,a4⟩
   exact⟨rfl,la,of,rfl,a1,a2,a3,.inl (by omega)⟩
  case step =>
   rintro x c a7 _ hx ⟨rfl,la,of,rfl,a1,a2,a3,a4⟩
   dsimp only
   by_cases aJ:of≥hint+1
   ·rw [if_pos aJ]
    exact wpS_pure ⟨rfl,la,of,rfl,a1,a2,a3,.inl aJ⟩
   ·rw [if_neg aJ]
    refine wpS_bind (ask (i:=hint-of) (by omega) ?_)
    cases e:P (hint-of) with
    |true=>exact wpS_pure ⟨rfl,la,of,rfl,a1,a2,a3,.inr ⟨by omega,e⟩⟩
    |false=>exact wpS_pure ⟨rfl,of,2*of+1,rfl,e,by omega,by omega,by omega⟩
  case post =>
   rintro c a7 ⟨rfl,la,of,rfl,a1,a2,a3,a4⟩
   refine wpS_bind (wpS_mono (last _ (hint+1-min of (hint+1)) (hint-la) (by omega) (by omega) ?_ (λi g1 g2=>anti _ i g1 g2 a1) ?_ ?_) ?_)
   ·intro i hi
    rcases a4 with a4 | ⟨a4,a5⟩
    ·omega
    ·exact mono i _ (by omega) (by omega) a5
   ·intro x l r Q' aJ q
    dsimp only
    rw[if_pos aJ]
    exact wpS_pure q
   ·intro x l r Q' aJ hr q1 q2
    dsimp only
    rw[if_neg aJ]
    refine wpS_bind (ask (i:=l+(r-l)/2) (by omega) ?_)
    cases e:P (l+(r-l)/2) with
    |true=>exact wpS_pure (q1 e)
    |false=>exact wpS_pure (q2 e)
   ·rintro c a7 ⟨rfl,k,rfl,b1,b2,b3⟩
    exact wpS_pure (h k b1 b2 b3)
end
section
variable{σ α β:Type}{M:Model}{A:Nm}{E:Na}{s:Ng}{Q:α→σ→Prop}{st:σ}{c:Prop}[Decidable c]
def zb4{m:StateT σ Sem α}(h:∀Q0:α→σ→Prop,(∀r a7,Q r a7→Q0 r a7)→wpS M A E s m Q0 st):wpS M A E s m Q st:=h Q λ_ _ z=>z
def jp_if{f:Unit→β→StateT σ Sem α}{x y:β}(h:∀z,wpS M A E s (f () z) Q st):wpS M A E s (if c then f () x else f () y) Q st:=by
 split
 ·exact h _
 ·exact h _
def zal{x y:StateT σ Sem α}(h1:c→wpS M A E s x Q st)(h2:¬c→wpS M A E s y Q st):wpS M A E s (if c then x else y) Q st:=by
 split
 next z=>exact h1 z
 next z=>exact h2 z
end
section
variable{prog:Nj}{w:Nl}{A:Nm}{E:Na}{s:Ng}{kd:SortKind}{O:KeyOrd}{key:Keyed→O.α}{a₀:Array Keyed}
def le(O:KeyOrd)(key:Keyed→O.α)(x y:Keyed):Prop:=O.kle (key x) (key y)
structure Jn(O:KeyOrd)(key:Keyed→O.α)(all out ra rb:List Keyed):Prop where
 perm:(out++ra++rb).Perm all
 so:out.Pairwise (le O key)
 lo:∀x∈out,∀y,(y∈ra∨y∈rb)→le O key x y
 sa:ra.Pairwise (le O key)
 sb:rb.Pairwise (le O key)
variable{all out ra rb seg:List Keyed}
def Jn.appA(j:Jn O key all out (seg++ra) rb)(h:∀x∈seg,∀y∈rb,le O key x y):Jn O key all (out++seg) ra rb:=by
 obtain⟨s1,s2,s3⟩:=Ya.mp j.sa
 refine⟨?_,Ya.mpr ⟨j.so,s1,λx hx y hy=>j.lo x hx y (.inl (Qr _ hy))⟩,λx hx y hy=>?_,s2,j.sb⟩
 ·have:=j.perm;simpa[Qm] using this
 ·rcases Qe.mp hx with q | q
  ·rcases hy with z | z
   ·exact j.lo x q y (.inl (Qp _ z))
   ·exact j.lo x q y (.inr z)
  ·rcases hy with z | z
   ·exact s3 x q y z
   ·exact h x q y z
def Jn.appB(j:Jn O key all out ra (seg++rb))(h:∀x∈seg,∀y∈ra,le O key x y):Jn O key all (out++seg) ra rb:=by
 obtain⟨s1,s2,s3⟩:=Ya.mp j.sb
 refine⟨?_,Ya.mpr ⟨j.so,s1,λx hx y hy=>j.lo x hx y (.inr (Qr _ hy))⟩,λx hx y hy=>?_,j.sa,s2⟩
 ·have p1:(out++seg++ra++rb).Perm (out++ra++(seg++rb)):=by
   rw[Qm out seg,Qm out,Qm,Qm]
   refine Zv out ?_
   rw[←Qm,←Qm]
   exact Jg rb Yw
  exact p1.trans j.perm
 ·rcases Qe.mp hx with q | q
  ·rcases hy with z | z
   ·exact j.lo x q y (.inl z)
   ·exact j.lo x q y (.inr (Qp _ z))
  ·rcases hy with z | z
   ·exact h x q y z
   ·exact s3 x q y z
def Mg(O:KeyOrd)(key:Keyed→O.α)(all res:List Keyed):Prop:=res.Perm all∧res.Pairwise (le O key)
def Jn.finA(j:Jn O key all out ra []):Mg O key all (out++ra) :=
 ⟨by have:=j.perm;rwa[Zy]at this,Ya.mpr ⟨j.so,j.sa,λx hx y hy=>j.lo x hx y (.inl hy)⟩⟩
def Jn.finB(j:Jn O key all out [] rb):Mg O key all (out++rb) :=
 ⟨by have:=j.perm;rwa[Zy]at this,Ya.mpr ⟨j.so,j.sb,λx hx y hy=>j.lo x hx y (.inr hy)⟩⟩
def Jn.finL(j:Jn O key all out ra rb)(h:∀x∈rb,∀y∈ra,le O key x y):Mg O key all (out++rb++ra):=by
 refine⟨List.Perm.trans ?_ j.perm,Ya.mpr ⟨Ya.mpr ⟨j.so,j.sb,λx hx y hy=>j.lo x hx y (.inr hy)⟩,j.sa,λx hx y hy=>?_⟩⟩
 ·rw [Qm,Qm]
  exact Zv out Yw
 ·rcases Qe.mp hx with q | q
  ·exact j.lo x q y (.inl hy)
  ·exact h x q y hy
def zbp{a:Array Keyed}{i:Nat}(h:i<a.size):a.toList.drop i=a[i]::a.toList.drop (i+1):=by
 rw[Yc (by simpa using h)];simp
def zba{a:Array Keyed}{i:Nat}:(a.extract i a.size).toList=a.toList.drop i:=by
 have:(a.extract i a.size).toList=(a.toList.drop i).take (a.size-i):=by simp
 rw[this]
 exact Qv (by simp)
def zcr{a:Array Keyed}{i k:Nat}(h:i+k≤a.size):(a.extract i (i+k)).toList++a.toList.drop (i+k)=a.toList.drop i:=by
 have e:(a.extract i (i+k)).toList=(a.toList.drop i).take k:=by simp[List.take_drop]
 rw[e,←List.drop_drop]
 exact Zl _ _
def zbj{x y z:Keyed}(h1:le O key x y)(h2:le O key y z):le O key x z:=Yl h1 h2
def zdg{x y:Keyed}{l:List Keyed}(p:(x::l).Pairwise (le O key))(h:y∈x::l):le O key x y:=by
 rcases Qh.mp h with e | e
 ·rw[e];exact Wc _
 ·exact(Uc.mp p).1 y e
def Jn.pushB{a b:Array Keyed}{o:Array Keyed}{ia ib:Nat}(j:Jn O key all o.toList (a.toList.drop ia) (b.toList.drop ib))(h1:ia<a.size)(h2:ib<b.size)(h:le O key b[ib] a[ia]) :
  Jn O key all (o.push b[ib]).toList (a.toList.drop ia) (b.toList.drop (ib+1)):=by
 rw[Wt]
 rw[zbp h2]at j
 refine j.appB (seg:=[b[ib]]) λx hx y hy=>?_
 rw[Qb.mp hx]
 have p:=j.sa
 rw[zbp h1]at p hy
 exact zbj h (zdg p hy)
def Jn.pushA{a b:Array Keyed}{o:Array Keyed}{ia ib:Nat}(j:Jn O key all o.toList (a.toList.drop ia) (b.toList.drop ib))(h1:ia<a.size)(h2:ib<b.size)(h:le O key a[ia] b[ib]) :
  Jn O key all (o.push a[ia]).toList (a.toList.drop (ia+1)) (b.toList.drop ib):=by
 rw[Wt]
 rw[zbp h1]at j
 refine j.appA (seg:=[a[ia]]) λx hx y hy=>?_
 rw[Qb.mp hx]
 have p:=j.sb
 rw[zbp h2]at p hy
 exact zbj h (zdg p hy)
def zg0{a:Array Keyed}{i k:Nat}{x:Keyed}(h:i+k≤a.size)(hx:x∈(a.extract i (i+k)).toList):∃m,∃(hm:i+m<a.size),m<k∧x=a[i+m]:=by
 obtain⟨m,hm,e⟩:=Qx hx
 have hz:(a.extract i (i+k)).toList.length=k:=by simp;lia
 refine⟨m,by lia,by exact zar7 ‹_› ‹_›,?_⟩
 rw[←e]
 simp
def Jn.runA{a b:Array Keyed}{o:Array Keyed}{ia ib k:Nat}(j:Jn O key all o.toList (a.toList.drop ia) (b.toList.drop ib))(h1:ia+k≤a.size)(h2:ib<b.size)(h:∀m (hm:ia+m<a.size),m<k→le O key a[ia+m] b[ib]) :
  Jn O key all (o++a.extract ia (ia+k)).toList (a.toList.drop (ia+k)) (b.toList.drop ib):=by
 rw[Zc]
 rw[←zcr h1]at j
 refine j.appA λx hx y hy=>?_
 obtain⟨m,hm,j8,rfl⟩:=zg0 h1 hx
 have p:=j.sb
 rw[zbp h2]at p hy
 exact zbj (h m hm j8) (zdg p hy)
def Jn.runB{a b:Array Keyed}{o:Array Keyed}{ia ib k:Nat}(j:Jn O key all o.toList (a.toList.drop ia) (b.toList.drop ib))(h1:ib+k≤b.size)(h2:ia<a.size)(h:∀m (hm:ib+m<b.size),m<k→le O key b[ib+m] a[ia]) :
  Jn O key all (o++b.extract ib (ib+k)).toList (a.toList.drop ia) (b.toList.drop (ib+k)):=by
 rw[Zc]
 rw[←zcr h1]at j
 refine j.appB λx hx y hy=>?_
 obtain⟨m,hm,j8,rfl⟩:=zg0 h1 hx
 have p:=j.sa
 rw[zbp h2]at p hy
 exact zbj (h m hm j8) (zdg p hy)
def gk_at{xs:Array Keyed}{i:Nat}(h:i<xs.size):gk O key xs i=key xs[i]:=zfm (getElem?_pos xs i h)
def srt_get{xs:Array Keyed}(p:xs.toList.Pairwise (le O key)){i j:Nat}(aX:i≤j)(hj:j<xs.size):le O key (xs[i]'(We aX hj)) xs[j]:=by
 rcases Nat.lt_or_ge i j with h | h
 ·have:=Wr.mp p i j (by simpa using We aX hj) (by simpa using hj) h
  simpa using this
 ·have e:i=j:=by exact Ji ‹_› ‹_›
  subst e;exact Wc _
def zda{ky:Keyed}{xs:Array Keyed}{base n:Nat}(p:xs.toList.Pairwise (le O key))(hb:base+n≤xs.size):∀i j,i≤j→j<n→zaz O key false ky xs (base+j)=true→zaz O key false ky xs (base+i)=true:=by
 intro i j aX hj h
 unfold zaz at h ⊢
 rw[gk_at (by lia)]at h ⊢
 simp only[Wo,if_false,Wm]at h ⊢
 exact Yl (srt_get p (show base+i≤base+j by lia) (by exact zar2 ‹_› ‹_›)) (show O.kle _ _ from h)
def zdn{ky:Keyed}{xs:Array Keyed}{base n:Nat}(p:xs.toList.Pairwise (le O key))(hb:base+n≤xs.size):∀i j,i≤j→j<n→zaz O key true ky xs (base+j)=true→zaz O key true ky xs (base+i)=true:=by
 intro i j aX hj h
 unfold zaz at h ⊢
 rw[gk_at (by lia)]at h ⊢
 simp only[if_true]at h ⊢
 exact Kx (srt_get p (show base+i≤base+j by lia) (by exact zar2 ‹_› ‹_›)) h
def right_le{ky:Keyed}{xs:Array Keyed}{i:Nat}(h:i<xs.size)(e:zaz O key false ky xs i=true):le O key xs[i] ky:=by
 unfold zaz at e
 rw[gk_at h]at e
 simp only[Wo,if_false,Wm]at e
 exact e
def right_lt{ky:Keyed}{xs:Array Keyed}{i:Nat}(h:i<xs.size)(e:zaz O key false ky xs i=false):O.klt (key ky) (key xs[i]):=by
 unfold zaz at e
 rw[gk_at h]at e
 simp only[Wo,if_false,Kf]at e
 exact e
def left_lt{ky:Keyed}{xs:Array Keyed}{i:Nat}(h:i<xs.size)(e:zaz O key true ky xs i=true):O.klt (key xs[i]) (key ky):=by
 unfold zaz at e
 rw[gk_at h]at e
 simp only[if_true]at e
 exact e
def left_le{ky:Keyed}{xs:Array Keyed}{i:Nat}(h:i<xs.size)(e:zaz O key true ky xs i=false):le O key ky xs[i]:=by
 unfold zaz at e
 rw[gk_at h]at e
 simp only[if_true]at e
 exact e
def SG(st a7:SortSt):Prop:=∃g,a7=SortSt.mk' (kindOf st) (arrOf st) (pendingOf st) g (failedOf st)
def zd7{a b:Array Keyed}{Q:Array Keyed→SortSt→Prop}{st:SortSt}(C:Cmp prog w A E s kd O key a₀)(hk:kindOf st=kd)(oa:Of a₀ a)(ob:Of a₀ b)(sa:a.toList.Pairwise (le O key))(sb:b.toList.Pairwise (le O key))(ha:0<a.size)(hb:0<b.size)(h0:O.klt (key b[0]) (key a[0]))(hl:∀y∈b.toList,le O key y a[a.size-1])(h:∀(res:Array Keyed) (a7:SortSt),Mg O key (a.toList++b.toList) res.toList→SG st a7→Q res a7):wpS (model prog w) A E s (zer a b) Q st:=by
 have ia_:∀i (hi:i<a.size),a[i]∈a₀.toList:=λi hi=>oa i _ (getElem?_pos a i hi)
 have ib_:∀i (hi:i<b.size),b[i]∈a₀.toList:=λi hi=>ob i _ (getElem?_pos b i hi)
 have ea:∀i (hi:i<a.size),a[i]?=some a[i]:=λi hi=>getElem?_pos a i hi
 have eb:∀i (hi:i<b.size),b[i]?=some b[i]:=λi hi=>getElem?_pos b i hi
 have sgk:∀{a7},SG st a7→kindOf a7=kd:=λ⟨g,e⟩=>by rw[e];exact hk
 have endB:∀{o:Array Keyed} {i k:Nat},Jn O key (a.toList++b.toList) o.toList (a.toList.drop i) (b.toList.drop k)→k=b.size→Mg O key (a.toList++b.toList) (o++a.extract i++b.extract k).toList:=λ{o i k} j e=>by
  rw[Zc,Zc,zba,zba]
  have z:b.toList.drop k=[]:=by rw[e];simp
  rw[z]at j ⊢
  rw[Zy]
  exact j.finA
 have endA:∀{o:Array Keyed} {i k:Nat},Jn O key (a.toList++b.toList) o.toList (a.toList.drop i) (b.toList.drop k)→i=a.size→Mg O key (a.toList++b.toList) (o++a.extract i++b.extract k).toList:=λ{o i k} j e=>by
  rw[Zc,Zc,zba,zba]
  have z:a.toList.drop i=[]:=by rw[e];simp
  rw[z]at j ⊢
  rw[Zy]
  exact j.finB
 have endL:∀{o:Array Keyed} {i k:Nat},Jn O key (a.toList++b.toList) o.toList (a.toList.drop i) (b.toList.drop k)→i+1=a.size→Mg O key (a.toList++b.toList) (o++b.extract k++a.extract i).toList:=λ{o i k} j e=>by
  rw[Zc,Zc,zba,zba]
  refine j.finL λx hx y hy=>?_
  rw[zbp (by lia)]at hy
  have z:a.toList.drop (i+1)=[]:=by rw[e];simp
  rw[z]at hy
  rw[Qb.mp hy]
  have:=hl x (Wi hx)
  have e2:a.size-1=i:=by lia
  simp only[e2]at this
  exact this
 unfold zer
 refine wpS_bind (wpS_lift (wpAny_rule ⟨rfl,?_⟩))
 refine wpS_bind (zak (eb 0 hb) ?_)
 have j0:Jn O key (a.toList++b.toList) (#[b[0]]:Array Keyed).toList (a.toList.drop 0) (b.toList.drop 1):=by
  have j:Jn O key (a.toList++b.toList) (#[]:Array Keyed).toList (a.toList.drop 0) (b.toList.drop 0):=⟨by simp,List.Pairwise.nil,λx hx=>by simp at hx,sa,sb⟩
  exact j.pushB ha hb (Yi h0)
 by_cases c1:b.size=1
 ·rw [if_pos (by simp [c1])]
  exact wpS_pure (h _ _ (endB j0 c1.symm) ⟨_,rfl⟩)
 rw[if_neg (by simp;lia)]
 by_cases c2:a.size=1
 ·rw [if_pos (by simp [c2])]
  exact wpS_pure (h _ _ (endL j0 (by lia)) ⟨_,rfl⟩)
 rw[if_neg (by simp;lia)]
 refine wpS_bind (wpS_get ?_)
 refine wpS_bind (wpS_mono (wpS_forRange
  (I:=λx c a7=>Aj2 (SG st a7) (Ex4 λo i k g=>Aj5 (c=(none,o,i,k,g)) (i+1<a.size) (k<b.size) (Jn O key (a.toList++b.toList) o.toList (a.toList.drop i) (b.toList.drop k)) (x≤i+k)))
  (Q:=λc a7=>Aj2 (SG st a7) (Ex2 λres r=>Aj2 (c=(some res,r)) (Mg O key (a.toList++b.toList) res.toList))) ?step ?fin ?init) ?post)
 case init=>exact⟨⟨_,rfl⟩,_,0,1,_,rfl,by lia,by lia,j0,by exact Zn _⟩
 case fin =>
  rintro c a7 ⟨_,o,i,k,g,rfl,a1,a2,a3,a4⟩
  exfalso;lia
 case post =>
  rintro c a7 ⟨g,res,r,rfl,m⟩
  exact wpS_pure (h res a7 m g)
 case step =>
  rintro x c ap _ hx ⟨g1,o1,i1,k1,mg,rfl,a1,a2,a3,a4⟩
  dsimp -zeta only
  refine wpS_bind (wpS_mono (wpS_forRange
   (I:=λy c a7=>Aj2 (a7=ap) (Ex5 λo i k ac bc=>Aj5 (c=(none,o,i,k,ac,bc)) (i+1<a.size) (k<b.size) (Jn O key (a.toList++b.toList) o.toList (a.toList.drop i) (b.toList.drop k)) (i1+k1+y≤i+k)))
   (Q:=λc a7=>Aj2 (a7=ap) ((Ex2 λres r=>Aj2 (c=(some res,r)) (Mg O key (a.toList++b.toList) res.toList))∨(Ex5 λo i k ac bc=>Aj5 (c=(none,o,i,k,ac,bc)) (i+1<a.size) (k<b.size) (Jn O key (a.toList++b.toList) o.toList (a.toList.drop i) (b.toList.drop k)) (i1+k1<i+k)))) ?step1 ?fin1 ?init1) ?post1)
  case init1=>exact⟨rfl,o1,i1,k1,0,0,rfl,a1,a2,a3,by exact Qf _⟩
  case fin1 =>
   rintro c a7 ⟨_,o,i,k,ac,bc,rfl,b1,b2,b3,b4⟩
   exfalso;lia
  case step1 =>
   rintro y c av _ hy ⟨rfl,o,i,k,ac,bc,rfl,b1,b2,b3,b4⟩
   dsimp -zeta only
   refine wpS_bind (zak (eb k b2) (wpS_bind (zak (ea i (by exact Zt ‹_›)) (wpS_bind (C _ _ _ _ (ib_ k b2) (ia_ i (by exact Zt ‹_›)) (sgk g1) ?_)))))
   cases e:O.blt (key b[k]) (key (a[i]'(by exact Zt ‹_›))) with
   | true =>
    dsimp -zeta only
    rw[if_pos rfl]
    refine wpS_bind (zak (eb k b2) ?_)
    have j:=b3.pushB (by exact Zt ‹_›) b2 (Yi (show O.klt _ _ from e))
    by_cases d1:k+1=b.size
    ·rw [if_pos (by simp [d1])]
     exact wpS_pure ⟨rfl,.inl ⟨_,_,rfl,endB j d1⟩⟩
    ·rw [if_neg (by simp [d1])]
     by_cases d2:bc+1≥mg
     ·rw [if_pos d2]
      exact wpS_pure ⟨rfl,.inr ⟨_,i,k+1,_,_,rfl,b1,by exact zar5 ‹_› ‹_›,j,by lia⟩⟩
     ·rw [if_neg d2]
      exact wpS_pure ⟨rfl,_,i,k+1,_,_,rfl,b1,by exact zar5 ‹_› ‹_›,j,by exact zar4 ‹_›⟩
   | false =>
    dsimp -zeta only
    rw[if_neg (by simp)]
    refine wpS_bind (zak (ea i (by exact Zt ‹_›)) ?_)
    have j:=b3.pushA (by exact Zt ‹_›) b2 (show le O key _ _ from e)
    by_cases d1:i+1+1=a.size
    ·rw [if_pos (by simp [d1])]
     exact wpS_pure ⟨rfl,.inl ⟨_,_,rfl,endL j d1⟩⟩
    ·rw [if_neg (by simp [d1])]
     by_cases d2:ac+1≥mg
     ·rw [if_pos d2]
      exact wpS_pure ⟨rfl,.inr ⟨_,i+1,k,_,_,rfl,by exact zar5 ‹_› ‹_›,b2,j,by lia⟩⟩
     ·rw [if_neg d2]
      exact wpS_pure ⟨rfl,_,i+1,k,_,_,rfl,by exact zar5 ‹_› ‹_›,b2,j,by lia⟩
  case post1 =>
   rintro c av ⟨rfl,⟨res,r,rfl,m⟩ | ⟨o2,i2,k2,tq,sH,rfl,b1,b2,b3,b4⟩⟩
   ·exact wpS_pure ⟨g1,res,_,rfl,m⟩
   dsimp -zeta only
   refine wpS_bind (wpS_lift (wpAny_rule ⟨rfl,?_⟩))
   refine wpS_bind (wpS_mono (wpS_forRange
    (I:=λy c a7=>Aj2 (SG st a7) (Ex6 λo i k g ac bc=>Aj5 (c=(none,o,i,k,g,ac,bc)) (i+1<a.size) (k<b.size) (Jn O key (a.toList++b.toList) o.toList (a.toList.drop i) (b.toList.drop k)) (i2+k2≤i+k)))
    (Q:=λc a7=>Aj2 (SG st a7) ((Ex2 λres r=>Aj2 (c=(some res,r)) (Mg O key (a.toList++b.toList) res.toList))∨(Ex6 λo i k g ac bc=>Aj5 (c=(none,o,i,k,g,ac,bc)) (i+1<a.size) (k<b.size) (Jn O key (a.toList++b.toList) o.toList (a.toList.drop i) (b.toList.drop k)) (i2+k2≤i+k)))) ?step2 ?fin2 ?init2) ?post2)
   case init2=>exact⟨g1,o2,i2,k2,_,_,_,rfl,b1,b2,b3,Qf _⟩
   case fin2 =>
    rintro c a7 ⟨g,o,i,k,g',ac,bc,rfl,c1,c2,c3,c4⟩
    exact⟨g,.inr ⟨o,i,k,g',ac,bc,rfl,c1,c2,c3,c4⟩⟩
   case post2 =>
    rintro c ag ⟨g3,⟨res,r,rfl,m⟩ | ⟨o3,i3,k3,g',jJ,jH,rfl,c1,c2,c3,c4⟩⟩
    ·exact wpS_pure ⟨g3,res,_,rfl,m⟩
    dsimp -zeta only
    refine wpS_bind (wpS_modify ?_)
    obtain⟨gg,e3⟩:=g3
    exact wpS_pure ⟨⟨_,by rw[e3]⟩,o3,i3,k3,_,rfl,c1,c2,c3,by lia⟩
   case step2 =>
    rintro y c ag _ hy ⟨g3,o3,i3,k3,oU,jJ,jH,rfl,c1,c2,c3,c4⟩
    refine zb4 λQ0 aB=>?_
    dsimp -zeta only
    have sgm:∀g',SG st (SortSt.mk' (kindOf ag) (arrOf ag) (pendingOf ag) g' (failedOf ag)):=λg'=>by
     obtain⟨g,e⟩:=g3
     exact⟨g',by rw[e]⟩
    extract_lets -underBinder +onlyGivenNames s1 out s2 ia s3 ib s4 mn s5 ac bc jp
    refine jp_if (f:=jp) λm'=>?_
    refine wpS_bind (wpS_modify ?_)
    refine wpS_bind (zak (eb k3 c2) ?_)
    refine wpS_bind (za6 (base:=i3) (n:=a.size-i3) (hint:=0) C (sgk (sgm _)) oa (ib_ k3 c2) (by lia) (by lia) (zda sa (by lia)) λk q1 q2 q3=>?_)
    dsimp -zeta only
    have kT:∀hi:i3+k<a.size,O.klt (key b[k3]) (key a[i3+k]):=λhi=>right_lt hi (q3 k (Qf _) (by lia))
    have jr:=c3.runA (k:=k) (by lia) c2 λm hm j8=>right_le hm (q2 m j8)
    extract_lets -underBinder +onlyGivenNames ac' jp2
    have h2:∀(n':Nat) (o':Array Keyed) (f1:n'+1<a.size),i3≤n'→Jn O key (a.toList++b.toList) o'.toList (a.toList.drop n') (b.toList.drop k3)→O.klt (key b[k3]) (key (a[n']'(by exact Zt ‹_›)))→wpS (model prog w) A E s (jp2 () o' n') Q0 (SortSt.mk' (kindOf ag) (arrOf ag) (pendingOf ag) m' (failedOf ag)):=by
     intro n' o' f1 f2 fJ fl
     have f0:n'<a.size:=by exact Zt ‹_›
     refine wpS_bind (zak (eb k3 c2) ?_)
     have fK:=fJ.pushB f0 c2 (Yi fl)
     refine zal (λd=>?_) (λd=>?_)
     ·exact wpS_pure (aB _ _ ⟨sgm _,.inl ⟨_,_,rfl,endB fK (beq_iff_eq.mp d)⟩⟩)
     have d':¬k3+1=b.size:=λz=>d (beq_iff_eq.mpr z)
     refine wpS_bind (zak (ea n' f0) ?_)
     refine wpS_bind (za6 (base:=k3+1) (n:=b.size-(k3+1)) (hint:=0) C (sgk (sgm _)) ob (ia_ n' f0) (by lia) (by lia) (zdn sb (by lia)) λk' r1 r2 r3=>?_)
     dsimp -zeta only
     have js:=fK.runB (k:=k') (by lia) f0 λm hm j8=>Yi (left_lt hm (r2 m j8))
     have kU:=λhi:k3+1+k'<b.size=>left_le hi (r3 k' (Qf _) (by lia))
     extract_lets -underBinder +onlyGivenNames bc' jp3
     have h3:∀(m2:Nat) (o2:Array Keyed) (p1:m2<b.size),k3+1≤m2→Jn O key (a.toList++b.toList) o2.toList (a.toList.drop n') (b.toList.drop m2)→le O key a[n'] b[m2]→wpS (model prog w) A E s (jp3 () o2 m2) Q0 (SortSt.mk' (kindOf ag) (arrOf ag) (pendingOf ag) m' (failedOf ag)):=by
      intro m2 o2 p1 p2 pJ pl
      refine wpS_bind (zak (ea n' f0) ?_)
      have pK:=pJ.pushA f0 p1 pl
      refine zal (λd=>?_) (λd=>?_)
      ·exact wpS_pure (aB _ _ ⟨sgm _,.inl ⟨_,_,rfl,endL pK (beq_iff_eq.mp d)⟩⟩)
      have d2:¬n'+1+1=a.size:=λz=>d (beq_iff_eq.mpr z)
      refine zal (λ_=>?_) (λ_=>?_)
      ·exact wpS_pure (aB _ _ ⟨sgm _,.inr ⟨_,n'+1,m2,_,_,_,rfl,by exact zar5 ‹_› ‹_›,p1,pK,by lia⟩⟩)
      ·exact wpS_pure (aB _ _ ⟨sgm _,_,n'+1,m2,_,_,_,rfl,by exact zar5 ‹_› ‹_›,p1,pK,by lia⟩)
     refine zal (λkz=>?_) (λkz=>?_)
     ·refine zal (fun d4=>?_) (fun d4=>?_)
      ·exact wpS_pure (aB _ _ ⟨sgm _,.inl ⟨_,_,rfl,endB js (beq_iff_eq.mp d4)⟩⟩)
      have sD:¬k3+1+k'=b.size:=λz=>d4 (beq_iff_eq.mpr z)
      have p1:k3+1+k'<b.size:=by lia
      exact h3 (k3+1+k') _ p1 (Yd _ _) js (kU p1)
     ·have kW:k'=0:=Nat.eq_zero_of_not_pos kz
      have p1:k3+1<b.size:=by exact zar5 ‹_› ‹_›
      subst kW
      exact h3 (k3+1) _ p1 (Qf _) fK (kU p1)
    refine zal (λkz=>?_) (λkz=>?_)
    ·refine zal (fun d=>?_) (fun d=>?_)
     ·exact wpS_pure (aB _ _ ⟨sgm _,.inl ⟨_,_,rfl,endL jr (beq_iff_eq.mp d)⟩⟩)
     refine zal (λe=>?_) (λe=>?_)
     ·exact wpS_pure (aB _ _ ⟨sgm _,.inl ⟨_,_,rfl,endA jr (beq_iff_eq.mp e)⟩⟩)
     have d':¬i3+k+1=a.size:=λz=>d (beq_iff_eq.mpr z)
     have e':¬i3+k=a.size:=λz=>e (beq_iff_eq.mpr z)
     have f1:i3+k+1<a.size:=by lia
     exact h2 (i3+k) _ f1 (Yd _ _) jr (kT (by exact Zt ‹_›))
    ·have kW:k=0:=Nat.eq_zero_of_not_pos kz
     subst kW
     exact h2 i3 _ c1 (Qf _) c3 (kT (by exact Zt ‹_›))
end
def opp(O:KeyOrd):KeyOrd where
 α:=O.α
 blt:=λa b=>O.blt b a
 irrefl:=O.irrefl
 trans:=λa b c h1 h2=>O.trans c b a h2 h1
 negTrans:=λa b c h=>(O.negTrans c b a h).symm
 total:=λa b h1 h2=>O.total a b h2 h1
section
variable{prog:Nj}{w:Nl}{A:Nm}{E:Na}{s:Ng}{kd:SortKind}{O:KeyOrd}{key:Keyed→O.α}{a₀:Array Keyed}{all out ra rb:List Keyed}
def Jn.finM(j:Jn O key all out ra rb)(h:∀x∈ra,∀y∈rb,le O key x y):Mg O key all (out++ra++rb) :=
 ⟨j.perm,Ya.mpr ⟨Ya.mpr ⟨j.so,j.sa,fun x hx y hy=>j.lo x hx y (.inl hy)⟩,j.sb,fun x hx y hy=>by
  rcases Qe.mp hx with q | q
  ·exact j.lo x q y (.inr hy)
  ·exact h x q y hy⟩⟩
abbrev Jh(O:KeyOrd)(key:Keyed→O.α)(all:List Keyed)(o a b:Array Keyed)(na nb:Nat):Prop:=Jn (opp O) key all o.toList (a.toList.take na).reverse (b.toList.take nb).reverse
def Mg.flip{res:List Keyed}(m:Mg (opp O) key all res):Mg O key all res.reverse :=
 ⟨(Ud res).trans m.1,List.pairwise_reverse.mpr (m.2.imp λh=>h)⟩
def zdc{a:Array Keyed}{n:Nat}(h:n<a.size):(a.toList.take (n+1)).reverse=a[n]::(a.toList.take n).reverse:=by
 rw[List.take_add_one]
 have e:a.toList[n]?=some a[n]:=by simp[h]
 rw[e]
 simp
def rev_seg{a:Array Keyed}{i n:Nat}(hi:i≤n)(h:n≤a.size):(a.extract i n).toList.reverse++(a.toList.take i).reverse=(a.toList.take n).reverse:=by
 rw[←List.reverse_append]
 congr 1
 have e:(a.extract i n).toList=(a.toList.take n).drop i:=by simp[List.drop_take]
 rw[e]
 have e2:a.toList.take i=(a.toList.take n).take i:=by rw[List.take_take];congr 1;lia
 rw[e2]
 exact Zl _ _
def zbz{a:Array Keyed}{n:Nat}:(a.extract 0 n).toList=a.toList.take n:=by simp
variable{a b o:Array Keyed}{na nb:Nat}
def Jh.pushA(j:Jh O key all o a b (na+1) (nb+1))(h1:na<a.size)(h2:nb<b.size)(h:le O key b[nb] a[na]):Jh O key all (o.push a[na]) a b na (nb+1):=by
 show Jn _ _ _ _ _ _
 rw[Wt]
 have j':Jn (opp O) key all o.toList (a.toList.take (na+1)).reverse (b.toList.take (nb+1)).reverse:=j
 rw[zdc h1]at j'
 refine Jn.appA (seg:=[a[na]]) j' λx hx y hy=>?_
 rw[Qb.mp hx]
 have p:=j'.sb
 rw[zdc h2]at p hy
 exact zbj (O:=opp O) h (zdg p hy)
def Jh.pushB(j:Jh O key all o a b (na+1) (nb+1))(h1:na<a.size)(h2:nb<b.size)(h:le O key a[na] b[nb]):Jh O key all (o.push b[nb]) a b (na+1) nb:=by
 show Jn _ _ _ _ _ _
 rw[Wt]
 have j':Jn (opp O) key all o.toList (a.toList.take (na+1)).reverse (b.toList.take (nb+1)).reverse:=j
 rw[zdc h2]at j'
 refine Jn.appB (seg:=[b[nb]]) j' λx hx y hy=>?_
 rw[Qb.mp hx]
 have p:=j'.sa
 rw[zdc h1]at p hy
 exact zbj (O:=opp O) h (zdg p hy)
def mem_ext{a:Array Keyed}{i n:Nat}{x:Keyed}(h:n≤a.size)(hx:x∈(a.extract i n).toList.reverse):∃m,∃(hm:m<a.size),i≤m∧m<n∧x=a[m]:=by
 obtain⟨m,hm,e⟩:=Qx (Xt.mp hx)
 have hz:(a.extract i n).toList.length=n-i:=by simp;lia
 refine⟨i+m,by lia,by exact Yd _ _,by lia,?_⟩
 rw[←e]
 simp
def Jh.runA{at_:Nat}(j:Jh O key all o a b na (nb+1))(hi:at_≤na)(h1:na≤a.size)(h2:nb<b.size)(h:∀m (hm:m<a.size),at_≤m→m<na→le O key b[nb] a[m]):Jh O key all (o++(a.extract at_ na).reverse) a b at_ (nb+1):=by
 show Jn _ _ _ _ _ _
 rw[Zc,Wp]
 have j':Jn (opp O) key all o.toList (a.toList.take na).reverse (b.toList.take (nb+1)).reverse:=j
 rw[←rev_seg hi h1]at j'
 refine Jn.appA j' λx hx y hy=>?_
 obtain⟨m,hm,m1,m2,rfl⟩:=mem_ext h1 hx
 have p:=j'.sb
 rw[zdc h2]at p hy
 exact zbj (O:=opp O) (h m hm m1 m2) (zdg p hy)
def Jh.runB{at_:Nat}(j:Jh O key all o a b (na+1) nb)(hi:at_≤nb)(h1:nb≤b.size)(h2:na<a.size)(h:∀m (hm:m<b.size),at_≤m→m<nb→le O key a[na] b[m]):Jh O key all (o++(b.extract at_ nb).reverse) a b (na+1) at_:=by
 show Jn _ _ _ _ _ _
 rw[Zc,Wp]
 have j':Jn (opp O) key all o.toList (a.toList.take (na+1)).reverse (b.toList.take nb).reverse:=j
 rw[←rev_seg hi h1]at j'
 refine Jn.appB j' λx hx y hy=>?_
 obtain⟨m,hm,m1,m2,rfl⟩:=mem_ext h1 hx
 have p:=j'.sa
 rw[zdc h2]at p hy
 exact zbj (O:=opp O) (h m hm m1 m2) (zdg p hy)
def zd8{Q:Array Keyed→SortSt→Prop}{st:SortSt}(C:Cmp prog w A E s kd O key a₀)(hk:kindOf st=kd)(oa:Of a₀ a)(ob:Of a₀ b)(sa:a.toList.Pairwise (le O key))(sb:b.toList.Pairwise (le O key))(ha:0<a.size)(hb:0<b.size)(h0:O.klt (key b[0]) (key a[0]))(hl:∀y∈b.toList,le O key y a[a.size-1])(h:∀(res:Array Keyed) (a7:SortSt),Mg O key (a.toList++b.toList) res.toList→SG st a7→Q res a7):wpS (model prog w) A E s (zes a b) Q st:=by
 have ia_:∀i (hi:i<a.size),a[i]∈a₀.toList:=λi hi=>oa i _ (getElem?_pos a i hi)
 have ib_:∀i (hi:i<b.size),b[i]∈a₀.toList:=λi hi=>ob i _ (getElem?_pos b i hi)
 have ea:∀i (hi:i<a.size),a[i]?=some a[i]:=λi hi=>getElem?_pos a i hi
 have eb:∀i (hi:i<b.size),b[i]?=some b[i]:=λi hi=>getElem?_pos b i hi
 have sgk:∀{a7},SG st a7→kindOf a7=kd:=λ⟨g,e⟩=>by rw[e];exact hk
 have endA:∀{o:Array Keyed} {i k:Nat},Jh O key (a.toList++b.toList) o a b i k→i=0→Mg O key (a.toList++b.toList) (a.extract 0 i++b.extract 0 k++o.reverse).toList:=λ{o i k} j e=>by
  subst e
  have j':Jn (opp O) key (a.toList++b.toList) o.toList [] (b.toList.take k).reverse:=j
  have m:=j'.finB.flip
  rw[Zc,Zc,Wp,zbz,zbz]
  simpa using m
 have endB:∀{o:Array Keyed} {i k:Nat},Jh O key (a.toList++b.toList) o a b i k→k=0→Mg O key (a.toList++b.toList) (a.extract 0 i++b.extract 0 k++o.reverse).toList:=λ{o i k} j e=>by
  subst e
  have j':Jn (opp O) key (a.toList++b.toList) o.toList (a.toList.take i).reverse []:=j
  have m:=j'.finA.flip
  rw[Zc,Zc,Wp,zbz,zbz]
  simpa using m
 have endL:∀{o:Array Keyed} {i k:Nat},Jh O key (a.toList++b.toList) o a b i k→k=1→Mg O key (a.toList++b.toList) (b.extract 0 k++a.extract 0 i++o.reverse).toList:=λ{o i k} j e=>by
  subst e
  have m:=(Jn.finM j λx hx y hy=>?_).flip
  ·rw [Zc,Zc,Wp,zbz,zbz]
   simpa using m
  ·rw [zdc hb] at hy
   simp only[List.take_zero,List.reverse_nil,Qb]at hy
   rw[hy]
   have cg:x∈a.toList:=Wd (Xt.mp hx)
   have e0:a.toList=a[0]::a.toList.drop 1:=by have:=zbp (a:=a) ha;simpa using this
   rw[e0]at cg sa
   exact Yl (O:=O) (Yi h0) (zdg sa cg)
 obtain⟨n0,hn0⟩:∃n0,a.size=n0+1:=⟨a.size-1,by lia⟩
 obtain⟨m0,eO⟩:∃m0,b.size=m0+1:=⟨b.size-1,by lia⟩
 have bM:n0<a.size:=by lia
 have eN:m0<b.size:=by lia
 have j0:Jh O key (a.toList++b.toList) (#[a[n0]]:Array Keyed) a b n0 b.size:=by
  have j:Jh O key (a.toList++b.toList) (#[]:Array Keyed) a b (n0+1) (m0+1):=by
   have e1:a.toList.take (n0+1)=a.toList:=Qv (by simp;lia)
   have e2:b.toList.take (m0+1)=b.toList:=Qv (by simp;lia)
   show Jn _ _ _ _ _ _
   rw[e1,e2]
   exact⟨by simpa using List.Perm.append (Ud _) (Ud _),List.Pairwise.nil,λx hx=>by simp at hx,List.pairwise_reverse.mpr (sa.imp λh=>h),List.pairwise_reverse.mpr (sb.imp λh=>h)⟩
  rw[eO]
  refine j.pushA bM eN ?_
  have:=hl b[m0] (by simp)
  have e2:a.size-1=n0:=by lia
  simp only[e2]at this
  exact this
 unfold zes
 refine wpS_bind (wpS_lift (wpAny_rule ⟨rfl,?_⟩))
 have e2:a.size-1=n0:=by lia
 simp -zeta only [e2]
 refine wpS_bind (zak (ea n0 bM) ?_)
 by_cases c1:n0=0
 ·rw [if_pos (by simp [c1])]
  exact wpS_pure (h _ _ (endA j0 c1) ⟨_,rfl⟩)
 rw[if_neg (by simp[c1])]
 by_cases c2:b.size=1
 ·rw [if_pos (by simp [c2])]
  exact wpS_pure (h _ _ (endL j0 c2) ⟨_,rfl⟩)
 rw[if_neg (by simp[c2])]
 refine wpS_bind (wpS_get ?_)
 obtain⟨n1,rfl⟩:∃n1,n0=n1+1:=⟨n0-1,by exact zar14 ‹_›⟩
 obtain⟨m1,bg⟩:∃m1,b.size=m1+1+1:=⟨b.size-2,by lia⟩
 rw[show b.size=m1+1+1 from bg]at j0
 refine wpS_bind (wpS_mono (wpS_forRange
  (I:=λx c a7=>Aj2 (SG st a7) (Ex4 λo i k g=>Aj5 (c=(none,i+1,k+1+1,o,g)) (i<a.size) (k+1<b.size) (Jh O key (a.toList++b.toList) o a b (i+1) (k+1+1)) (i+k+x+4≤a.size+b.size)))
  (Q:=λc a7=>Aj2 (SG st a7) (Ex2 λres r=>Aj2 (c=(some res,r)) (Mg O key (a.toList++b.toList) res.toList))) ?step ?fin ?init) ?post)
 case init=>exact⟨⟨_,rfl⟩,_,n1,m1,_,by rw[bg],by exact Zt ‹_›,by lia,j0,by lia⟩
 case fin =>
  rintro c a7 ⟨_,o,i,k,g,rfl,a1,a2,a3,a4⟩
  exfalso;lia
 case post =>
  rintro c a7 ⟨g,res,r,rfl,m⟩
  exact wpS_pure (h res a7 m g)
 case step =>
  rintro x c ap _ hx ⟨g1,o1,i1,k1,mg,rfl,a1,a2,a3,a4⟩
  dsimp -zeta only
  refine wpS_bind (wpS_mono (wpS_forRange
   (I:=λy c a7=>Aj2 (a7=ap) (Ex5 λo i k ac bc=>Aj5 (c=(none,i+1,k+1+1,o,ac,bc)) (i<a.size) (k+1<b.size) (Jh O key (a.toList++b.toList) o a b (i+1) (k+1+1)) (i+k+y≤i1+k1)))
   (Q:=λc a7=>Aj2 (a7=ap) ((Ex2 λres r=>Aj2 (c=(some res,r)) (Mg O key (a.toList++b.toList) res.toList))∨(Ex5 λo i k ac bc=>Aj5 (c=(none,i+1,k+1+1,o,ac,bc)) (i<a.size) (k+1<b.size) (Jh O key (a.toList++b.toList) o a b (i+1) (k+1+1)) (i+k<i1+k1)))) ?step1 ?fin1 ?init1) ?post1)
  case init1=>exact⟨rfl,o1,i1,k1,0,0,rfl,a1,a2,a3,by exact Qf _⟩
  case fin1 =>
   rintro c a7 ⟨_,o,i,k,ac,bc,rfl,b1,b2,b3,b4⟩
   exfalso;lia
  case step1 =>
   rintro y c av _ hy ⟨rfl,o,i,k,ac,bc,rfl,b1,b2,b3,b4⟩
   dsimp -zeta only
   simp only[Nat.add_sub_cancel]
   refine wpS_bind (zak (eb (k+1) b2) (wpS_bind (zak (ea i b1) (wpS_bind (C _ _ _ _ (ib_ (k+1) b2) (ia_ i b1) (sgk g1) ?_)))))
   cases e:O.blt (key b[k+1]) (key a[i]) with
   | true =>
    dsimp -zeta only
    rw[if_pos rfl]
    refine wpS_bind (zak (ea i b1) ?_)
    have j:=b3.pushA b1 b2 (Yi (show O.klt _ _ from e))
    by_cases d1:i=0
    ·rw [if_pos (by simp [d1])]
     exact wpS_pure ⟨rfl,.inl ⟨_,_,rfl,endA j d1⟩⟩
    ·rw [if_neg (by simp [d1])]
     obtain⟨i',rfl⟩:∃i',i=i'+1:=⟨i-1,by exact zar14 ‹_›⟩
     by_cases d2:ac+1≥mg
     ·rw [if_pos d2]
      exact wpS_pure ⟨rfl,.inr ⟨_,i',k,_,_,rfl,by exact Zt ‹_›,b2,j,by lia⟩⟩
     ·rw [if_neg d2]
      exact wpS_pure ⟨rfl,_,i',k,_,_,rfl,by exact Zt ‹_›,b2,j,by lia⟩
   | false =>
    dsimp -zeta only
    rw[if_neg (by simp)]
    refine wpS_bind (zak (eb (k+1) b2) ?_)
    have j:=b3.pushB b1 b2 (show le O key _ _ from e)
    by_cases d1:k+1=1
    ·rw [if_pos (by simpa using d1)]
     exact wpS_pure ⟨rfl,.inl ⟨_,_,rfl,endL j d1⟩⟩
    ·rw [if_neg (by simpa using d1)]
     obtain⟨k',rfl⟩:∃k',k=k'+1:=⟨k-1,by lia⟩
     by_cases d2:bc+1≥mg
     ·rw [if_pos d2]
      exact wpS_pure ⟨rfl,.inr ⟨_,i,k',_,_,rfl,b1,by exact Zt ‹_›,j,by lia⟩⟩
     ·rw [if_neg d2]
      exact wpS_pure ⟨rfl,_,i,k',_,_,rfl,b1,by exact Zt ‹_›,j,by lia⟩
  case post1 =>
   rintro c av ⟨rfl,⟨res,r,rfl,m⟩ | ⟨o2,i2,k2,tq,sH,rfl,b1,b2,b3,b4⟩⟩
   ·exact wpS_pure ⟨g1,res,_,rfl,m⟩
   dsimp -zeta only
   refine wpS_bind (wpS_lift (wpAny_rule ⟨rfl,?_⟩))
   refine wpS_bind (wpS_mono (wpS_forRange
    (I:=λy c a7=>Aj2 (SG st a7) (Ex6 λo i k g ac bc=>Aj5 (c=(none,i+1,k+1+1,o,g,ac,bc)) (i<a.size) (k+1<b.size) (Jh O key (a.toList++b.toList) o a b (i+1) (k+1+1)) (i+k≤i2+k2)))
    (Q:=λc a7=>Aj2 (SG st a7) ((Ex2 λres r=>Aj2 (c=(some res,r)) (Mg O key (a.toList++b.toList) res.toList))∨(Ex6 λo i k g ac bc=>Aj5 (c=(none,i+1,k+1+1,o,g,ac,bc)) (i<a.size) (k+1<b.size) (Jh O key (a.toList++b.toList) o a b (i+1) (k+1+1)) (i+k≤i2+k2)))) ?step2 ?fin2 ?init2) ?post2)
   case init2=>exact⟨g1,o2,i2,k2,_,_,_,rfl,b1,b2,b3,Qf _⟩
   case fin2 =>
    rintro c a7 ⟨g,o,i,k,g',ac,bc,rfl,c1,c2,c3,c4⟩
    exact⟨g,.inr ⟨o,i,k,g',ac,bc,rfl,c1,c2,c3,c4⟩⟩
   case post2 =>
    rintro c ag ⟨g3,⟨res,r,rfl,m⟩ | ⟨o3,i3,k3,g',jJ,jH,rfl,c1,c2,c3,c4⟩⟩
    ·exact wpS_pure ⟨g3,res,_,rfl,m⟩
    dsimp -zeta only
    refine wpS_bind (wpS_modify ?_)
    obtain⟨gg,e3⟩:=g3
    exact wpS_pure ⟨⟨_,by rw[e3]⟩,o3,i3,k3,_,rfl,c1,c2,c3,by lia⟩
   case step2 =>
    rintro y c ag _ hy ⟨g3,o3,i3,k3,oU,jJ,jH,rfl,c1,c2,c3,c4⟩
    refine zb4 λQ0 aB=>?_
    dsimp -zeta only
    have sgm:∀g',SG st (SortSt.mk' (kindOf ag) (arrOf ag) (pendingOf ag) g' (failedOf ag)):=λg'=>by
     obtain⟨g,e⟩:=g3
     exact⟨g',by rw[e]⟩
    extract_lets -underBinder +onlyGivenNames s1 na s2 nb s3 out s4 mn s5 ac bc jp
    refine jp_if (f:=jp) λm'=>?_
    refine wpS_bind (wpS_modify ?_)
    refine wpS_bind (zak (eb (k3+1) c2) ?_)
    refine wpS_bind (za6 (n:=i3+1) (hint:=i3) C (sgk (sgm _)) oa (ib_ (k3+1) c2) (by lia) (by exact Qf _) (zda sa (by lia)) λfH q1 q2 q3=>?_)
    dsimp -zeta only
    have jr:=c3.runA (at_:=fH) q1 (by assumption) c2 λm hm m1 m2=>Yi (right_lt hm (by have:=q3 m m1 m2;rwa[Ju]at this))
    have kT:=λ(t:Nat) (ht:t<fH) (hi:t<a.size)=>right_le (O:=O) (key:=key) (ky:=b[k3+1]) hi (by have:=q2 t ht;rwa[Ju]at this)
    extract_lets -underBinder +onlyGivenNames kk ac' jp2
    have h2:∀(n':Nat) (o':Array Keyed) (f1:n'<a.size),n'≤i3→Jh O key (a.toList++b.toList) o' a b (n'+1) (k3+1+1)→le O key a[n'] b[k3+1]→wpS (model prog w) A E s (jp2 () (n'+1) o') Q0 (SortSt.mk' (kindOf ag) (arrOf ag) (pendingOf ag) m' (failedOf ag)):=by
     intro n' o' f1 f2 fJ fl
     refine wpS_bind (zak (eb (k3+1) c2) ?_)
     have fK:=fJ.pushB f1 c2 fl
     refine zal (λd=>?_) (λd=>?_)
     ·exact wpS_pure (aB _ _ ⟨sgm _,.inl ⟨_,_,rfl,endL fK (beq_iff_eq.mp d)⟩⟩)
     have d':¬k3+1=1:=λz=>d (beq_iff_eq.mpr z)
     refine wpS_bind (zak (ea n' f1) ?_)
     refine wpS_bind (za6 (n:=k3+1) (hint:=k3) C (sgk (sgm _)) ob (ia_ n' f1) (by lia) (by exact Qf _) (zdn sb (by lia)) λdF r1 r2 r3=>?_)
     dsimp -zeta only
     have js:=fK.runB (at_:=dF) r1 (by exact Zt ‹_›) f1 λm hm m1 m2=>left_le hm (by have:=r3 m m1 m2;rwa[Ju]at this)
     have kU:=λ(t:Nat) (ht:t<dF) (hi:t<b.size)=>Yi (left_lt (O:=O) (key:=key) (ky:=a[n']) hi (by have:=r2 t ht;rwa[Ju]at this))
     extract_lets -underBinder +onlyGivenNames iw bc' jp3
     have h3:∀(m2:Nat) (o2:Array Keyed) (p1:m2+1<b.size),m2≤k3→Jh O key (a.toList++b.toList) o2 a b (n'+1) (m2+1+1)→le O key b[m2+1] a[n']→wpS (model prog w) A E s (jp3 () (m2+1+1) o2) Q0 (SortSt.mk' (kindOf ag) (arrOf ag) (pendingOf ag) m' (failedOf ag)):=by
      intro m2 o2 p1 p2 pJ pl
      refine wpS_bind (zak (ea n' f1) ?_)
      have pK:=pJ.pushA f1 p1 pl
      refine zal (λd=>?_) (λd=>?_)
      ·exact wpS_pure (aB _ _ ⟨sgm _,.inl ⟨_,_,rfl,endA pK (beq_iff_eq.mp d)⟩⟩)
      have d2:¬n'=0:=λz=>d (beq_iff_eq.mpr z)
      cases n' with
      |zero=>exact absurd rfl d2
      |succ t =>
       refine zal (λ_=>?_) (λ_=>?_)
       ·exact wpS_pure (aB _ _ ⟨sgm _,.inr ⟨_,t,m2,_,_,_,rfl,by exact Zt ‹_›,p1,pK,by lia⟩⟩)
       ·exact wpS_pure (aB _ _ ⟨sgm _,_,t,m2,_,_,_,rfl,by exact Zt ‹_›,p1,pK,by lia⟩)
     refine zal (λkz=>?_) (λkz=>?_)
     ·refine zal (fun d4=>?_) (fun d4=>?_)
      ·exact wpS_pure (aB _ _ ⟨sgm _,.inl ⟨_,_,rfl,endL js (beq_iff_eq.mp d4)⟩⟩)
      refine zal (λd5=>?_) (λd5=>?_)
      ·exact wpS_pure (aB _ _ ⟨sgm _,.inl ⟨_,_,rfl,endB js (beq_iff_eq.mp d5)⟩⟩)
      have sD:¬dF=1:=λz=>d4 (beq_iff_eq.mpr z)
      have d5':¬dF=0:=λz=>d5 (beq_iff_eq.mpr z)
      obtain⟨m2,e2⟩:∃m2,dF=m2+1+1:=⟨dF-2,by lia⟩
      have:=h3 m2 _ (by lia) (by lia) (by rw[←e2];exact js) (kU (m2+1) (by lia) (by lia))
      rw[←e2]at this
      exact this
     ·have kW:¬ k3+1 - dF > 0:=kz
      obtain⟨m2,e2⟩:∃m2,k3=m2+1:=⟨k3-1,by lia⟩
      have:=h3 m2 _ (by lia) (by lia) (by rw[←e2];exact fK) (kU (m2+1) (by lia) (by lia))
      rw[←e2]at this
      exact this
    refine zal (λkz=>?_) (λkz=>?_)
    ·refine zal (fun d=>?_) (fun d=>?_)
     ·exact wpS_pure (aB _ _ ⟨sgm _,.inl ⟨_,_,rfl,endA jr (beq_iff_eq.mp d)⟩⟩)
     have d':¬fH=0:=λz=>d (beq_iff_eq.mpr z)
     obtain⟨n',e1⟩:∃n',fH=n'+1:=⟨fH-1,by exact zar14 ‹_›⟩
     have:=h2 n' _ (by lia) (by lia) (by rw[←e1];exact jr) (kT n' (by lia) (by lia))
     rw[←e1]at this
     exact this
    ·have kW:¬ i3+1 - fH > 0:=kz
     exact h2 i3 _ c1 (Qf _) c3 (kT i3 (by lia) c1)
end
section
variable{prog:Nj}{w:Nl}{A:Nm}{E:Na}{s:Ng}{kd:SortKind}{O:KeyOrd}{key:Keyed→O.α}{a₀ pre:Array Keyed}{p:Array (Nat×Nat×Nat)}{lo:Nat}
structure Bs(kd:SortKind)(a₀:Array Keyed)(p:Array (Nat×Nat×Nat))(lo:Nat)(pre:Array Keyed)(st:SortSt):Prop where
 kind:kindOf st=kd
 failed:failedOf st=none
 pend:pendingOf st=p
 perm:(arrOf st).Perm a₀
 head:∀k,k<lo→(arrOf st)[k]?=pre[k]?
def Bs.size{st:SortSt}(B:Bs kd a₀ p lo pre st):(arrOf st).size=a₀.size:=B.perm.size_eq
def Bs.mem{st:SortSt}(B:Bs kd a₀ p lo pre st){i:Nat}(hi:i<a₀.size):∃q,(arrOf st)[i]?=some q∧q∈a₀.toList:=by
 have cI:i<(arrOf st).size:=by rw[B.size];exact hi
 exact⟨_,getElem?_pos _ i cI,(Zz.mp B.perm).mem_iff.mp (by simp)⟩
def zc4{st:SortSt}{i j:Nat}{Q:Option Bool→SortSt→Prop}(C:Cmp prog w A E s kd O key a₀)(B:Bs kd a₀ p lo pre st)(hi:i<a₀.size)(hj:j<a₀.size)(h:Q (some (O.blt (gk O key (arrOf st) i) (gk O key (arrOf st) j))) st):wpS (model prog w) A E s (ltAt' i j) Q st:=by
 obtain⟨x,e1,m1⟩:=B.mem hi
 obtain⟨y,e2,m2⟩:=B.mem hj
 rw[zfm e1,zfm e2]at h
 rw[ltAt'_eq]
 refine wpS_bind (wpS_get ?_)
 refine wpS_bind (zak e1 (wpS_bind (zak e2 ?_)))
 exact C x y st Q m1 m2 B.kind h
def zha{xs:Array Keyed}{i j:Nat}(hj:j≤xs.size)(k:Nat):gk O key (mirror xs i j ((j-i)/2)) k=if i≤k∧k<j then gk O key xs (i+j-1-k) else gk O key xs k:=by
 have e:=getElem?_mirror_all (i:=i) hj k
 split
 next h=>rw[if_pos h]at e;exact zey e
 next h=>rw[if_neg h]at e;exact zey e
def gk_bubble{xs:Array Keyed}{src d:Nat}(hs:src<xs.size)(hd:d≤src)(k:Nat):gk O key (bubble xs src d) k=if k=src-d then gk O key xs src else if src-d<k∧k≤src then gk O key xs (k-1) else gk O key xs k:=by
 have e:=getElem?_bubble hs d hd k
 split
 next h=>rw[if_pos h]at e;exact zey e
 next h =>
  rw[if_neg h]at e
  split
  next h'=>rw[if_pos h']at e;exact zey e
  next h'=>rw[if_neg h']at e;exact zey e
def Bs.mirror{st:SortSt}{i j:Nat}(B:Bs kd a₀ p lo pre st)(hi:lo≤i)(hj:j≤a₀.size):Bs kd a₀ p lo pre (setArr st (mirror (arrOf st) i j ((j-i)/2))) :=
 ⟨B.kind,B.failed,B.pend,(mirror_perm _ _ _ _).trans B.perm,fun k hk=>by
  have e:=getElem?_mirror_all (xs:=arrOf st) (i:=i) (j:=j) (by rw[B.size];exact hj) k
  rw[if_neg (by lia)]at e
  exact e.trans (B.head k hk)⟩
def Bs.bubble{st:SortSt}{src d:Nat}(B:Bs kd a₀ p lo pre st)(hs:src<a₀.size)(hd:lo+d≤src):Bs kd a₀ p lo pre (setArr st (bubble (arrOf st) src d)) :=
 ⟨B.kind,B.failed,B.pend,(bubble_perm _ _ _).trans B.perm,fun k hk=>by
  have e:=getElem?_bubble (xs:=arrOf st) (src:=src) (by rw[B.size];exact hs) d (by lia) k
  rw[if_neg (by lia),if_neg (by lia)]at e
  exact e.trans (B.head k hk)⟩
def Up(O:KeyOrd)(key:Keyed→O.α)(xs:Array Keyed)(lo hi:Nat):Prop:=∀i j,lo≤i→i≤j→j<hi→O.kle (gk O key xs i) (gk O key xs j)
def Dn(O:KeyOrd)(key:Keyed→O.α)(xs:Array Keyed)(lo hi:Nat):Prop:=∀i j,lo≤i→i≤j→j<hi→O.kle (gk O key xs j) (gk O key xs i)
def Up.one{xs:Array Keyed}:Up O key xs lo (lo+1):=λi j h1 h2 h3=>by
 have:i=j:=by lia
 subst this;exact Wc _
def Dn.one{xs:Array Keyed}:Dn O key xs lo (lo+1):=λi j h1 h2 h3=>by
 have:i=j:=by lia
 subst this;exact Wc _
def Up.snoc{xs:Array Keyed}{n:Nat}(u:Up O key xs lo (lo+n))(hn:1≤n)(h:O.kle (gk O key xs (lo+n-1)) (gk O key xs (lo+n))):Up O key xs lo (lo+(n+1)):=λi j h1 h2 h3=>by
 by_cases hj:j<lo+n
 ·exact u i j h1 h2 hj
 ·have ej:j=lo+n:=by lia
  subst ej
  by_cases hi:i=lo+n
  ·subst hi;exact Wc _
  ·exact Yl (u i (lo+n-1) h1 (by lia) (by lia)) h
def Dn.snoc{xs:Array Keyed}{n:Nat}(u:Dn O key xs lo (lo+n))(hn:1≤n)(h:O.kle (gk O key xs (lo+n)) (gk O key xs (lo+n-1))):Dn O key xs lo (lo+(n+1)):=λi j h1 h2 h3=>by
 by_cases hj:j<lo+n
 ·exact u i j h1 h2 hj
 ·have ej:j=lo+n:=by lia
  subst ej
  by_cases hi:i=lo+n
  ·subst hi;exact Wc _
  ·exact Yl h (u i (lo+n-1) h1 (by lia) (by lia))
def Dn.turn{xs:Array Keyed}{hi:Nat}(d:Dn O key xs lo hi)(h:hi≤xs.size):Up O key (mirror xs lo hi ((hi-lo)/2)) lo hi:=λi j h1 h2 h3=>by
 rw[zha h,zha h,if_pos (by lia),if_pos (by lia)]
 exact d _ _ (by lia) (by lia) (by lia)
def gk_same{xs:Array Keyed}{i j:Nat}(hj:j≤xs.size)(h:∀k,i≤k→k<j→gk O key xs k=gk O key xs (j-1))(k:Nat):gk O key (mirror xs i j ((j-i)/2)) k=gk O key xs k:=by
 rw[zha hj]
 split
 next q=>rw[h _ (by lia) (by lia),h k (by lia) (by lia)]
 next=>rfl
def wpS_ite{α:Type}{b:Bool}{x y:StateT SortSt Sem α}{Q:α→SortSt→Prop}{st:SortSt}(h1:b=true→wpS (model prog w) A E s x Q st)(h2:b=false→wpS (model prog w) A E s y Q st):wpS (model prog w) A E s (if b=true then x else y) Q st:=by
 cases b with
 |true=>rw[if_pos rfl];exact h1 rfl
 |false=>rw[if_neg (by simp)];exact h2 rfl
def ze8{st:SortSt}{n ok:Nat}{Q:Bool→SortSt→Prop}(C:Cmp prog w A E s kd O key a₀)(hn:lo+n≤a₀.size)(hok:ok≤n)(B:Bs kd a₀ p lo pre st)(u:Up O key (arrOf st) lo (lo+ok))(h:∀a7,Bs kd a₀ p lo pre a7→Up O key (arrOf a7) lo (lo+n)→Q true a7):wpS (model prog w) A E s (binarySort' lo n ok) Q st:=by
 rw[binarySort'_eq]
 refine wpS_bind (wpS_mono (wpS_forRange (I:=λk c a7=>Aj3 (c=(none,())) (Bs kd a₀ p lo pre a7) (Up O key (arrOf a7) lo (lo+min k n))) (Q:=λc a7=>Aj3 (c=(none,())) (Bs kd a₀ p lo pre a7) (Up O key (arrOf a7) lo (lo+n))) ?step ?fin ?init) ?post)
 case post =>
  rintro c a7 ⟨rfl,B',u'⟩
  exact wpS_pure (h a7 B' u')
 case init =>
  refine⟨rfl,B,λi j h1 h2 h3=>?_⟩
  by_cases z:ok=0
  ·exact Up.one (lo:=lo) i j h1 h2 (by lia)
  ·exact u i j h1 h2 (by lia)
 case fin =>
  rintro c a7 ⟨e,B',u'⟩
  exact⟨e,B',λi j h1 h2 h3=>u' i j h1 h2 (by lia)⟩
 case step =>
  rintro k c a7 hak fR ⟨rfl,B',u'⟩
  rw[show min k n=k by lia]at u'
  refine wpS_bind (wpS_mono (wpS_forRange
   (I:=λx c aw=>Aj2 (aw=a7) (Ex2 λl r=>Aj6 (c=(none,l,r)) (l≤r) (r≤k) (r-l≤k-x) (∀i,i<l→O.kle (gk O key (arrOf a7) (lo+i)) (gk O key (arrOf a7) (lo+k))) (∀i,r≤i→i<k→O.klt (gk O key (arrOf a7) (lo+k)) (gk O key (arrOf a7) (lo+i)))))
   (Q:=λc aw=>Aj2 (aw=a7) (Ex1 λl=>Aj4 (c=(none,l,l)) (l≤k) (∀i,i<l→O.kle (gk O key (arrOf a7) (lo+i)) (gk O key (arrOf a7) (lo+k))) (∀i,l≤i→i<k→O.klt (gk O key (arrOf a7) (lo+k)) (gk O key (arrOf a7) (lo+i))))) ?is ?if_ ?ii) ?ip)
  case ii=>exact⟨rfl,0,k,rfl,by exact Zn _,by exact Qf _,by exact Qf _,λi hi=>by lia,λi g1 g2=>by lia⟩
  case if_ =>
   rintro c aw ⟨rfl,l,r,rfl,b1,b2,b3,b4,b5⟩
   have:l=r:=by lia
   subst this
   exact⟨rfl,l,rfl,b2,b4,b5⟩
  case is =>
   rintro x c aw _ hx ⟨rfl,l,r,rfl,b1,b2,b3,b4,b5⟩
   dsimp only
   by_cases ge:l≥r
   ·rw [if_pos ge]
    have:l=r:=by exact Ji ‹_› ‹_›
    subst this
    exact wpS_pure ⟨rfl,l,rfl,b2,b4,b5⟩
   ·rw [if_neg ge]
    refine wpS_bind (zc4 C B' (by exact zar2 ‹_› ‹_›) (by lia) ?_)
    cases e:O.blt (gk O key (arrOf aw) (lo+k)) (gk O key (arrOf aw) (lo+(l+r)/2)) with
    |true=>exact wpS_pure ⟨rfl,l,(l+r)/2,rfl,by lia,by lia,by lia,b4,λi g1 g2=>Kw (show O.klt _ _ from e) (u' _ _ (by exact Yd _ _) (by lia) (by lia))⟩
    |false=>exact wpS_pure ⟨rfl,(l+r)/2+1,r,rfl,by lia,by assumption,by lia,λi g1=>Yl (u' (lo+i) (lo+(l+r)/2) (by exact Yd _ _) (by lia) (by lia)) (show O.kle _ _ from e),b5⟩
  case ip =>
   rintro c aw ⟨rfl,l,rfl,b2,b4,b5⟩
   show wpS _ _ _ _ (do moveDown' (lo+k) (lo+l);pure (ForInStep.yield (none,()))) _ _
   rw[moveDown'_eq]
   have hb:=B'.bubble (src:=lo+k) (d:=lo+k-(lo+l)) (by exact zar2 ‹_› ‹_›) (by lia)
   refine wpS_bind (wpS_modify (wpS_pure ⟨rfl,hb,?_⟩))
   rw[show min (k+1) n=k+1 by lia]
   have hk:lo+k<(arrOf aw).size:=by rw[B'.size];exact zar2 ‹_› ‹_›
   intro i j h1 h2 h3
   show O.kle (gk O key (PyProof.Rows.bubble (arrOf aw) (lo+k) (lo+k-(lo+l))) i) (gk O key (PyProof.Rows.bubble (arrOf aw) (lo+k) (lo+k-(lo+l))) j)
   rw[gk_bubble hk (by lia),gk_bubble hk (by lia),show lo+k-(lo+k-(lo+l))=lo+l by lia]
   have lo_:∀t,lo≤t→t<lo+l→O.kle (gk O key (arrOf aw) t) (gk O key (arrOf aw) (lo+k)):=λt t1 t2=>by
    have:=b4 (t-lo) (by lia)
    rwa[show lo+(t-lo)=t by lia]at this
   have hi_:∀t,lo+l≤t→t<lo+k→O.kle (gk O key (arrOf aw) (lo+k)) (gk O key (arrOf aw) t):=λt t1 t2=>by
    have:=b5 (t-lo) (by lia) (by lia)
    rw[show lo+(t-lo)=t by lia]at this
    exact Yi this
   repeat' split
   all_goals first
    |(exfalso;lia)
    |exact Wc _
    |exact lo_ _ (by assumption) (by lia)
    |exact hi_ _ (by lia) (by lia)
    |exact u' _ _ (by lia) (by lia) (by lia)
def zga{st:SortSt}{nrem:Nat}{Q:Option Nat→SortSt→Prop}(C:Cmp prog w A E s kd O key a₀)(hn:lo+nrem≤a₀.size)(h1:1≤nrem)(B:Bs kd a₀ p lo pre st)(h:∀m a7,Bs kd a₀ p lo pre a7→1≤m→m≤nrem→Up O key (arrOf a7) lo (lo+m)→Q (some m) a7):wpS (model prog w) A E s (countRun' lo nrem) Q st:=by
 have asc:∀(f:Nat→(Option (Option Nat)×Nat)→StateT SortSt Sem (ForInStep (Option (Option Nat)×Nat))) (a:Nat) (ap:SortSt),Bs kd a₀ p lo pre ap→1≤a→a≤nrem→Up O key (arrOf ap) lo (lo+a) →
   (∀x y Q',1≤y→y<nrem→(O.klt (gk O key (arrOf ap) (lo+y)) (gk O key (arrOf ap) (lo+y-1))→Q' (ForInStep.done (none,y)) ap)→(O.kle (gk O key (arrOf ap) (lo+y-1)) (gk O key (arrOf ap) (lo+y))→Q' (ForInStep.yield (none,y+1)) ap)→wpS (model prog w) A E s (f x (none,y)) Q' ap) →
   wpS (model prog w) A E s (forIn [a:nrem] (none,a) f) (λc a7=>a7=ap∧∃n,c=(none,n)∧a≤n∧n≤nrem∧Up O key (arrOf ap) lo (lo+n)∧(n=nrem∨O.klt (gk O key (arrOf ap) (lo+n)) (gk O key (arrOf ap) (lo+n-1)))) ap:=by
  intro f a ap B1 a1 a2 u1 hf
  refine wpS_forRange (I:=λx c a7=>Aj3 (a7=ap) (c=(none,x)) (Up O key (arrOf ap) lo (lo+x))) ?step ?fin ⟨rfl,rfl,u1⟩
  case fin =>
   rintro c a7 ⟨rfl,rfl,u'⟩
   rw[show max a nrem=nrem by lia]at u' ⊢
   exact⟨rfl,nrem,rfl,a2,Qf _,u',.inl rfl⟩
  case step =>
   rintro x c a7 g1 g2 ⟨rfl,rfl,u'⟩
   exact hf x x _ (by exact Zj ‹_› ‹_›) g2 (λe=>⟨rfl,x,rfl,g1,by exact Zt ‹_›,u',.inr e⟩) λe=>⟨rfl,rfl,u'.snoc (by exact Zj ‹_› ‹_›) e⟩
 rw[countRun'_eq]
 refine wpS_bind (wpS_mono (asc _ 1 st B (Qf _) h1 Up.one ?_) ?_)
 ·intro x y Q' y1 y2 q1 q2
  dsimp only
  refine wpS_bind (zc4 C B (by exact zar2 ‹_› ‹_›) (by lia) ?_)
  cases e:O.blt (gk O key (arrOf st) (lo+y)) (gk O key (arrOf st) (lo+y-1)) with
  |true=>exact wpS_pure (q1 e)
  |false=>exact wpS_pure (q2 e)
 rintro c a7 ⟨rfl,n,rfl,n1,n2,u,bd⟩
 dsimp only
 by_cases d1:n=nrem
 ·rw [if_pos (by simp [d1])]
  exact wpS_pure (h n _ B n1 n2 u)
 rw[if_neg (by simp[d1])]
 have ad:=bd.resolve_left d1
 by_cases d2:n>1
 focus
  rw[if_pos d2]
  refine wpS_bind (zc4 C B (by exact zar2 ‹_› ‹_›) (by lia) ?_)
  cases e:O.blt (gk O key (arrOf a7) lo) (gk O key (arrOf a7) (lo+n-1)) with
  |true =>
   dsimp only
   rw[if_pos rfl]
   exact wpS_pure (h n _ B n1 n2 u)
  |false=>?_
  dsimp only
  rw[if_neg (by simp)]
  have eq_:∀k,lo≤k→k<lo+n→gk O key (arrOf a7) k=gk O key (arrOf a7) (lo+n-1):=λk k1 k2 =>
   Kr (u k _ k1 (by lia) (by lia)) (Yl (show O.kle _ _ from e) (u lo k (Qf _) k1 k2))
  have B2:=B.mirror (i:=lo) (j:=lo+n) (Qf _) (by lia)
  have same:=gk_same (O:=O) (key:=key) (xs:=arrOf a7) (i:=lo) (j:=lo+n) (by rw[B.size];lia) eq_
  refine wpS_bind (wpS_reverse ?_)
  have D2:Dn O key (mirror (arrOf a7) lo (lo+n) ((lo+n-lo)/2)) lo (lo+n):=λi j i1 i2 i3=>by
   rw[same,same,eq_ j (by exact Zj ‹_› ‹_›) i3,eq_ i i1 (by exact We ‹_› ‹_›)]
   exact Wc _
  have L2:O.klt (gk O key (mirror (arrOf a7) lo (lo+n) ((lo+n-lo)/2)) (lo+n)) (gk O key (mirror (arrOf a7) lo (lo+n) ((lo+n-lo)/2)) (lo+n-1)):=by rw[same,same];exact ad
 rotate_left
 focus
  rw[if_neg d2]
  have en:n=1:=by lia
  subst en
  have B2:=B
  have D2:Dn O key (arrOf a7) lo (lo+1):=Dn.one
  have L2:=ad
 all_goals
  refine wpS_bind (wpS_lift (wpAny_rule ⟨rfl,?_⟩))
  have D3:=D2.snoc (by assumption) (Yi L2)
  refine wpS_bind (wpS_mono (wpS_forRange
   (I:=λx c av=>Ex1 λq=>Aj7 (c=(none,x,q)) (Bs kd a₀ p lo pre av) (Dn O key (arrOf av) lo (lo+x)) (2≤x) (x≤nrem) (q+1≤x) (∀i,lo+x-(q+1)≤i→i<lo+x→gk O key (arrOf av) i=gk O key (arrOf av) (lo+x-1)))
   (Q:=λc av=>Ex2 λx q=>Aj7 (c=(none,x,q)) (Bs kd a₀ p lo pre av) (Dn O key (arrOf av) lo (lo+x)) (2≤x) (x≤nrem) (q+1≤x) (∀i,lo+x-(q+1)≤i→i<lo+x→gk O key (arrOf av) i=gk O key (arrOf av) (lo+x-1)))
   ?step ?fin ⟨0,rfl,B2,D3,by lia,by lia,by lia,λi i1 i2=>by congr 1;lia⟩) ?post)
  case fin =>
   rintro c av ⟨q,rfl,b1,b2,b3,b4,b5,b6⟩
   exact⟨_,q,rfl,b1,b2,b3,b4,b5,b6⟩
  case step =>
   rintro x c av x1 x2 ⟨q,rfl,b1,b2,b3,b4,b5,b6⟩
   dsimp only
   refine wpS_bind (zc4 C b1 (by exact zar2 ‹_› ‹_›) (by lia) ?_)
   cases e1:O.blt (gk O key (arrOf av) (lo+x)) (gk O key (arrOf av) (lo+x-1)) with
   | true =>
    dsimp only
    rw[if_pos rfl]
    by_cases q0:q>0
    ·rw [if_pos q0]
     refine wpS_bind (wpS_reverse (wpS_pure ?_))
     have sm:=gk_same (O:=O) (key:=key) (xs:=arrOf av) (i:=lo+x-(q+1)) (j:=lo+x) (by rw[b1.size];lia) b6
     refine⟨0,rfl,b1.mirror (by lia) (by lia),?_,by exact zh2 ‹_›,by assumption,by exact Nat.le_add_left _ _,λi i1 i2=>by congr 1;lia⟩
     refine Dn.snoc (λi j i1 i2 i3=>?_) (by exact Zt ‹_›) ?_
     ·show O.kle (gk O key (PyProof.Rows.mirror _ _ _ _) _) (gk O key (PyProof.Rows.mirror _ _ _ _) _)
      rw[sm,sm];exact b2 i j i1 i2 i3
     ·show O.kle (gk O key (PyProof.Rows.mirror _ _ _ _) _) (gk O key (PyProof.Rows.mirror _ _ _ _) _)
      rw[sm,sm];exact Yi (show O.klt _ _ from e1)
    ·rw [if_neg q0]
     exact wpS_pure ⟨0,rfl,b1,b2.snoc (by exact Zt ‹_›) (Yi (show O.klt _ _ from e1)),by exact zh2 ‹_›,by assumption,by exact Nat.le_add_left _ _,λi i1 i2=>by congr 1;lia⟩
   | false =>
    dsimp only
    rw[if_neg (by simp)]
    refine wpS_bind (zc4 C b1 (by lia) (by exact zar2 ‹_› ‹_›) ?_)
    cases e2:O.blt (gk O key (arrOf av) (lo+x-1)) (gk O key (arrOf av) (lo+x)) with
    |true =>
     dsimp only
     rw[if_pos rfl]
     exact wpS_pure ⟨x,q,rfl,b1,b2,b3,b4,b5,b6⟩
    |false =>
     dsimp only
     rw[if_neg (by simp)]
     have eqx:=O.total _ _ e1 e2
     refine wpS_pure ⟨q+1,rfl,b1,b2.snoc (by exact Zt ‹_›) (by rw[eqx];exact Wc _),by exact zh2 ‹_›,by assumption,by exact zar4 ‹_›,λi i1 i2=>?_⟩
     rw[show lo+(x+1)-1=lo+x by lia]
     by_cases ix:i=lo+x
     ·rw[ix]
     ·rw[eqx];exact b6 i (by lia) (by lia)
  case post =>
   rintro c av ⟨x,q,rfl,b1,b2,b3,b4,b5,b6⟩
   dsimp only
   have sm:=gk_same (O:=O) (key:=key) (xs:=arrOf av) (i:=lo+x-(q+1)) (j:=lo+x) (by rw[b1.size];lia) b6
   by_cases q0:q>0
   focus
    rw[if_pos q0]
    refine wpS_bind (wpS_reverse ?_)
    have B5:=b1.mirror (i:=lo+x-(q+1)) (j:=lo+x) (by lia) (by lia)
    have D5:Dn O key (PyProof.Rows.mirror (arrOf av) (lo+x-(q+1)) (lo+x) ((lo+x-(lo+x-(q+1)))/2)) lo (lo+x):=λi j i1 i2 i3=>by rw[sm,sm];exact b2 i j i1 i2 i3
   rotate_left
   focus
    rw[if_neg q0]
    have B5:=b1
    have D5:=b2
   all_goals
    refine wpS_bind (wpS_reverse ?_)
    have B6:=B5.mirror (i:=lo) (j:=lo+x) (Qf _) (by lia)
    have U6:=D5.turn (Zj (show lo+x≤a₀.size by lia) (Nat.le_of_eq B5.size.symm))
    refine wpS_bind (wpS_mono (asc _ x _ B6 (by exact Zt ‹_›) b4 U6 ?_) ?_)
    ·intro z y Q' y1 y2 q1 q2
     dsimp only
     refine wpS_bind (zc4 C B6 (by exact zar2 ‹_› ‹_›) (by lia) ?_)
     show wpS _ _ _ _ (if _=true then _ else _) _ _
     exact wpS_ite (λe=>wpS_pure (q1 e)) λe=>wpS_pure (q2 e)
    ·rintro c st6 ⟨rfl,m,rfl,m1,m2,um,_⟩
     exact wpS_pure (h m _ B6 (by lia) m2 um)
end
def PR:List (Nat×Nat×Nat)→Nat→List (List Keyed)→Prop
 |[],_,[]=>True
 |q::ps,off,g::gs=>q.1=off∧q.2.1=g.length∧PR ps (off+g.length) gs
 |_,_,_=>False
theorem PR.split:∀{aN bf:List (Nat×Nat×Nat)} {off:Nat} {gs:List (List Keyed)},PR (aN++bf) off gs→∃g1 g2,gs=g1++g2∧g1.length=aN.length∧PR aN off g1∧PR bf (off+g1.flatten.length) g2
 |[],_,off,gs,h=>⟨[],gs,rfl,rfl,trivial,by simpa using h⟩
 |q::aN,bf,off,[],h=>False.elim h
 |q::aN,bf,off,g::gs,⟨h1,h2,h3⟩=>by
  obtain⟨g1,g2,e,l,p1,p2⟩:=PR.split h3
  refine⟨g::g1,g2,by rw[e];rfl,by simp[l],⟨h1,h2,p1⟩,?_⟩
  rw[Yj,Ql,←Kp]
  exact p2
theorem PR.join:∀{aN bf:List (Nat×Nat×Nat)} {off:Nat} {g1 g2:List (List Keyed)},PR aN off g1→PR bf (off+g1.flatten.length) g2→PR (aN++bf) off (g1++g2)
 |[],_,_,[],_,_,h=>by simpa using h
 |[],_,_,_::_,_,h,_=>False.elim h
 |_::_,_,_,[],_,h,_=>False.elim h
 |q::aN,bf,off,g::g1,g2,⟨h1,h2,h3⟩,h=>⟨h1,h2,PR.join h3 (by rw[Yj,Ql,←Kp]at h;exact h)⟩
theorem PR.len:∀{ps:List (Nat×Nat×Nat)} {off:Nat} {gs:List (List Keyed)},PR ps off gs→ps.length=gs.length
 |[],_,[],_=>rfl
 |[],_,_::_,h=>False.elim h
 |_::_,_,[],h=>False.elim h
 |_::ps,_,_::gs,⟨_,_,h⟩=>by simp[PR.len h]
def mid_at{arr:Array Keyed}{F M S:List Keyed}(e:arr.toList=F++(M++S)){j:Nat}(hj:j<M.length):arr[F.length+j]?=some M[j]:=by
 have:arr[F.length+j]?=arr.toList[F.length+j]?:=by simp
 rw[this,e,Uo (by exact Yd _ _),show F.length+j-F.length=j by lia,Xf hj]
 simp
def mid_ext{arr:Array Keyed}{F M S:List Keyed}(e:arr.toList=F++(M++S)){i j:Nat}(hi:i≤j)(hj:j≤M.length):(arr.extract (F.length+i) (F.length+j)).toList=(M.drop i).take (j-i):=by
 have e1:(arr.extract (F.length+i) (F.length+j)).toList=(arr.toList.drop (F.length+i)).take (F.length+j-(F.length+i)):=by simp
 rw[e1,e,←List.drop_drop,List.drop_left,List.drop_append_of_le_length (by exact Zj ‹_› ‹_›),show F.length+j-(F.length+i)=j-i by lia]
 rw[Kt (by rw[Yz];lia)]
theorem zf6{sa:Nat}:∀(l:List Keyed) (n:Nat) (arr:Array Keyed) (F M S:List Keyed),arr.toList=F++(M++S)→F.length=sa+n→M.length=l.length →
  ((l.zipIdx n).foldl (λ(a:Array Keyed) (q:Keyed×Nat)=>a.setIfInBounds (sa+q.2) q.1) arr).toList=F++(l++S)
 |[],n,arr,F,M,S,e,_,hl=>by
  have:M=[]:=Jb.mp (by simpa using hl)
  rw[this]at e
  simpa using e
 |p::l,n,arr,F,[],S,e,_,hl=>by simp at hl
 | p::l,n,arr,F,m::M,S,e,hf,hl=>by
  rw[List.zipIdx_cons,Jy]
  have e2:(arr.setIfInBounds (sa+n) p).toList=(F++[p])++(M++S):=by
   rw[Jt,e,←hf,Kn _ _ (Qf _),Xw]
   simp
  have:=zf6 (sa:=sa) l (n+1) _ (F++[p]) M S e2 (by rw[Ql];simp;lia) (by simpa using hl)
  rw[this]
  simp
section
variable{prog:Nj}{w:Nl}{A:Nm}{E:Na}{s:Ng}{kd:SortKind}{O:KeyOrd}{key:Keyed→O.α}{a₀:Array Keyed}
structure Rn(kd:SortKind)(O:KeyOrd)(key:Keyed→O.α)(a₀:Array Keyed)(gs:List (List Keyed))(rest:List Keyed)(st:SortSt):Prop where
 kind:kindOf st=kd
 failed:failedOf st=none
 perm:(arrOf st).Perm a₀
 arr:(arrOf st).toList=gs.flatten++rest
 pend:PR (pendingOf st).toList 0 gs
 srt:∀g∈gs,g.Pairwise (le O key)∧g≠[]
def Rn.of{gs:List (List Keyed)}{rest:List Keyed}{st:SortSt}(R:Rn kd O key a₀ gs rest st):Of a₀ (arrOf st):=λi p e=>by
 refine(Zz.mp R.perm).mem_iff.mp ?_
 have:(arrOf st).toList[i]?=some p:=by simpa using e
 exact Yq this
def pw_get{M:List Keyed}(p:M.Pairwise (le O key)){i j:Nat}(aX:i≤j)(hj:j<M.length):le O key (M[i]'(We aX hj)) M[j]:=by
 rcases Nat.lt_or_ge i j with h | h
 ·exact Wr.mp p i j (We aX hj) hj h
 ·have e:i=j:=by exact Ji ‹_› ‹_›
  subst e;exact Wc _
def wpS_set{Q:PUnit→SortSt→Prop}{st a7:SortSt}(h:Q ⟨⟩ a7):wpS (model prog w) A E s (set a7:StateT SortSt Sem PUnit) Q st:=by
 unfold wpS;rw[StateT.run_set];exact wpAny_pure ⟨rfl,h⟩
def zck{i:Nat}{gs:List (List Keyed)}{rest:List Keyed}{Q:Bool→SortSt→Prop}{st:SortSt}(C:Cmp prog w A E s kd O key a₀)(R:Rn kd O key a₀ gs rest st)(hi:i+1 < (pendingOf st).size)(h:∀ay a7,Rn kd O key a₀ ay rest a7→ay.length+1=gs.length→ay.flatten.length=gs.flatten.length→Q true a7):wpS (model prog w) A E s (mergeAt' i) Q st:=by
 obtain⟨aN,q1,q2,bf,hp,hl⟩:∃aN q1 q2 bf,(pendingOf st).toList=aN++q1::q2::bf∧aN.length=i:=by
  have h1:i<(pendingOf st).toList.length:=by simp;exact Zt ‹_›
  have h2:i+1<(pendingOf st).toList.length:=by simp;assumption
  refine⟨(pendingOf st).toList.take i,(pendingOf st).toList[i],(pendingOf st).toList[i+1],(pendingOf st).toList.drop (i+2),?_,by rw[Zf];lia⟩
  rw[←Yc h2,←Yc h1,Zl]
 have pr:=R.pend
 rw[hp]at pr
 obtain⟨g1,gt,rfl,hg1,gJ,oK⟩:=pr.split
 obtain _ | ⟨RA,_ | ⟨RB,g2⟩⟩:=gt
 ·exact False.elim oK
 ·exact False.elim oK.2.2
 obtain⟨sa,na,pw⟩:=q1
 obtain⟨sb,nb,kM⟩:=q2
 obtain⟨e1,e2,e3,e4,ij⟩:=oK
 simp only[Ju]at e1 e2 e3 e4 ij
 subst e1 e2 e3 e4
 have x1:(pendingOf st)[i]?=some (g1.flatten.length,RA.length,pw):=by
  have:(pendingOf st)[i]?=(pendingOf st).toList[i]?:=by simp
  rw[this,hp,←hl];simp
 have x2:(pendingOf st)[i+1]?=some (g1.flatten.length+RA.length,RB.length,kM):=by
  have:(pendingOf st)[i+1]?=(pendingOf st).toList[i+1]?:=by simp
  rw[this,hp,←hl];simp
 have sA:=R.srt RA (by simp)
 have sB:=R.srt RB (by simp)
 have hA:0<RA.length:=Ug.mpr sA.2
 have hB:0<RB.length:=Ug.mpr sB.2
 have arr:(arrOf st).toList=g1.flatten++((RA++RB)++(g2.flatten++rest)):=by rw[R.arr];simp
 generalize hF:g1.flatten=F at x1 x2 arr ij hp
 have hsz:F.length+(RA.length+RB.length)≤(arrOf st).size:=by
  have:=congrArg List.length arr
  simp only[Ql,Ym]at this
  lia
 have at_:∀j (hj:j<(RA++RB).length),(arrOf st)[F.length+j]?=some (RA++RB)[j]:=λj hj=>mid_at arr hj
 have atA:∀j (hj:j<RA.length),(arrOf st)[F.length+j]?=some RA[j]:=λj hj=>by rw[at_ j (by rw[Ql];lia),List.getElem_append_left hj]
 have atB:∀j (hj:j<RB.length),(arrOf st)[F.length+RA.length+j]?=some RB[j]:=λj hj=>by
  rw[Kp,at_ (RA.length+j) (by rw[Ql];lia),List.getElem_append_right (by exact Yd _ _)]
  simp
 have memA:∀j (hj:j<RA.length),RA[j]∈a₀.toList:=λj hj=>R.of _ _ (atA j hj)
 have memB:∀j (hj:j<RB.length),RB[j]∈a₀.toList:=λj hj=>R.of _ _ (atB j hj)
 have fin:∀(M:List Keyed) (a7:SortSt),M.Perm (RA++RB)→M.Pairwise (le O key)→kindOf a7=kd→failedOf a7=none→(arrOf a7).toList=F++(M++(g2.flatten++rest)) →
   pendingOf a7=((pendingOf st).setIfInBounds i (F.length,RA.length+RB.length,pw)).eraseIdxIfInBounds (i+1)→Q true a7:=by
  intro M a7 m1 m2 m3 m4 m5 m6
  have ml:=m1.length_eq
  rw[Ql]at ml
  refine h (g1++M::g2) a7 ⟨m3,m4,?_,?_,?_,λg hg=>?_⟩ (by simp;lia) ?_
  ·refine Zz.mpr (List.Perm.trans ?_ (Zz.mp R.perm))
   rw[m5,arr]
   exact Zv F (Jg _ m1)
  ·rw[m5,←hF];simp
  ·have e:(pendingOf a7).toList=aN++(F.length,RA.length+RB.length,pw)::bf:=by
    rw[m6]
    have e1:((pendingOf st).setIfInBounds i (F.length,RA.length+RB.length,pw)).toList=aN++(F.length,RA.length+RB.length,pw)::(F.length+RA.length,RB.length,kM)::bf:=by
     rw[Jt,hp,←hl,Kn _ _ (Qf _),Xw]
     rfl
    rw[Array.toList_eraseIdxIfInBounds,e1,←hl,List.eraseIdx_append_of_length_le (by exact Yd _ _)]
    simp
   rw[e]
   refine gJ.join ⟨by rw[Ju,hF],by rw[←ml],?_⟩
   rw[Ju,hF,ml,←Kp]
   exact ij
  ·rcases Qe.mp hg with z | z
   ·exact R.srt g (Qr _ z)
   ·rcases Qh.mp z with z | z
    ·rw [z]
     exact⟨m2,λq=>by rw[q]at ml;simp at ml;lia⟩
    ·exact R.srt g (by simp[z])
  ·simp only [Wj,Yj,Ql]
   lia
 have gkA:∀j (hj:j<RA.length),gk O key (arrOf st) (F.length+j)=key RA[j]:=λj hj=>zfm (atA j hj)
 have gkB:∀j (hj:j<RB.length),gk O key (arrOf st) (F.length+RA.length+j)=key RB[j]:=λj hj=>zfm (atB j hj)
 unfold mergeAt'
 refine wpS_bind (wpS_get ?_)
 rw[x1,x2]
 dsimp only
 refine wpS_bind (wpS_set ?_)
 refine wpS_bind (zak (by have:=atB 0 hB;rwa[Nat.add_zero]at this) ?_)
 refine wpS_bind (za6 C R.kind R.of (memB 0 hB) (Zj (show F.length+RA.length≤F.length+(RA.length+RB.length) by lia) hsz) hA ?_ λk k1 k2 k3=>?_)
 ·intro x y xy hy
  unfold zaz
  rw[gkA x (by exact We ‹_› ‹_›),gkA y hy]
  simp only[Wo,if_false,Wm]
  exact λe=>Yl (pw_get sA.1 xy hy) (show O.kle _ _ from e)
 have k2':∀j (hj:j<k) (cc:j<RA.length),le O key RA[j] RB[0]:=λj hj cc=>by
  have:=k2 j hj
  unfold zaz at this
  rw[gkA j cc]at this
  simp only[Wo,if_false,Wm]at this
  exact this
 have k3':∀j (hj:k≤j) (cc:j<RA.length),O.klt (key RB[0]) (key RA[j]):=λj hj cc=>by
  have:=k3 j hj cc
  unfold zaz at this
  rw[gkA j cc]at this
  simp only[Wo,if_false,Kf]at this
  exact this
 dsimp only
 have B0:∀y∈RB,le O key RB[0] y:=λy hy=>by
  obtain⟨j,hj,e⟩:=Qx hy
  rw[←e];exact pw_get sB.1 (Zn _) hj
 by_cases c1:RA.length-k=0
 ·rw [if_pos (by simp [c1])]
  refine wpS_pure (fin (RA++RB) _ (List.Perm.refl _) (Ya.mpr ⟨sA.1,sB.1,λx hx y hy=>?_⟩) R.kind R.failed arr rfl)
  obtain⟨j,hj,e⟩:=Qx hx
  rw[←e]
  exact zbj (k2' j (by lia) hj) (B0 y hy)
 rw[if_neg (by simp[c1])]
 have cv:F.length+k+(RA.length-k)-1=F.length+(RA.length-1):=by lia
 have lA:RA.length-1<RA.length:=by exact zar1 ‹_›
 refine wpS_bind (zak (by rw[cv];exact atA _ lA) ?_)
 refine wpS_bind (za6 C R.kind R.of (memA _ lA) (Zj (show F.length+RA.length+RB.length≤F.length+(RA.length+RB.length) by lia) hsz) (by exact zar1 ‹_›) ?_ λm n1 n2 n3=>?_)
 ·intro x y xy hy
  unfold zaz
  rw[gkB x (by exact We ‹_› ‹_›),gkB y hy]
  simp only[if_true]
  exact λe=>Kx (pw_get sB.1 xy hy) (show O.klt _ _ from e)
 have n2':∀j (hj:j<m) (cc:j<RB.length),O.klt (key RB[j]) (key RA[RA.length-1]):=λj hj cc=>by
  have:=n2 j hj
  unfold zaz at this
  rw[gkB j cc]at this
  simp only[if_true]at this
  exact this
 have n3':∀j (hj:m≤j) (cc:j<RB.length),le O key RA[RA.length-1] RB[j]:=λj hj cc=>by
  have:=n3 j hj cc
  unfold zaz at this
  rw[gkB j cc]at this
  simp only[if_true]at this
  exact this
 have AL:∀x∈RA,le O key x RA[RA.length-1]:=λx hx=>by
  obtain⟨j,hj,e⟩:=Qx hx
  rw[←e];exact pw_get sA.1 (by lia) lA
 dsimp only
 by_cases c2:m=0
 ·rw [if_pos (by simp [c2])]
  refine wpS_pure (fin (RA++RB) _ (List.Perm.refl _) (Ya.mpr ⟨sA.1,sB.1,λx hx y hy=>?_⟩) R.kind R.failed arr rfl)
  obtain⟨j,hj,e⟩:=Qx hy
  rw[←e]
  exact zbj (AL x hx) (n3' j (by lia) hj)
 rw[if_neg (by simp[c2])]
 have eX:((arrOf st).extract (F.length+k) (F.length+RA.length)).toList=RA.drop k:=by
  rw[mid_ext arr (by assumption) (by rw[Ql];exact Yd _ _),List.drop_append_of_le_length (by assumption),Kt (by rw[Yz];exact Qf _)]
  exact Qv (by rw[Yz];exact Qf _)
 have eY:((arrOf st).extract (F.length+RA.length) (F.length+RA.length+m)).toList=RB.take m:=by
  rw[Kp,mid_ext arr (by exact Yd _ _) (by rw[Ql];lia),List.drop_left,show RA.length+m-RA.length=m by lia]
 generalize hX:(arrOf st).extract (F.length+k) (F.length+RA.length)=Xs at eX
 generalize hY:(arrOf st).extract (F.length+RA.length) (F.length+RA.length+m)=Ys at eY
 have lX:Xs.size=RA.length-k:=by rw[←Ym,eX,Yz]
 have lY:Ys.size=m:=by rw[←Ym,eY,Zf];lia
 have gX:∀j (hj:j<Xs.size),Xs[j]=RA[k+j]'(by lia):=λj hj=>by
  have:Xs.toList[j]?=some (RA[k+j]'(by lia)):=by rw[eX,List.getElem?_drop];exact Qc (by lia)
  have e2:Xs.toList[j]?=some Xs[j]:=by simp[hj]
  rw[e2]at this;exact Qt this
 have gY:∀j (hj:j<Ys.size),Ys[j]=RB[j]'(by lia):=λj hj=>by
  have:Ys.toList[j]?=some (RB[j]'(by lia)):=by rw[eY,List.getElem?_take_of_lt (by exact zar7 ‹_› ‹_›)];exact Qc (by lia)
  have e2:Ys.toList[j]?=some Ys[j]:=by simp[hj]
  rw[e2]at this;exact Qt this
 have oX:Of a₀ Xs:=λj q e=>by
  have hj:j<Xs.size:=by
   rcases Nat.lt_or_ge j Xs.size with z | z
   ·exact z
   ·rw[getElem?_neg Xs j (by lia)]at e;cases e
  rw[getElem?_pos Xs j hj]at e
  rw[←Qt e,gX j hj];exact memA _ _
 have oY:Of a₀ Ys:=λj q e=>by
  have hj:j<Ys.size:=by
   rcases Nat.lt_or_ge j Ys.size with z | z
   ·exact z
   ·rw[getElem?_neg Ys j (by lia)]at e;cases e
  rw[getElem?_pos Ys j hj]at e
  rw[←Qt e,gY j hj];exact memB _ _
 have pX:Xs.toList.Pairwise (le O key):=by rw[eX];exact sA.1.sublist (Xl _ _)
 have pY:Ys.toList.Pairwise (le O key):=by rw[eY];exact sB.1.sublist (Jp _ _)
 have zX:0<Xs.size:=by lia
 have zY:0<Ys.size:=by lia
 have first:O.klt (key Ys[0]) (key Xs[0]):=by rw[gY 0 zY,gX 0 zX];exact k3' _ (by exact Qf _) _
 have lastX:Xs[Xs.size-1]=RA[RA.length-1]:=by
  rw[gX (Xs.size-1) (by exact zar1 ‹_›)]
  congr 1;lia
 have lst:∀y∈Ys.toList,le O key y Xs[Xs.size-1]:=λy hy=>by
  rw[lastX]
  rw[eY]at hy
  obtain⟨j,hj,e⟩:=Qx hy
  rw[Zf]at hj
  rw[←e,Ww]
  exact Yi (n2' j (by lia) (by lia))
 have done:∀ (res:Array Keyed) (a7:SortSt),Mg O key (Xs.toList++Ys.toList) res.toList→SG (SortSt.mk' (kindOf st) (arrOf st) (((pendingOf st).setIfInBounds i (F.length,RA.length+RB.length,pw)).eraseIdxIfInBounds (i+1)) (gallopOf st) (failedOf st)) a7 →
   wpS (model prog w) A E s (do
    modify λz=>SortSt.mk' (kindOf z) (res.toList.zipIdx.foldl (λ(a:Array Keyed) (q:Keyed×Nat)=>a.setIfInBounds (F.length+k+q.2) q.1) (arrOf z)) (pendingOf z) (gallopOf z) (failedOf z)
    let z ←get
    pure (failedOf z).isNone) Q a7:=by
  intro res a7 mg ⟨g,est⟩
  subst est
  refine wpS_bind (wpS_modify (wpS_bind (wpS_get ?_)))
  have eI:failedOf st=none:=R.failed
  show wpS _ _ _ _ (pure (failedOf st).isNone) _ _
  rw[eI]
  rw[eX,eY]at mg
  have perm2:(RA.take k++(res.toList++RB.drop m)).Perm (RA++RB):=by
   have e1:RA++RB=RA.take k++((RA.drop k++RB.take m)++RB.drop m):=by
    rw[Qm (RA.drop k),Zl,←Qm,Zl]
   rw[e1]
   exact Zv _ (Jg _ mg.1)
  have memR:∀x∈res.toList,x∈RA.drop k∨x∈RB.take m:=λx hx=>Qe.mp (mg.1.mem_iff.mp hx)
  have sorted2:(RA.take k++(res.toList++RB.drop m)).Pairwise (le O key):=by
   refine Ya.mpr ⟨sA.1.sublist (Jp _ _),Ya.mpr ⟨mg.2,sB.1.sublist (Xl _ _),λx hx y hy=>?_⟩,λx hx y hy=>?_⟩
   ·rcases memR x hx with z | z
    ·obtain ⟨j,hj,e⟩:=Qx hy
     rw[Yz]at hj
     rw[←e,List.getElem_drop]
     exact zbj (AL x (Wi z)) (n3' _ (by exact Yd _ _) (by lia))
    ·have:=sB.1
     rw[←Zl m RB]at this
     exact(Ya.mp this).2.2 x z y hy
   ·have xle:le O key x RB[0]:=by
     obtain⟨j,hj,e⟩:=Qx hx
     rw[Zf]at hj
     rw[←e,Ww]
     exact k2' j (by lia) (by lia)
    rcases Qe.mp hy with z | z
    ·rcases memR y z with z | z
     ·have:=sA.1
      rw[←Zl k RA]at this
      exact(Ya.mp this).2.2 x hx y z
     ·exact zbj xle (B0 y (Wd z))
    ·exact zbj xle (B0 y (Wi z))
  refine wpS_pure (fin _ _ perm2 sorted2 R.kind rfl ?_ rfl)
  have gI:(arrOf st).toList=(F++RA.take k)++((RA.drop k++RB.take m)++(RB.drop m++(g2.flatten++rest))):=by
   rw[arr]
   have e1:RA++RB=RA.take k++((RA.drop k++RB.take m)++RB.drop m):=by
    rw[Qm (RA.drop k),Zl,←Qm,Zl]
   rw[e1]
   simp only[Qm]
  have lr:=mg.1.length_eq
  have pb:=zf6 (sa:=F.length+k) res.toList 0 (arrOf st) _ _ _ gI (by rw[Ql,Zf];lia) lr.symm
  refine Eq.trans pb ?_
  simp only[Qm]
 by_cases c3:RA.length-k≤m
 ·rw [if_pos c3]
  exact wpS_bind (zd7 C R.kind oX oY pX pY zX zY first lst done)
 ·rw [if_neg c3]
  exact wpS_bind (zd8 C R.kind oX oY pX pY zX zY first lst done)
end
theorem PR.congr:∀{ps dQ:List (Nat×Nat×Nat)} {off:Nat} {gs:List (List Keyed)},(ps.map λq=>(q.1,q.2.1))=(dQ.map λq=>(q.1,q.2.1))→PR ps off gs→PR dQ off gs
 |[],[],_,_,_,h=>h
 |[],_::_,_,_,e,_=>by simp at e
 |_::_,[],_,_,e,_=>by simp at e
 |q::ps,q'::dQ,off,[],e,h=>False.elim h
 |q::ps,q'::dQ,off,g::gs,e,⟨h1,h2,h3⟩=>by
  rw[Qj,Qj]at e
  obtain⟨e1,e2⟩:=List.cons.inj e
  have e3:=congrArg Prod.fst e1
  have e4:=congrArg Prod.snd e1
  exact⟨e3.symm.trans h1,e4.symm.trans h2,PR.congr e2 h3⟩
def flat_ge{gs:List (List Keyed)}(h:∀g∈gs,g≠[]):gs.length≤gs.flatten.length:=by
 induction gs with
 |nil=>simp
 |cons g gs ih =>
  have h1:0<g.length:=Ug.mpr (h g Qd)
  have h2:=ih λg hg=>h g (Qg _ hg)
  rw[Yj,Ql,Zb]
  lia
section
variable{prog:Nj}{w:Nl}{A:Nm}{E:Na}{s:Ng}{kd:SortKind}{O:KeyOrd}{key:Keyed→O.α}{a₀:Array Keyed}
def Rn.size{gs:List (List Keyed)}{rest:List Keyed}{st:SortSt}(R:Rn kd O key a₀ gs rest st):gs.flatten.length+rest.length=a₀.size:=by
 have e:=congrArg List.length R.arr
 rw[Ql,Ym,R.perm.size_eq]at e
 exact e.symm
def Rn.psize{gs:List (List Keyed)}{rest:List Keyed}{st:SortSt}(R:Rn kd O key a₀ gs rest st):(pendingOf st).size=gs.length:=by
 have e:=R.pend.len
 rwa[Ym]at e
def Rn.found{gs:List (List Keyed)}{rest:List Keyed}{st a7:SortSt}{n:Nat}(R:Rn kd O key a₀ gs rest st)(B:Bs kd a₀ (pendingOf st) gs.flatten.length (arrOf st) a7)(u:Up O key (arrOf a7) gs.flatten.length (gs.flatten.length+n))(hn:n≤rest.length) :
  ∃G r,G.length=n∧G.Pairwise (le O key)∧Rn kd O key a₀ gs (G++r) a7:=by
 have sz:(arrOf a7).size=(arrOf st).size:=by rw[B.size,R.perm.size_eq]
 have hz:=R.size
 have e1:(arrOf a7).toList.take gs.flatten.length=gs.flatten:=by
  have:(arrOf a7).toList.take gs.flatten.length=(arrOf st).toList.take gs.flatten.length:=by
   apply Xk
   intro k
   rw[List.getElem?_take,List.getElem?_take]
   split
   next hk=>have:=B.head k hk;simpa using this
   next=>rfl
  rw[this,R.arr,List.take_left]
 refine⟨((arrOf a7).toList.drop gs.flatten.length).take n,((arrOf a7).toList.drop gs.flatten.length).drop n,?_,?_,⟨B.kind,B.failed,B.perm,?_,by rw[B.pend];exact R.pend,R.srt⟩⟩
 ·rw[Zf,Yz,Ym,B.size];lia
 ·refine Wr.mpr fun i j hi hj aX=>?_
  rw[Zf,Yz,Ym,B.size]at hi hj
  rw[Ww,Ww,List.getElem_drop,List.getElem_drop]
  have:=u (gs.flatten.length+i) (gs.flatten.length+j) (by exact Yd _ _) (by lia) (by lia)
  rw[gk_at (by rw[B.size];lia),gk_at (by rw[B.size];lia)]at this
  rw[Array.getElem_toList,Array.getElem_toList]
  exact this
 ·rw [Zl]
  conv=>lhs;rw[←Zl gs.flatten.length (arrOf a7).toList,e1]
def map_mod(f:Nat×Nat×Nat→Nat×Nat×Nat)(hf:∀q,((f q).1,(f q).2.1)=(q.1,q.2.1))(l:List (Nat×Nat×Nat))(i:Nat):((l.modify i f).map λq=>(q.1,q.2.1))=l.map λq=>(q.1,q.2.1):=by
 apply Xk
 intro k
 rw[Qu,Qu,List.getElem?_modify]
 cases l[k]? with
 |none=>simp
 |some q =>
  by_cases e:i=k
  ·simp[e];exact Je (hf q)
  ·simp[e]
def Rn.mod{gs:List (List Keyed)}{rest:List Keyed}{st:SortSt}(R:Rn kd O key a₀ gs rest st)(i:Nat)(f:Nat×Nat×Nat→Nat×Nat×Nat)(hf:∀q,((f q).1,(f q).2.1)=(q.1,q.2.1)):Rn kd O key a₀ gs rest (setPending st ((pendingOf st).modify i f)) :=
 ⟨R.kind,R.failed,R.perm,R.arr,by
  show PR ((pendingOf st).modify i f).toList 0 gs
  rw[Array.toList_modify]
  exact R.pend.congr (map_mod f hf _ i).symm,R.srt⟩
def wpS_sortAll{st:SortSt}{Q:Unit→SortSt→Prop}(C:Cmp prog w A E s kd O key a₀)(hk:kindOf st=kd)(hf:failedOf st=none)(hp:(arrOf st).Perm a₀)(dr:pendingOf st=#[])(h:∀a7,(arrOf a7).Perm a₀→failedOf a7=none→(arrOf a7).toList.Pairwise (le O key)→Q () a7):wpS (model prog w) A E s sortRuns' Q st:=by
 have R0:Rn kd O key a₀ [] (arrOf st).toList st:=⟨hk,hf,hp,by simp,by rw[dr];trivial,λg hg=>by simp at hg⟩
 rw[sortRuns'_eq]
 refine wpS_bind (wpS_get ?_)
 dsimp only
 have hz:(arrOf st).size=a₀.size:=hp.size_eq
 rw[hz]
 generalize minRun' a₀.size a₀.size 0=mr
 refine wpS_bind (wpS_mono (wpS_forRange
  (I:=λx c a7=>Ex2 λgs rest=>Aj3 (c=(none,gs.flatten.length)) (Rn kd O key a₀ gs rest a7) (x≤gs.flatten.length))
  (Q:=λc a7=>Ex2 λgs rest=>Aj3 (c=(none,gs.flatten.length)) (Rn kd O key a₀ gs rest a7) (a₀.size≤gs.flatten.length)) ?step ?fin ⟨[],_,rfl,R0,Zn _⟩) ?post)
 case fin =>
  rintro c a7 ⟨gs,rest,rfl,R,hx⟩
  exact⟨gs,rest,rfl,R,by assumption⟩
 case step =>
  rintro x c ap _ hx ⟨gs,rest,rfl,R,gd⟩
  dsimp only
  have iC:=R.size
  by_cases c0:gs.flatten.length≥a₀.size
  ·rw [if_pos c0]
   exact wpS_pure ⟨gs,rest,rfl,R,c0⟩
  rw[if_neg c0]
  have B0:Bs kd a₀ (pendingOf ap) gs.flatten.length (arrOf ap) ap:=⟨R.kind,R.failed,rfl,R.perm,λ_ _=>rfl⟩
  refine wpS_bind (zga C (by lia) (by lia) B0 λm av B2 m1 m2 u2=>?_)
  dsimp only
  by_cases c1:m<mr
  focus
   rw[if_pos c1]
   refine wpS_bind (wpS_lift (wpAny_rule ⟨rfl,?_⟩))
   refine wpS_bind (ze8 C (by lia) (by lia) B2 u2 λag B3 u3=>?_)
   rw[if_neg (by simp)]
   obtain⟨G,r,g1,g2,R3⟩:=R.found B3 u3 (by lia)
   have G0:1≤G.length:=by lia
  rotate_left
  focus
   rw[if_neg c1]
   obtain⟨G,r,g1,g2,R3⟩:=R.found B2 u2 (by lia)
   have G0:1≤G.length:=by exact zar6 ‹_› ‹_›
  all_goals
   refine wpS_bind (wpS_get ?_)
   have push:∀{ay:List (List Keyed)} {ao:SortSt},Rn kd O key a₀ ay (G++r) ao→ay.flatten.length=gs.flatten.length→Rn kd O key a₀ (ay++[G]) r (SortSt.mk' (kindOf ao) (arrOf ao) ((pendingOf ao).push (gs.flatten.length,G.length,0)) (gallopOf ao) (failedOf ao)):=by
    intro ay ao R4 e4
    refine⟨R4.kind,R4.failed,R4.perm,?_,?_,λg hg=>?_⟩
    ·have:=R4.arr
     simp only[Wj,Yj,Jc,Zy,Qm]
     exact this
    ·show PR ((pendingOf ao).push _).toList 0 _
     rw[Wt]
     exact R4.pend.join ⟨by rw[Ju,e4],rfl,trivial⟩
    ·rcases Qe.mp hg with z | z
     ·exact R4.srt g z
     ·rw [Qb.mp z]
      exact⟨g2,λq=>by rw[q]at G0;simp at G0⟩
   have nx:∀{ay:List (List Keyed)},ay.flatten.length=gs.flatten.length→x+1≤(ay++[G]).flatten.length∧(ay++[G]).flatten.length=gs.flatten.length+G.length:=λ{ay} e=>by
    simp only[Wj,Yj,Jc,Zy,Ql]
    lia
   rw[←g1]
   split
   next =>
    refine wpS_bind (wpS_mono (wpS_forRange (I:=λ_ c ao=>Aj2 (c=(none,())) (Ex1 λay=>Aj2 (Rn kd O key a₀ ay (G++r) ao) (ay.flatten.length=gs.flatten.length))) (Q:=λc ao=>Aj2 (c=(none,())) (Ex1 λay=>Aj2 (Rn kd O key a₀ ay (G++r) ao) (ay.flatten.length=gs.flatten.length))) ?istep (λ_ _ z=>z) ⟨rfl,gs,R3,rfl⟩) ?ipost)
    case istep =>
     rintro y c ao _ _ ⟨rfl,ay,R4,e4⟩
     refine wpS_bind (wpS_get ?_)
     by_cases hs:(pendingOf ao).size>1
     ·rw [if_pos hs,getElem?_pos (pendingOf ao) ((pendingOf ao).size - 2) (by lia)]
      dsimp only
      split
      ·exact wpS_pure ⟨rfl,ay,R4,e4⟩
      ·refine wpS_bind (zck C R4 (by lia) fun su ic R5 l5 f5=>?_)
       rw[if_neg (by simp)]
       exact wpS_pure ⟨rfl,su,R5,f5.trans e4⟩
     ·rw [if_neg hs]
      exact wpS_pure ⟨rfl,ay,R4,e4⟩
    case ipost =>
     rintro c ao ⟨rfl,ay,R4,e4⟩
     dsimp only
     refine wpS_bind (wpS_modify (wpS_bind (wpS_modify (wpS_pure ?_))))
     exact⟨ay++[G],r,by rw[(nx e4).2],push (R4.mod _ _ λq=>rfl) e4,(nx e4).1⟩
   next =>
    refine wpS_bind (wpS_modify (wpS_pure ?_))
    exact⟨gs++[G],r,by rw[(nx rfl).2],push R3 rfl,(nx rfl).1⟩
 case post =>
  rintro c ap ⟨gs,rest,rfl,R,hx⟩
  dsimp only
  have iC:=R.size
  have er:rest=[]:=Jb.mp (by lia)
  subst er
  have aJ:=flat_ge λg hg=>(R.srt g hg).2
  refine wpS_bind (wpS_mono (wpS_forRange (I:=λx c ao=>Aj2 (c=(none,())) (Ex1 λay=>Aj2 (Rn kd O key a₀ ay [] ao) (ay.length+x≤a₀.size+1))) (Q:=λc ao=>Aj2 (c=(none,())) (Ex1 λay=>Aj2 (Rn kd O key a₀ ay [] ao) (ay.length≤1))) ?istep ?ifin ⟨rfl,gs,R,by rw[Jk]at iC;lia⟩) ?ipost)
  case ifin =>
   rintro c ao ⟨rfl,ay,R4,e4⟩
   exact⟨rfl,ay,R4,by lia⟩
  case istep =>
   rintro y c ao _ _ ⟨rfl,ay,R4,e4⟩
   refine wpS_bind (wpS_get ?_)
   have nQ:=R4.psize
   by_cases hs:(pendingOf ao).size≤1
   ·rw [if_pos hs]
    exact wpS_pure ⟨rfl,ay,R4,by exact zd1 ‹_› ‹_›⟩
   ·rw [if_neg hs]
    refine wpS_bind (zck C R4 ?_ λsu ic R5 l5 f5=>?_)
    ·repeat' split
     all_goals lia
    ·rw [if_neg (by simp)]
     exact wpS_pure ⟨rfl,su,R5,by lia⟩
  case ipost =>
   rintro c ao ⟨rfl,ay,R4,e4⟩
   refine wpS_pure (h ao R4.perm R4.failed ?_)
   have ea:=R4.arr
   rw[Zy]at ea
   obtain _ | ⟨g,_ | ⟨g',gs''⟩⟩:=ay
   ·rw[ea];exact List.Pairwise.nil
   ·rw[ea];simpa using(R4.srt g Qd).1
   ·simp at e4
end
section
variable{prog:Nj}{w:Nl}{A:Nm}{E:Na}{s:Ng}{kd:SortKind}{O:KeyOrd}{kv:Value→O.α}
def perm_back{l:List Keyed}{vs:Nh}(h:l.Perm (vs.map λv=>(v,v))):(l.map (·.2)).Perm vs∧∀p∈l,p.1=p.2:=by
 refine⟨?_,λp hp=>?_⟩
 ·have:=h.map (·.2)
  rwa[Zk,show((λ(p:Keyed)=>p.2)∘λv=>(v,v))=id from rfl,List.map_id]at this
 ·obtain ⟨v,_,e⟩:=Qk.mp (h.mem_iff.mp hp)
  rw[←e]
def out_of{l:List Keyed}{vs:Nh}(h:l.Perm (vs.map λv=>(v,v)))(p:l.Pairwise (le O λp=>kv p.1)):(l.map (·.2)).Perm vs∧(l.map (·.2)).Pairwise λx y=>O.kle (kv x) (kv y):=by
 obtain⟨h1,h2⟩:=perm_back h
 refine⟨h1,Ws.mpr (p.imp_of_mem λ{x y} hx hy q=>?_)⟩
 rw[←h2 x hx,←h2 y hy]
 exact q
end
end Tim
end
section
namespace Tm
open PySem PyProof.Rows PySem.W
open AutoSeq1 (wpAny_loadPart')
open MeetsSeq MeetsSeq2 MeetsSeq3 SeqRoads2
section
variable{prog:Nj}{w:Nl}{A:Nm}{E:Na}{s:Ng}{vs:Nh}{h:Nn}
def zbv.ordT{O:KeyOrd}{kv:Value→O.α}(h:2≤vs.length→∃kd:SortKind,(∀Q:SortKind→Shared→Prop,Q kd s→wpAny (model prog w) A (keyKind' vs.toArray) Q E s)∧∀x y,x∈vs→y∈vs→∀(Q:Bool→Shared→Prop) (E':Na),Q (O.blt (kv x) (kv y)) s→wpAny (model prog w) A (keyLt' kd x y) Q E' s):zbv prog w A E s (λws=>ws.Pairwise λx y=>O.kle (kv x) (kv y)) vs:=by
 refine⟨λh2=>?_,λh2=>?_⟩
 ·obtain _ | ⟨v,_ | ⟨v',r⟩⟩:=vs
  ·exact List.Pairwise.nil
  ·exact Ki _ _
  ·exact absurd h2 (by simp)
 obtain⟨kd,a1,a2⟩:=h h2
 refine⟨kd,a1,λQ q=>?_⟩
 refine Tim.wpS_sortAll (kd:=kd) (O:=O) (key:=λp=>kv p.1) (a₀:=pairsOf vs) (λx y st Q' hx hy hk hq=>?_) rfl rfl (.refl _) rfl λa7 hp hf hs=>?_
 ·rw [zci] at hx hy
  obtain⟨v,hv,rfl⟩:=Qk.mp hx
  obtain⟨u,hu,rfl⟩:=Qk.mp hy
  rw[lt'_eq]
  refine wpS_bind (wpS_get ?_)
  rw[hk]
  refine wpS_bind (wpS_lift (wpAny_attempt (a2 v u hv hu _ _ ⟨rfl,?_⟩)))
  exact wpS_pure hq
 ·exact q a7 hp hf (Tim.out_of (by rw[←zci];exact Zz.mp hp) hs).2
def zhf(k:∀ b o,h.get? b=some o→s.heap.get? b=some o)(hv:∀ v∈vs,∃ x q,zeh h v x q)(hd:∀ v∈vs,∀ u∈vs,∀ x p q,zeh h v x p→zeh h u x q→v=u∨∃ y t y' t',p=.str y t∧q=.str y' t'):zbv prog w A E s (fun ws=>ws.Pairwise fun x y=>(pairO strO strO).kle (kvP h x) (kvP h y)) vs:=by
 refine .ordT λh2=>⟨tuples' true,λQ q=>kind_tups k hv h2 q,λv v' hx hy Q E' q=>?_⟩
 have same:=hd v hx v' hy
 obtain⟨x,z,p⟩:=hv v hx
 obtain⟨x',z',p'⟩:=hv v' hy
 have P:=p
 have P':=p'
 rw[P.key,P'.key,blt_p]at q
 obtain⟨a,o,t,n,rfl,e,c,d⟩:=p
 obtain⟨a',o',t',n',rfl,e',c',d'⟩:=p'
 refine kat_lt (k _ _ e) d (k _ _ e') d' ?_
 show KatLex _ _ _ _ _ _ [(Value.str x t,Value.str x' t'),(z,z')] 0 s
 refine kat_cons (wpAny_eqBool_str ?_)
 by_cases ex:x=x'
 ·subst ex
  rw[if_pos rfl]at q
  rw[decide_eq_true rfl]
  refine kat_yes (kat_cons ?_)
  rcases same x z z' P P' with e2 | ⟨y,u,y',u',rfl,rfl⟩
  ·cases e2
   rw[e]at e'
   cases e'
   rw[d]at d'
   have d2:(#[Value.str x t,z]:Array Value)=#[Value.str x t',z']:=by injection d'
   have d3:z=z':=by
    have:=congrArg (λa:Array Value=>a[1]?) d2
    simpa using this
   subst d3
   rw[decide_eq_false (Wn _)]at q
   exact SeqAt.EqAt.same z _ _ _ _ (kat_yes (kat_nil q))
  ·refine wpAny_eqBool_str ?_
   by_cases ey:y=y'
   ·subst ey
    rw[show kvS (Value.str y u')=kvS (Value.str y u) from rfl,decide_eq_false (Wn _)]at q
    rw[decide_eq_true rfl]
    exact kat_yes (kat_nil q)
   ·rw [decide_eq_false ey]
    exact kat_no (kat_one _ _ (lt_str q))
 ·rw [decide_eq_false ex]
  rw[if_neg (str_ne ex)]at q
  exact kat_no (oneLt_str q)
end
end Tm
namespace L2
open PySem PySem.Spec PyProof.Rows Tm
section
variable{X:Cx}
end
end L2
end
section
namespace Tm
open PySem PyProof.Rows PySem.W
open AutoSeq1 (wpAny_loadPart')
open MeetsSeq MeetsSeq2 MeetsSeq3 SeqRoads2
def lexB(O:KeyOrd):List O.α→List O.α→Bool
 |[],[]=>false
 |[],_::_=>true
 |_::_,[]=>false
 |x::xs,y::ys=>O.blt x y||(!O.blt y x&&lexB O xs ys)
def zeu{O:KeyOrd}{x y:O.α}{xs ys:List O.α}:lexB O (x::xs) (y::ys)=(O.blt x y||(!O.blt y x&&lexB O xs ys)):=rfl
def listO(O:KeyOrd):KeyOrd where
 α:=List O.α
 blt:=lexB O
 irrefl a:=by
  induction a with
  |nil=>rfl
  |cons x t ih=>show(O.blt x x||(!O.blt x x&&lexB O t t))=false;rw[O.irrefl,ih];rfl
 trans a b c h1 h2:=by
  induction a generalizing b c with
  | nil =>
   cases c with
   |cons z u=>rfl
   |nil=>cases b with
    |nil=>exact h1
    |cons y v=>cases h2
  | cons x t ih =>
   cases b with
   |nil=>cases h1
   | cons y v =>
    cases c with
    |nil=>cases h2
    | cons z u =>
     rw[zeu,Jl,Jd,Wm]at *
     rcases h1 with h1 | ⟨n1,h1⟩
     ·rcases h2 with h2 | ⟨n2,h2⟩
      ·exact .inl (O.trans _ _ _ h1 h2)
      ·exact .inl (Kw h1 n2)
     ·rcases h2 with h2 | ⟨n2,h2⟩
      ·exact .inl (Kx n1 h2)
      ·exact .inr ⟨Yl n1 n2,ih _ _ h1 h2⟩
 negTrans a b c h:=by
  induction a generalizing b c with
  |nil =>
   cases b with
   |nil=>exact .inr h
   |cons y v=>exact .inl rfl
  | cons x t ih =>
   cases c with
   |nil=>cases h
   | cons z u =>
    cases b with
    |nil=>exact .inr rfl
    | cons y v =>
     rw[zeu,Jl,Jd,Wm]at *
     rw[zeu,Jl,Jd,Wm]
     rcases h with h | ⟨n,h⟩
     ·rcases O.negTrans _ y _ h with q | q
      ·exact .inl (.inl q)
      ·exact .inr (.inl q)
     ·cases e1:O.blt x y with
      |true=>exact .inl (.inl rfl)
      | false =>
       cases e2:O.blt y z with
       |true=>exact .inr (.inl rfl)
       |false =>
        have n1:O.blt y x=false:=Yl (O:=O) (a:=x) (b:=z) (c:=y) n e2
        have n2:O.blt z y=false:=Yl (O:=O) (a:=y) (b:=x) (c:=z) e1 n
        rcases ih v u h with q | q
        ·exact .inl (.inr ⟨n1,q⟩)
        ·exact .inr (.inr ⟨n2,q⟩)
 total a b h1 h2:=by
  induction a generalizing b with
  |nil=>cases b with
   |nil=>rfl
   |cons y v=>cases h1
  | cons x t ih=>cases b with
   |nil=>cases h2
   |cons y v =>
    rw[zeu,Bool.or_eq_false_iff,Bool.and_eq_false_iff,Kf]at h1 h2
    have e1:=O.total _ _ h1.1 h2.1
    subst e1
    have i:=O.irrefl x
    rw[i]at h1 h2
    rw[ih v (h1.2.elim (λz=>by cases z) id) (h2.2.elim (λz=>by cases z) id)]
abbrev kyL(zs:List (Str×Tok)):List (List Nat):=zs.map λp=>p.1.cps.toList
def lt_loopT(l b:Nc)(xs ys:List (Str×Tok))(n n2:Nat)(k:Nat) :
  ∀ i:Nat,min xs.length ys.length - i=k→i≤min xs.length ys.length→Meets (Builtin.«list.__eq__.loop» ⟨[.ref l,.ref b,rawInt i,rawInt 0],[]⟩)
   (fun A R s=>s.heap.get? l=some { cls:=.type "list",data:=.seq (strValues xs).toArray n }∧s.heap.get? b=some { cls:=.type "list",data:=.seq (strValues ys).toArray n2 } ∧
    R (.ok (.ret (.bool (lexB strO (kyL (xs.drop i)) (kyL (ys.drop i)))))) s):=by
 have get:∀(zs:List (Str×Tok)) (i:Nat),(strValues zs).toArray[((i:Nat):Int).toNat]?=zs[i]?.map λp=>Value.str p.1 p.2:=λzs i=>by
  simp[strValues]
 have sz:∀zs:List (Str×Tok),(strValues zs).toArray.size=zs.length:=λzs=>by simp[strValues]
 induction k with
 | zero =>
  intro i hk jc prog w A R s h
  obtain⟨hp,g,d,tk,os⟩:=s;obtain⟨hl,hb,h⟩:=h
  wp_walk using wpAny_loadPart' hl,wpAny_loadPart' hb
  rw[get,get]
  by_cases hx:i<xs.length
  ·have hy:ys[i]?=none:=by simp;lia
   rw[hy,Qc hx]
   dsimp only[Option.map_some,Option.map_none]
   wp_walk using wpAny_loadPart' hl,wpAny_loadPart' hb
   rw[Yc hx,Jf (l:=ys) (by lia)]at h
   show R (.ok (.ret (.bool (decide ((strValues xs).toArray.size<(strValues ys).toArray.size))))) _
   rw[sz,sz,decide_eq_false (by lia)]
   exact h
  ·have cg:xs[i]?=none:=by simp;lia
   rw[cg]
   dsimp only[Option.map_some,Option.map_none]
   wp_walk using wpAny_loadPart' hl,wpAny_loadPart' hb
   rw[Jf (l:=xs) (by lia)]at h
   show R (.ok (.ret (.bool (decide ((strValues xs).toArray.size<(strValues ys).toArray.size))))) _
   rw[sz,sz]
   by_cases hy:i<ys.length
   ·rw [Yc hy] at h
    rw[decide_eq_true (by lia)]
    exact h
   ·rw [Jf (by lia)] at h
    rw[decide_eq_false (by lia)]
    exact h
 | succ k ih =>
  intro i hk jc prog w A R s h
  obtain⟨hp,g,d,tk,os⟩:=s;obtain⟨hl,hb,h⟩:=h
  wp_walk using wpAny_loadPart' hl,wpAny_loadPart' hb
  have hx:i<xs.length:=by lia
  have hy:i<ys.length:=by lia
  rw[get,get,Qc hx,Qc hy]
  dsimp only[Option.map_some]
  have hc:((i:Int)+1)=((i+1:Nat):Int):=by push_cast;rfl
  have ex:xs.drop i=xs[i]::xs.drop (i+1):=Yc hx
  have ey:ys.drop i=ys[i]::ys.drop (i+1):=Yc hy
  rw[ex,ey]at h
  refine wpAny_bind (wpAny_eqBool_str ?_)
  by_cases he:xs[i].1=ys[i].1
  ·rw [decide_eq_true he]
   wp_walk
   rw[hc]
   have e2:lexB strO (kyL (xs[i]::xs.drop (i+1))) (kyL (ys[i]::ys.drop (i+1)))=lexB strO (kyL (xs.drop (i+1))) (kyL (ys.drop (i+1))):=by
    show(strO.blt _ _||(!strO.blt _ _&&lexB strO _ _))=_
    rw[show(λp:Str×Tok=>p.1.cps.toList) ys[i]=(λp:Str×Tok=>p.1.cps.toList) xs[i] from by show ys[i].1.cps.toList=xs[i].1.cps.toList;rw[he],strO.irrefl];rfl
   rw[e2]at h
   exact⟨plainId_quiet plain_eq_loop _,codeAny_builtin entry_eq_loop (by
    rw[Wx plain_eq_loop _]
    exact ih (i+1) (by lia) (by lia) prog w A R _ ⟨hl,hb,h⟩)⟩
  ·rw [decide_eq_false he]
   wp_walk using wpAny_loadPart' hl,wpAny_loadPart' hb
   rw[get,get,Qc hx,Qc hy]
   dsimp only[Option.map_some]
   refine wpAny_bind (show wpAny _ _ (compareOp .Lt (Value.str xs[i].1 xs[i].2) (Value.str ys[i].1 ys[i].2)) _ _ _ from lt_str ?_)
   wp_walk
   have e2:lexB strO (kyL (xs[i]::xs.drop (i+1))) (kyL (ys[i]::ys.drop (i+1)))=strO.blt xs[i].1.cps.toList ys[i].1.cps.toList:=by
    show(strO.blt _ _||(!strO.blt _ _&&lexB strO _ _))=_
    cases h1:strO.blt xs[i].1.cps.toList ys[i].1.cps.toList with
    |true=>rfl
    |false =>
     cases h2:strO.blt ys[i].1.cps.toList xs[i].1.cps.toList with
     |true=>rfl
     |false=>exact absurd (str_ext (strO.total _ _ h1 h2)) he
   rw[e2]at h
   exact h
def list_ltT(l b:Nc)(xs ys:List (Str×Tok))(n n2:Nat):Meets (Builtin.«list.__lt__» ⟨[.ref l,.ref b],[]⟩)
   (fun A R s=>s.heap.get? l=some { cls:=.type "list",data:=.seq (strValues xs).toArray n }∧s.heap.get? b=some { cls:=.type "list",data:=.seq (strValues ys).toArray n2 } ∧
    R (.ok (.ret (.bool (lexB strO (kyL xs) (kyL ys))))) s):=by
 intro prog w A R s h
 obtain⟨hp,g,d,tk,os⟩:=s;obtain⟨hl,hb,h⟩:=h
 have f3:=AutoSeq1.sub_list_list
 wp_walk using wpAny_loadPart' hl,wpAny_loadPart' hb
 exact⟨plainId_quiet plain_eq_loop _,codeAny_builtin entry_eq_loop (by
  rw[Wx plain_eq_loop _]
  exact lt_loopT l b xs ys n n2 _ 0 rfl (Zn _) prog w A R _ ⟨hl,hb,h⟩)⟩
def kvL(h:Nn)(v:Value):List (List Nat):=(zg7 h v).map kvS
section
variable{prog:Nj}{w:Nl}{A:Nm}{E:Na}{s:Ng}
def kvL_ref{h:Nn}{a:Nc}{xs:List (Str×Tok)}{n:Nat}(e:h.get? a=some {cls:=.type "list",data:=.seq (strValues xs).toArray n}):kvL h (.ref a)=kyL xs:=by
 unfold kvL
 rw[zg6 e rfl]
 simp only[strValues,Zk]
 rfl
def zgf{vs:Nh}{h:Nn}(hu:A.units<cLine)(k:∀b o,h.get? b=some o→s.heap.get? b=some o)(hv:∀v∈vs,∃a xs n,v=.ref a∧h.get? a=some {cls:=.type "list",data:=.seq (strValues xs).toArray n}):zbv prog w A E s (λws=>ws.Pairwise λx y=>(listO strO).kle (kvL h x) (kvL h y)) vs:=by
 refine .ordT λh2=>⟨oneType',λQ q=>kas_kind (T:=.type "list") h2 (λv hm=>?_) (by decide) (by decide) q,λx y hx hy Q E' q=>?_⟩
 ·obtain ⟨a,xs,n,rfl,e⟩:=hv v hm
  exact(Looks.ld (k _ _ e)).andThen .now
 ·obtain ⟨a,xs,n,rfl,e⟩:=hv x hx
  obtain⟨b,ys,m,rfl,e'⟩:=hv y hy
  rw[kvL_ref e,kvL_ref e']at q
  rw[keyLt'_oneType,oneLt'_eq]
  simp only[if_true]
  refine wpAny_bind (wpAny_cRoomFor hu ?_)
  refine wpAny_bind (wpAny_callSpecialIfBound?_slot ⟨_,k _ _ e,rfl⟩ F.slot_list_lt (call_meets F.slot_list_lt ⟨_,k _ _ e,rfl⟩ F.entry_list_lt (F.args_list_lt_2 _ _) (list_ltT a b xs ys n m) ⟨k _ _ e,k _ _ e',?_⟩))
  exact wpAny_truthy_bool q
end
end Tm
namespace L2
open PySem PySem.Spec PyProof.Rows Tm
def lstV(H:Hp):V→List (List Nat)
 |.ref a=>match H a with
  |some (.lst xs)=>xs.map txV
  |_=>[]
 |_=>[]
def zim(e:H a=some (.lst xs)):lstV H (.ref a)=xs.map txV:=by
 unfold lstV;dsimp only;rw[e]
section
variable{X:Cx}
def zcz(hu:X.A.units+8<cLine):zce X (.builtin "sorted") (λxs H Q=>Ex2 λ(p:Nc) (ys:List V)=>Aj4 (xs=[.ref p]) (SqL X.K H p ys) (∀v∈ys,∃a zs,v=.ref a∧H a=some (.lst (List.map V.str zs))) (∀(l:Nc) (ws:List V),H l=none→ws.Perm ys→(ws.Pairwise λa b=>(listO strO).kle (lstV H a) (lstV H b))→Q (.ref l) (upd H l (.lst ws)))):=by
 intro a6 s σ H xs us Q I r h
 obtain⟨p,ys,rfl,hq,hy,q⟩:=h
 obtain⟨u,rfl,rx⟩:=vals1 r
 cases rx
 refine zd9 I hq (λa8 r A' E' s' hA k=>zgf (by exact We ‹_› ‹_›) k λv hv=>?_) λl ws a8 us hl p1 r1 r2 p2=>q l ws hl p1 ?_
 ·obtain ⟨b,hb,ru⟩:=zgb r v hv
  obtain⟨a,zs,rfl,e2⟩:=hy b hb
  cases ru
  obtain⟨_,ax,n,r2,e3⟩:=I.hok a _ e2
  obtain⟨l2,rfl,_⟩:=zej r2
  exact⟨a,l2,n,rfl,e3⟩
 ·refine Vals.pairwise (R:=fun a b=>(listO strO).kle a b) r2 (fun v hv u ru=>?_) p2
  obtain⟨a,zs,rfl,e2⟩:=hy v (p1.mem_iff.mp hv)
  cases ru
  obtain⟨_,ax,n,r3,e3⟩:=I.hok a _ e2
  obtain⟨l2,rfl,z⟩:=zej r3
  rw[kvL_ref e3,zim e2]
  rw[←z,Zk,Zk];rfl
end
def keyP(p:Str×Str):List Nat×List Nat:=(p.1.cps.toList,p.2.cps.toList)
def leP(a b:Str×Str):Prop:=(pairO strO strO).kle (keyP a) (keyP b)
def zcn{α β γ:Type}{R:α→β→Prop}{S:γ→γ→Prop}{f:α→γ}{g:β→γ}{as:List α}{bs:List β}(h:Paired R as bs)(e:∀ a b,R a b→f a=g b)(p:as.Pairwise fun x y=>S (f x) (f y)):bs.Pairwise fun x y=>S (g x) (g y):=by
 have mem:∀{as:List α} {bs:List β},Paired R as bs→∀b∈bs,∃a∈as,R a b:=λ{as bs} h=>by
  induction h with
  |nil=>intro b hb;cases hb
  | cons h t ih =>
   intro b hb
   rcases Qh.mp hb with z | z
   ·exact⟨_,Qd,z▸h⟩
   ·obtain ⟨a,ha,r⟩:=ih b z
    exact⟨a,Qg _ ha,r⟩
 induction h with
 |nil=>exact .nil
 |cons h t ih =>
  rw[Uc]at p
  refine Uc.mpr ⟨λb hb=>?_,ih p.2⟩
  obtain⟨a,ha,r⟩:=mem t b hb
  rw[←e _ _ h,←e _ _ r]
  exact p.1 a ha
section
variable{X:Cx}
def zhd(hc:X.calm=true):zce X (.builtin "sorted") (fun xs H Q=>Ex3 fun (d:Nc) (kvs:List (List Key×V)) (qs:No)=>Aj4 (xs=[.ref d]) (H d=some (.dT kvs)) (kvs.map (·.1)=qs.map kP) (∀ (l:Nc) (as:Nk) (ws:No),H l=none→ws.Perm qs→zbf H as ws→ws.Pairwise leP→Q (.ref l) (upd H l (.lst (as.map V.ref))))):=by
 intro a6 s σ H xs us Q I r h
 obtain⟨d,kvs,qs,rfl,hq,ek,q⟩:=h
 obtain⟨u,rfl,rx⟩:=vals1 r
 cases rx
 obtain⟨z,lo,ts,rk,o,es,ep,e1,e2,e3,e4,e5⟩:=(show zbt X.prog X.w H s.heap d (.dT kvs) from I.hok d _ hq)
 have jI:RawD.At s.heap d es ep:=⟨o,e1,e2,e3⟩
 have aa:kvs.length=ts.length:=Zx rk
 have aF:es.size=ts.length:=by rw[←Ym,e4,Qa]
 have hJ:zbf H (ts.map λt=>t.2.1) qs:=by
  clear e4 e5 aF aa jI z q hq
  induction rk generalizing qs with
  |nil =>
   cases qs with
   |nil=>exact .nil
   |cons a b=>cases ek
  | @cons p t ps ts' h1 t1 ih =>
   cases qs with
   |nil=>cases ek
   |cons a b =>
    rw[Qj,Qj]at ek
    injection ek with k1 k2
    refine .cons ?_ (ih _ k2)
    have:=h1.2.1
    rw[k1]at this
    exact this
 have ll:∀am:Array Value,ItemsOf (λi v=>∃e,es[i]?=some e∧v=e.key) am es.size→am.toList=(ts.map λt=>t.2.1).map Value.ref:=λam hi=>by
  apply Xk
  intro i
  rw[Qu,Qu]
  by_cases ad:i<es.size
  ·have qx:i < am.size:=by rw [hi.1];exact ad
   have a1:am[i]?=some am[i]:=Xi qx
   obtain⟨e,h1,h2⟩:=hi.2 i _ a1
   rw[Us,a1,h2]
   have h3:es.toList[i]?=some e:=by rw[Us];exact h1
   rw[e4,Qu]at h3
   cases ht:ts[i]? with
   |none=>rw[ht]at h3;cases h3
   |some t =>
    rw[ht]at h3
    have h4:entryOfKey (tupleKind (zar X.prog X.w)) t=e:=Qt h3
    rw[←h4];rfl
  ·have a1:am.toList[i]?=none:=by rw [Us];exact Array.getElem?_eq_none (by rw [hi.1];lia)
   have a2:ts[i]?=none:=Ua (by lia)
   rw[a1,a2];rfl
 have hvr:∀as:List Addr,Vals (as.map V.ref) (as.map Value.ref):=λas=>by
  induction as with
  |nil=>exact .nil
  |cons a r ih=>exact .cons rfl ih
 refine zfc (R:=λa8 ws=>ws.Pairwise λx y=>(pairO strO strO).kle (kvP s.heap x) (kvP s.heap y)) (G:=λa8=>a8=(ts.map λt=>t.2.1).map Value.ref) (λE' R hR=>zhc (RawD.src lo) (show X.A.in1.handled=none from I.ok.hd hc) jI (by lia) λg tk am k le hi=>hR g tk _ k le (ll am hi))
  (λa8 e=>by rw[e,Qa,Qa];exact zd1 ‹_› ‹_›) (λa8 e A' E' s' _ k=>?_) λa8 ws l g tk e r p1 p2 le k he=>?_
 ·have all:∀ v∈a8,∃ x y t,zeh s.heap v x (.str y t):=fun v hv=>by
   rw[e]at hv
   obtain⟨a,ha,rfl⟩:=Qk.mp hv
   obtain⟨rr,lv⟩:∃r:Str×Str,H a=some (.tup [.str r.1,.str r.2]):=pairs_mem hJ ha
   obtain⟨q',⟨t,rfl⟩,T⟩:=zf0 I lv
   exact⟨_,_,t,T⟩
  refine zhf k (λv hv=>let⟨x,y,t,T⟩:=all v hv;⟨x,_,T⟩) λv hv u hu x p q T T'=>.inr ?_
  obtain⟨_,y,t,T1⟩:=all v hv
  obtain⟨_,y',t',T2⟩:=all u hu
  exact⟨y,t,y',t',(zf1 T T1).2,(zf1 T' T2).2⟩
 ·subst r
  obtain⟨as,rfl,p3⟩:∃as:List Addr,ws=as.map Value.ref∧as.Perm (ts.map λt=>t.2.1):=by
   have key:∀{ws:Nh} {bs:Nk},ws.Perm (bs.map Value.ref)→∃as:List Addr,ws=as.map Value.ref∧as.Perm bs:=λ{ws bs} pm=>by
    have a2:∃as:List Addr,ws=as.map Value.ref:=by
     have a1:∀v∈ws,∃a,v=Value.ref a:=λv hv=>by
      obtain⟨a,_,e⟩:=Qk.mp (pm.mem_iff.mp hv)
      exact⟨a,e.symm⟩
     clear pm
     induction ws with
     |nil=>exact⟨[],rfl⟩
     |cons v r ih =>
      obtain⟨as,e⟩:=ih λv hv=>a1 v (Qg _ hv)
      obtain⟨x,e2⟩:=a1 v Qd
      exact⟨x::as,by rw[e,e2];rfl⟩
    obtain⟨as,rfl⟩:=a2
    refine⟨as,rfl,?_⟩
    have:=pm.map (λv=>match v with | .ref a=>a | _=>0)
    rw[Zk,Zk]at this
    simpa[Function.comp_def] using this
   exact key p1
  obtain⟨qs',q1,q2⟩:=zcm p3 hJ
  refine⟨.ref l,_,I.laid (t':=tk) k le (show zbt X.prog X.w _ g _ (.lst _) from⟨?_,as.map Value.ref,e,hvr as,he⟩),rfl,q l as qs' (I.hok.fresh le) q1 q2 ?_⟩
  ·rw[Qa,p3.length_eq,Qa];exact zd1 ‹_› ‹_›
  ·rw [Ws] at p2
   refine zcn (f:=λa=>kvP s.heap (.ref a)) (g:=keyP) q2 (λa b e=>?_) p2
   obtain⟨q',⟨t,rfl⟩,T⟩:=zf0 I e
   rw[T.key];rfl
end
end L2
end
section
set_option Elab.async false
set_option linter.all false
namespace L2
open PySem PySem.Spec PyProof.Rows
def fsk{N P:Ni}{sc:Scope}(a:sc.kind=.function:=by rfl)(b:sc.isCoroutine=false:=by rfl)(c:sc.isGenerator=false:=by rfl)(d:N.Nodup:=by decide +kernel)(e:N.take P.length=P:=by rfl)(f:∀x∈P,sc.names.lookup x=some .local∨sc.names.lookup x=some .cell:=by decide +kernel)(g:∀y∈sc.names,y.2≠.free:=by decide +kernel):zas N P sc:=⟨a,b,c,d,e,f,g⟩
section
variable{X:Cx}
def zaw(i:Nat){x:Str}{e:Expr}{te:TE}{pos bh:Pos}(hN:X.N.Nodup)(he:PE X e te)(hi:X.N[i]?=some x:=by rfl)(hx:Loc X.env.scope x:=by exact Or.inl rfl)(hs:swapsWith e (some (.Name x bh)) pos.line X.env=pure false:=by rfl)(hf:X.fn x=true∨X.env.scope.names.lookup x=some .local:=by first | exact .inl rfl | exact .inr rfl | assumption) :
  PS X (.Assign [.Name x bh] e pos) (tAsg te (gName i)):=ps_set hN hi hx he hs hf
def za8(i:Nat){x:Str}{pos:Pos}(hN:X.N.Nodup)(hi:X.N[i]?=some x:=by rfl)(hx:Loc X.env.scope x:=by exact Or.inl rfl)(hf:X.fn x=true∨X.env.scope.names.lookup x=some .local:=by first | exact .inl rfl | exact .inr rfl | assumption):PG X (.Name x pos) (gName i):=pg_name hN hi hx hf
def zgn{o i:Expr}{td ty:TE}{pos:Pos}(hu:X.A.units+1<cLine)(ho:PE X o td)(hi:PE X i ty)(hs:NoSl i:=by exact λ_ _=>rfl):PE X (.Subscript o i pos) (tDGet td ty):=pe_dget hu ho hi hs
end
end L2
namespace L2
open PySem PySem.Spec PyProof.Rows
def Fun.okL{P:Nj}{w:Nl}{K:Nb}{mg:Nf}{base:Nn}{x qual:Str}{st:Stmt}{f:Nc}{fd:Nt}{N ps:Ni}{k:Nat}{sp:Sp}(F:Fun K x qual st f fd)(S:zas N ps (zag st))(cz:∀ (cdv:Value) (A:Nm) (outer:List Env) (s:Ng) (H:Hp) (vs:List V) (Q:VK) (E:XK),Room k (A.deeper (envOfC qual (zag st) s.heap.objs.size f cdv))→sp vs H Q E →
   ∃t,PSs (cxOf CX0 P w K mg base N qual (zag st) f cdv A outer s H E).nox (zcc st) t∧t {nx:=λ_ H'=>Q .non H',rt:=Q} (start N vs) H)(len:∀vs H Q E,sp vs H Q E→vs.length=ps.length:=by intro _ _ _ _ h;cases h;subst_vars;rfl):FnOk P w K mg base CX0 (k+1) f fd ps sp:=F.ok S len cz
end L2
end
section
namespace K21
open PySem L2
abbrev qR:Str := "_law_rounds_here"
abbrev qP:Str := "_law_pot_here"
abbrev qM:Str := "_law_many"
abbrev qO:Str := "_law_other"
abbrev qS:Str := "_law_script"
abbrev qN:Str := "_law_names_here"
def top(i:Nat):Stmt:=PySem.Challenge.pw_fivehues_k12_faces_and_pieces.main.body.getD i (.Pass ⟨0,0,0,0⟩)
def eOf:Stmt→Expr
 |.Assign _ e _=>e
 |.Return (some e) _=>e
 |.For _ e _ _ _=>e
 |.While e _ _ _=>e
 |_=>.Name "" ⟨0,0,0,0⟩
def bOf:Stmt→List Stmt
 |.For _ _ b _ _=>b
 |.If _ b _ _=>b
 |_=>[]
def aOf(i:Nat):Expr→Expr
 |.Call _ a _ _=>a.getD i (.Name "" ⟨0,0,0,0⟩)
 |.BinOp l _ r _=>[l,r].getD i l
 |.BoolOp _ a _=>a.getD i (.Name "" ⟨0,0,0,0⟩)
 |.Compare _ _ a _=>a.getD i (.Name "" ⟨0,0,0,0⟩)
 |e=>e
def scOf:Expr→Scope
 |.ListComp _ _ sc _=>sc
 |.DictComp _ _ _ sc _=>sc
 |_=>{kind:=.function,names:=[],isGenerator:=false,isCoroutine:=false}
abbrev sAt(s:Stmt)(i:Nat):Stmt:=(zcc s).getD i (.Pass ⟨0,0,0,0⟩)
abbrev bAt(s:Stmt)(i:Nat):Stmt:=(bOf s).getD i (.Pass ⟨0,0,0,0⟩)
def Pot(H:Hp)(p:Nc)(b m:Int):Prop:=H p=some (.lst [.int b,.int m])∧0≤b∧0≤m∧m<2147483648
inductive IspTake(vs:List V)(H:Hp)(Q:VK):Prop
 |mk (p:Nc) (b m n:Int) (h0:vs=[.ref p,.int n]) (h1:Pot H p b m) (h2:0<n) (h3:n<1073741824) (h4:∀(d b' m':Int) (H':Hp),0≤d→d<n→Pot H' p b' m'→(∀c o,H c=some o→c≠p→H' c=some o)→Q (.int d) H'):IspTake vs H Q
def zhn:Sp:=λvs H Q _=>IspTake vs H Q
section
variable{P:Nj}{w:Nl}{K:Nb}{mg:Nf}{base:Nn}
end
end K21
end
section
namespace Wb
section
variable{α:Type}[DecidableEq α]
def nxt(zs:List α)(x:α):α:=zs.getD ((zs.idxOf x+1)%zs.length) x
def ins(zs:List α):Option α→α→List α
 |none,n=>n::zs
 |some c,n=>zs.take (zs.idxOf c+1)++n::zs.drop (zs.idxOf c+1)
abbrev Rs(α:Type):=List (α×List α)
def row(rs:Rs α)(x:α):List α:=((rs.find? λp=>decide (p.1=x)).map (·.2)).getD []
def zbg(rs:Rs α)(x:α)(r:List α):Rs α:=rs.map λp=>if p.1=x then(p.1,r) else p
def stp(rs:Rs α)(s:α×α):α×α:=(s.2,nxt (row rs s.2) s.1)
end
end Wb
namespace K21
open PySem L2 Wb
def Keep(xs:Nk)(H H':Hp):Prop:=∀c o,H c=some o→c∉xs→H' c=some o
def Keep.refl:Keep xs H H:=λ_ _ e _=>e
def Keep.trans(a:Keep xs H H1)(b:Keep xs H1 H2):Keep xs H H2:=λc o e n=>b c o (a c o e n) n
def Keep.sub(a:Keep xs H H1)(h:∀x∈xs,x∈ys):Keep ys H H1:=λc o e n=>a c o e λz=>n (h c z)
def Keep.new(h:H l=none):Keep xs H (upd H l o):=λc u e _=>by rw[zaf (zab e h)];exact e
def Keep.wr(h:l∈xs):Keep xs H (upd H l o):=λc u e n=>by rw[zaf (λz=>n (by rw[z];exact h))];exact e
abbrev Ent:=Str×List Str×Addr
def rsOf(es:List Ent):Rs Str:=es.map λe=>(e.1,e.2.1)
def zhl{es:List Ent}(nd:(es.map (·.1)).Nodup){e:Ent}(h:e∈es):valV (es.map fun e=>((Sum.inr e.1:Key),V.ref e.2.2)) (Sum.inr e.1)=some (.ref e.2.2):=by
 induction es with
 |nil=>cases h
 | cons a t ih =>
  rw[Qj,Za]at nd
  rw[Qj]
  rcases Qh.mp h with z | z
  ·subst z;exact zdb rfl
  ·rw [zbx]
   ·exact ih nd.2 z
   ·intro q
    exact nd.1 (by rw[Kg q];exact Qk.mpr ⟨e,z,rfl⟩)
def val_out{es:List Ent}{x:Str}(h:x∉es.map (·.1)):valV (es.map λe=>((Sum.inr e.1:Key),V.ref e.2.2)) (Sum.inr x)=none:=by
 induction es with
 |nil=>rfl
 |cons a t ih =>
  rw[Qj,Qh,not_or]at h
  rw[Qj,zbx]
  ·exact ih h.2
  ·intro q;exact h.1 (Kg q).symm
def zb6(nd:(es.map (·.1)).Nodup)(h:e∈es):row (rsOf es) e.1=e.2.1:=by
 unfold row rsOf
 induction es with
 |nil=>cases h
 | cons a t ih =>
  rw[Qj,Za]at nd
  rw[Qj]
  rcases Qh.mp h with z | z
  ·subst z;rw[Ui (by simp)];rfl
  ·rw [Uj]
   ·exact ih nd.2 z
   ·intro q
    exact nd.1 (by rw[of_decide_eq_true q];exact Qk.mpr ⟨e,z,rfl⟩)
def put_new{es:List Ent}{x:Str}{r:Ni}{a:Nc}(h:x∉es.map (·.1)):putK (es.map λe=>((Sum.inr e.1:Key),V.ref e.2.2)) (Sum.inr x) (.ref a)=(es++[(x,r,a)]).map λe=>((Sum.inr e.1:Key),V.ref e.2.2):=by
 rw[zf7 _ (val_out h),Qs]
 rfl
def cut_to{xs:List V}{k:Nat}(h:k≤xs.length):cutV xs none (some (k:Int))=xs.take k:=by
 unfold cutV
 have e1:HT.sIx xs.length 0 none=0:=rfl
 have e2:HT.sIx xs.length xs.length (some (k:Int))=k:=by rw[HT.sIx_nat];omega
 rw[e1,e2];simp
def ze2{xs:List V}{k:Nat}(h:k≤xs.length):cutV xs (some (k:Int)) none=xs.drop k:=by
 unfold cutV
 have e1:HT.sIx xs.length 0 (some (k:Int))=k:=by rw[HT.sIx_nat];omega
 have e2:HT.sIx xs.length xs.length none=xs.length:=rfl
 rw[e1,e2,Qv (by rw[Yz];exact Qf _)]
def idx_lt{zs:Ni}{x:Str}(h:x∈zs):zs.idxOf x<zs.length:=Ux.mpr h
def index_of{zs:Ni}{x:Str}(h:x∈zs):(∃ z,(zs.map V.str)[zs.idxOf x]?=some z∧eqV z (.str x)=true)∧∀ m z,m < zs.idxOf x→(zs.map V.str)[m]?=some z→eqV z (.str x)=false:=by
 refine⟨⟨.str x,?_,beq_self_eq_true x⟩,λm z hm e=>?_⟩
 ·rw[Qu,Qc (idx_lt h),Xe];rfl
 ·rw [Qu] at e
  have bg:m<zs.length:=Wu hm (idx_lt h)
  rw[Qc bg]at e
  cases e
  show(zs[m]==x)=false
  refine beq_eq_false_iff_ne.mpr λq=>?_
  have aH:∀(l:Ni) (j:Nat) (hj:j<l.length),l[j]=x→l.idxOf x≤j:=by
   intro l
   induction l with
   |nil=>intro j hj;simp at hj
   | cons a t ih =>
    intro j hj e
    rw[Xz]
    cases j with
    |zero =>
     have e':a=x:=e
     rw[e'];simp
    | succ i =>
     have:=ih i (by simpa using hj) (by simpa using e)
     by_cases h:a=x
     ·rw[h];simp
     ·have hb:(a == x)=false:=beq_eq_false_iff_ne.mpr h
      rw[hb];simp;assumption
  have:=aH zs m bg q
  omega
def zcq(zs:Ni):(zs.map V.str).all zdp=true:=by
 rw[Jv];intro v hv;obtain⟨x,_,rfl⟩:=Qk.mp hv;rfl
end K21
end
section
namespace K21
open PySem L2 Wb
section
variable{P:Nj}{w:Nl}{K:Nb}{mg:Nf}{base:Nn}
end
end K21
end
section
namespace Wb
section
variable{α:Type}[DecidableEq α]
def itr(rs:Rs α)(s:α×α):Nat→α×α
 |0=>s
 |n+1=>stp rs (itr rs s n)
def IsSt(rs:Rs α)(s:α×α):Prop:=∃p∈rs,p.1=s.2∧s.1∈p.2
def allSt(rs:Rs α):List (α×α):=rs.flatMap λp=>p.2.map λx=>(x,p.1)
def mem_allSt{rs:Rs α}{s:α×α}:s∈allSt rs↔IsSt rs s:=by
 unfold allSt IsSt
 rw[List.mem_flatMap]
 constructor
 ·rintro ⟨p,hp,h⟩
  obtain⟨x,hx,rfl⟩:=Qk.mp h
  exact⟨p,hp,rfl,hx⟩
 ·rintro ⟨p,hp,e,hx⟩
  exact⟨p,hp,Qk.mpr ⟨s.1,hx,by rw[e]⟩⟩
def Clo(rs:Rs α):Prop:=∀s,IsSt rs s→IsSt rs (stp rs s)
theorem itr_st{rs:Rs α}(c:Clo rs){s:α×α}(h:IsSt rs s):∀n,IsSt rs (itr rs s n)
 |0=>h
 |n+1=>c _ (itr_st c h n)
def run(rs:Rs α)(s:α×α)(n:Nat):List (α×α):=(List.range n).map (itr rs s)
def run_succ(rs:Rs α)(s:α×α)(n:Nat):run rs s (n+1)=run rs s n++[itr rs s n]:=by
 unfold run;rw[List.range_succ,List.map_append];rfl
def zgx{l m:List (α×α)}(nd:l.Nodup)(h:∀x∈l,x∈m):l.length≤m.length:=by
 induction l generalizing m with
 |nil=>exact Zn _
 |cons a t ih =>
  rw[Za]at nd
  have ha:=h a Qd
  have:=ih (m:=m.erase a) nd.2 λx hx=>(List.mem_erase_of_ne (λe=>nd.1 (by rw[←e];exact hx))).mpr (h x (Qg _ hx))
  rw[List.length_erase_of_mem ha]at this
  have hp:0<m.length:=Kl ha
  rw[Zb];lia
end
end Wb
namespace K21
open PySem L2 Wb
section
variable{P:Nj}{w:Nl}{K:Nb}{mg:Nf}{base:Nn}
def zbf.keep{H H':Hp}{as:Nk}{qs:No}(r:zbf H as qs)(k:∀b x y,H b=some (.tup [x,y])→H' b=some (.tup [x,y])):zbf H' as qs:=by
 induction r with
 |nil=>exact .nil
 |cons h t ih=>exact .cons (k _ _ _ h) ih
end
end K21
end
section
namespace Wb
section
variable{α:Type}[DecidableEq α]
structure Gen(G:Rs α→Prop):Prop where
 clo:∀rs,G rs→Clo rs
 nd:∀rs,G rs→(rs.map (·.1)).Nodup
 sub:∀rs,G rs→∀p∈rs,p.2.Nodup∧∀x∈p.2,x∈rs.map (·.1)
 sy:∀rs,G rs→∀p∈rs,∀x∈p.2,p.1∈row rs x
 nil:G []
 new:∀rs x,G rs→x∉rs.map (·.1)→G (rs++[(x,[])])
 leaf:∀rs x p c,G rs→x∉rs.map (·.1)→p∈rs→(∀y,c=some y→y∈p.2)→(c=none→p.2=[])→G (zbg (zbg (rs++[(x,[])]) p.1 (ins p.2 c x)) x [p.1])
 tie:∀rs c p n,G rs→p∈rs→c∈p.2→(itr rs (c,p.1) n).2≠p.1→(itr rs (c,p.1) n).2∉p.2 →
  G (zbg (zbg rs p.1 (ins p.2 (some c) (itr rs (c,p.1) n).2)) (itr rs (c,p.1) n).2 (ins (row rs (itr rs (c,p.1) n).2) (some (itr rs (c,p.1) n).1) p.1))
def zcf{l m:List α}(nd:l.Nodup)(h:∀x∈l,x∈m):l.length≤m.length:=by
 induction l generalizing m with
 |nil=>exact Zn _
 |cons a t ih =>
  rw[Za]at nd
  have ha:=h a Qd
  have:=ih (m:=m.erase a) nd.2 λx hx=>(List.mem_erase_of_ne (λe=>nd.1 (by rw[←e];exact hx))).mpr (h x (Qg _ hx))
  rw[List.length_erase_of_mem ha]at this
  have hp:0<m.length:=Kl ha
  rw[Zb];lia
def Gen.rows{G:Rs α→Prop}(g:Gen G){rs:Rs α}(h:G rs):∀p∈rs,p.2.length≤rs.length:=λp hp=>by
 obtain⟨a,b⟩:=g.sub rs h p hp
 have:=zcf a b
 rwa[Qa]at this
def Gen.steps{G:Rs α→Prop}(g:Gen G){rs:Rs α}(h:G rs)(hl:rs.length≤40):(allSt rs).length≤1600:=by
 have key:∀(l:Rs α) (n:Nat),(∀p∈l,p.2.length≤n)→(allSt l).length≤l.length*n:=by
  intro l n
  induction l with
  |nil=>intro _;simp[allSt]
  |cons a t ih =>
   intro hh
   have h1:=ih λp hp=>hh p (Qg _ hp)
   have h2:=hh a Qd
   unfold allSt at h1 ⊢
   rw[List.flatMap_cons,Ql,Qa,Zb,Nat.succ_mul]
   lia
 have:=key rs rs.length (g.rows h)
 have:rs.length*rs.length≤40*40:=Nat.mul_le_mul hl hl
 exact Zj ‹_› ‹_›
end
end Wb
namespace K21
open PySem L2 Wb
def pot_ne{H:Hp}{p a:Nc}{b m:Int}{zs:Ni}(h:Pot H p b m)(ha:H a=some (.lst (zs.map V.str))):a≠p:=za3 ha h.1 (by
 intro z
 have z':zs.map V.str=[.int b,.int m]:=by injection z
 cases zs with
 |nil=>cases z'
 |cons x t=>rw[Qj]at z';injection z' with z1 _;cases z1)
def Pot.keep{H H':Hp}{p:Nc}{b m:Int}{xs:Nk}(h:Pot H p b m)(k:Keep xs H H')(hp:p∉xs):Pot H' p b m:=⟨k _ _ h.1 hp,h.2⟩
def zbe{H H':Hp}{p:Nc}(h:∀c o,H c=some o→c≠p→H' c=some o):Keep [p] H H':=λc o e n=>h c o e λz=>n (by rw[z];exact Qb.mpr rfl)
section
variable{P:Nj}{w:Nl}{K:Nb}{mg:Nf}{base:Nn}
def zef{x:Str}{zs:Ni}:inV (.str x) (zs.map V.str)=decide (x∈zs):=by
 unfold inV
 rw[Yr,Wa,decide_eq_true_iff]
 constructor
 ·rintro ⟨v,hv,e⟩
  obtain⟨y,hy,rfl⟩:=Qk.mp hv
  have e':y=x:=eq_of_beq e
  rw[←e'];exact hy
 ·intro h
  exact⟨.str x,Qk.mpr ⟨x,h,rfl⟩,beq_self_eq_true x⟩
def zbs{c:Bool}{A B:Prop}(h:c=false)(b:B):if c=true then A else B:=by rw[h];exact iteF b
def zb2{c:Bool}{A B:Prop}(h:c=true)(a:A):if c=true then A else B:=by rw[h];exact iteT a
end
end K21
end
section
namespace K21
open PySem L2 Wb
def zg3(es:List Ent):((es.map λe=>((Sum.inr e.1:Key),V.ref e.2.2)).map λp=>kV p.1)=(es.map (·.1)).map V.str:=by
 rw[Zk,Zk];rfl
section
variable{P:Nj}{w:Nl}{K:Nb}{mg:Nf}{base:Nn}
end
def zdo(z:Str):Prop:=1≤z.length∧z.length≤8∧∀c∈z.cps.toList,97≤c∧c≤122
def nodup_of_map{α β:Type}{f:α→β}{l:List α}(h:(l.map f).Nodup):l.Nodup:=by
 induction l with
 |nil=>exact Yb
 |cons a t ih =>
  rw[Qj,Za]at h
  exact Za.mpr ⟨λz=>h.1 (Qk.mpr ⟨a,z,rfl⟩),ih h.2⟩
def zil{α β:Type}{f:α→β}{l:List α}(nd:l.Nodup)(h:∀a∈l,∀b∈l,f a=f b→a=b):(l.map f).Nodup:=by
 induction l with
 |nil=>exact Yb
 |cons a t ih =>
  rw[Za]at nd
  rw[Qj,Za]
  refine⟨λz=>?_,ih nd.2 λx hx y hy=>h x (Qg _ hx) y (Qg _ hy)⟩
  obtain⟨b,hb,e⟩:=Qk.mp z
  exact nd.1 (h b (Qg _ hb) a Qd e▸hb)
def zgw{β:Type}{f:Nat→β}{n:Nat}(h:∀a,a<n→∀b,b<n→f a=f b→a=b):((List.range n).map f).Nodup :=
 zil Xr λa ha b hb=>h a (Yp.mp ha) b (Yp.mp hb)
def zdv:Str := "abcdefghijklmnopqrstuvwxyz"
def letters_at:∀i:Fin 26,zdv.cps.toList[i.1]?=some (97+i.1):=by decide +kernel
def zed:zdv.length≤sizeLine:=by decide +kernel
def letter_at{j:Int}(h0:0≤j)(h1:j<26):atI zdv.cps.toList j=some (97+j.toNat):=by
 obtain⟨n,rfl⟩:=Zw h0
 exact zav (letters_at ⟨n,by exact zar8 ‹_›⟩)
section
variable{P:Nj}{w:Nl}{K:Nb}{mg:Nf}{base:Nn}
end
def zaq(k:Keep xs H H')(h:H' l=none)(hx:l∉xs):H l=none:=by
 cases z:H l with
 |none=>rfl
 |some o=>rw[k _ _ z hx]at h;cases h
section
variable{P:Nj}{w:Nl}{K:Nb}{mg:Nf}{base:Nn}
end
end K21
end
section
namespace K21
open PySem L2 Wb Tm
def zf9(a b:Str)(h:leS a b)(g:leS b a):a=b:=by
 have e:a.cps.toList=b.cps.toList:=List.le_antisymm (List.not_lt.mp h) (List.not_lt.mp g)
 cases a;cases b
 congr 1
 exact Xv.mp e
def leP(p q:Str×Str):Prop:=(pairO strO strO).kle (p.1.cps.toList,p.2.cps.toList) (q.1.cps.toList,q.2.cps.toList)
end K21
end
section
namespace K21
open PySem L2 Wb
abbrev sWeb:Stmt:=top 22
structure TAt(H:Hp)(d:Nc)(es:List Ent):Prop where
 dc:H d=some (.dK (es.map λe=>((Sum.inr e.1:Key),V.ref e.2.2)))
 ro:∀e∈es,H e.2.2=some (.tup (e.2.1.map V.str))
 nd:(es.map (·.1)).Nodup
def TAt.keep(r:TAt H d es)(k:Keep xs H H')(hd:d∉xs)(h:∀e∈es,e.2.2∉xs):TAt H' d es:=⟨k _ _ r.dc hd,λe he=>k _ _ (r.ro e he) (h e he),r.nd⟩
structure WAt(H:Hp)(C x dx d:Nc)(es:List Ent):Prop where
 ob:H x=some (.ins C dx [("rounds",.ref d)])
 ta:TAt H d es
def WAt.keep(r:WAt H C x dx d es)(k:Keep xs H H')(hx:x∉xs)(hd:d∉xs)(h:∀e∈es,e.2.2∉xs):WAt H' C x dx d es :=
 ⟨k _ _ r.ob hx,r.ta.keep k hd h⟩
def zgk(h:ws.Perm (as.map V.ref)):∃bZ:List Addr,ws=bZ.map V.ref∧bZ.Perm as:=by
 have key:∀ws:List V,(∀v∈ws,∃a,v=V.ref a)→∃bZ:List Addr,ws=bZ.map V.ref:=by
  intro ws
  induction ws with
  |nil=>intro _;exact⟨[],rfl⟩
  |cons v t ih =>
   intro hh
   obtain⟨a,rfl⟩:=hh v Qd
   obtain⟨bZ,rfl⟩:=ih λv hv=>hh v (Qg _ hv)
   exact⟨a::bZ,rfl⟩
 obtain⟨bZ,rfl⟩:=key ws λv hv=>by
  obtain⟨a,_,rfl⟩:=Qk.mp (h.mem_iff.mp hv)
  exact⟨a,rfl⟩
 refine⟨bZ,rfl,?_⟩
 have:=h.map (λv:V=>match v with | .ref a=>a | _=>0)
 rw[Zk,Zk]at this
 have e:∀l:List Addr,l.map ((λv:V=>match v with | .ref a=>a | _=>0)∘V.ref)=l:=λl=>List.map_id l
 rw[e,e]at this
 exact this
section
variable{P:Nj}{w:Nl}{K:Nb}{mg:Nf}{base:Nn}
end
def zap:∀{as:List α} {bs:List β},Paired R as bs→∀{i:Nat} (hi:i<as.length),∃aE:i<bs.length,R as[i] bs[i]:=by
 intro as bs r
 induction r with
 |nil=>intro i hi;simp at hi
 | cons h t ih =>
  intro i hi
  cases i with
  |zero=>exact⟨by simp,h⟩
  |succ j =>
   obtain⟨a,b⟩:=ih (i:=j) (by simpa using hi)
   exact⟨by simpa using a,b⟩
section
variable{P:Nj}{w:Nl}{K:Nb}{mg:Nf}{base:Nn}
end
end K21
end
section
namespace L2
open PySem
def ps_no:PS X st (λ_ _ _=>False):=λ_ _ _ _ _ _ h=>h.elim
def pe_tyN(hg:Gl X x)(hm:X.mg x=none)(hv:bootBuiltins x=some (.type T))(hn:x ≠ "__name__" := by decide)(gC:(x==("__debug__" : Str))=false:=by decide):PE X (.Name x pos) (tC (.ty T)):=by
 intro a6 s σ H Q I h
 exact ld_blt I hg hm hv ⟨.ty T,H,I,rfl,h⟩ hn gC
end L2
namespace K21
open PySem L2 Wb
abbrev zeb:Stmt:=top 16
inductive IspIsName(vs:List V)(H:Hp)(Q:VK):Prop
 |mk (z:Str) (h0:vs=[.str z]) (h1:zdo z) (h2:∀H',Keep [] H H'→Q (.bl true) H'):IspIsName vs H Q
def spIsName:Sp:=λvs H Q _=>IspIsName vs H Q
abbrev ze3:Scope:=scOf (aOf 0 (aOf 1 (eOf (sAt zeb 1))))
def csIsName_k:ze3.kind=.function:=by rfl
def csIsName_c:∀y∈ze3.names,y.2≠.cell:=by decide +kernel
def csIsName_n:∀y∈ze3.names,y.2=.local→ze3.names.lookup y.1=some .local:=by decide +kernel
def csIsName_f:∀y∈ze3.names,y.2=.free→(zag zeb).names.lookup y.1=some .cell∨(zag zeb).names.lookup y.1=some .free:=by decide +kernel
def nd1:(["sign"]:List Str).Nodup:=by decide +kernel
section
variable{P:Nj}{w:Nl}{K:Nb}{mg:Nf}{base:Nn}
def scIsName:zas ["thing"] ["thing"] (zag zeb):=fsk
def ok_isname(F:Fun K "is_name" "is_name" zeb f fd)(hML:mg "MOST_LETTERS" = some (.int 8 tk))(gv:mg "isinstance" = none)(pR:mg "str" = none)(aa:mg "len" = none)(be:mg "all" = none):FnOk P w K mg base CX0 1 f fd ["thing"] spIsName:=by
 refine F.okL scIsName (λcdv A outer s H vs Q E hr h=>?_)
 obtain⟨z,rfl,hz,k⟩:=h
 have hu:=zct hr
 have aP  := sizeLine_eq
 refine⟨_,zae (zc2 (zfu (zgl (zaj call_isi_str (by rfl) gv Ky (zaa (pv 0) (zaa (pe_tyN (T := "str") rfl pR PyProof.Rows.boot_str) zad))))) (zah ps_no) zbk)
  (zah (zbh (pe_and (pe_chain op_le op_le zai (zaj zb9 (by rfl) aa Zu (zaa (pv 0) zad)) (pe_glob (v:=.int 8) rfl hML ⟨tk,rfl⟩))
   (pe_one (zaj (zi4 rfl) (by rfl) be Bc (zaa (zfx (M:=["sign"]) (ix:=[none]) ⟨csIsName_k,csIsName_c,csIsName_n,csIsName_f,rfl,by decide +kernel,λj i x h1 h2=>by
      match j,h1,h2 with
      |0,_,h2=>cases h2
      |n+1,h1,_=>cases h1⟩ rfl (pi_str (pv 0)) (λC a6 ex s H=>za8 0 nd1)
      (λC a6 ex s H=>zca) (λC a6 ex s H=>pe_chain op_le_str op_le_str zd3 (pv 0) zd3)) zad)))))),?_⟩
 obtain⟨nH,iC,jQ⟩:=hz
 have hz1':1≤z.cps.size:=nH
 have hz2':z.cps.size≤8:=iC
 refine⟨_,rfl,z,rfl,_,rfl,zbs rfl ?_⟩
 refine⟨_,rfl,z,rfl,(by show z.cps.size≤sizeLine;lia),_,_,rfl,rfl,_,rfl,zb2 (decide_eq_true (by show(1:Int)≤(z.cps.size:Int);exact zar9 ‹_›)) ?_⟩
 refine⟨_,_,rfl,rfl,_,rfl,zb2 (decide_eq_true (by show(z.cps.size:Int)≤8;lia)) ?_⟩
 have asc:z.cps.all (· < 128)=true:=by
  rw[Array.all_eq_true]
  intro i hi
  have:=jQ z.cps[i] (by rw[Array.mem_toList_iff];exact Array.getElem_mem hi)
  exact decide_eq_true (by lia)
 refine⟨_,rfl,z,rfl,asc,λi m ys τ H1=>Aj5 (H1=H) (m=z.cps.size-i) (i≤z.cps.size) (ys=List.replicate i (V.bl true)) (Ex1 λx0=>τ=[x0]),⟨_,rfl,rfl,Zn _,rfl,none,rfl⟩,?_⟩
 rintro i m ys τ H1 ⟨rfl,rfl,hi,rfl,x0,rfl⟩
 by_cases ad:i<z.cps.size
 ·refine .inr ⟨ad,by rw [Jo];lia,?_⟩
  rintro y H' ⟨rfl,c,hc,rfl⟩
  obtain⟨h1,h2⟩:=jQ c (by rw[Array.mem_toList_iff];exact Array.mem_of_getElem? hc)
  have l1:(!decide ((⟨#[c]⟩:Str).cps.toList<("a" : Str).cps.toList))=true:=by
   rw[Wm,decide_eq_false_iff_not,show("a" : Str).cps.toList=[97] from by decide +kernel]
   show ¬[c]<[97]
   intro h
   have:=List.cons_lt_cons_iff.mp h
   rcases this with q | ⟨_,q⟩
   ·exact zar10 ‹_› ‹_›
   ·exact Wn _ q
  have l2:(!decide (("z" : Str).cps.toList<(⟨#[c]⟩:Str).cps.toList))=true:=by
   rw[Wm,decide_eq_false_iff_not,show("z" : Str).cps.toList=[122] from by decide +kernel]
   show ¬[122]<[c]
   intro h
   have:=List.cons_lt_cons_iff.mp h
   rcases this with q | ⟨_,q⟩
   ·exact zar10 ‹_› ‹_›
   ·exact Wn _ q
  refine⟨_,rfl,_,_,rfl,rfl,_,rfl,zb2 l1 ?_⟩
  refine⟨_,_,rfl,rfl,_,?_,rfl,rfl,ad,?_,_,rfl⟩
  ·exact zar1 ‹_›
  ·rw[l2,List.replicate_succ']
 ·have e:i=z.cps.size:=by exact zar3 ‹_› ‹_›
  subst e
  refine .inl ⟨Qf _,λD hD=>?_⟩
  refine⟨D,List.replicate z.cps.size true,rfl,SqL.of (by rw[zac,List.map_replicate]),?_⟩
  have:(List.replicate z.cps.size true).all id=true:=by
   rw[Jv];intro b hb;exact(List.mem_replicate.mp hb).2
  rw[this]
  exact k _ (Keep.new hD)
end
end K21
end
section
namespace L2
open PySem
def lc_at(T:St→Prop)(ys:List V)(hl:ys.length=xs.length)(ha:SqL K H a xs)(hn:xs.length≤sizeLine)(h0:T τ)(hs:∀(i:Nat) (hi:i<xs.length) (cI:i<ys.length),∀τ,T τ→∀k:V→St→Hp→Prop,(∀τ2,T τ2→k ys[i] τ2 H)→g xs[i] τ H λ τ2 H2=>te τ2 H2 λy H4=>k y τ2 H4)(q:∀D,H D=none→Q (.ref D) (upd H D (.lst ys))):rLC g tAll te Q (Itl K a) τ H:=by
 refine⟨λi m zs τ H1=>Aj5 (H1=H) (T τ) (m=xs.length-i) (i≤xs.length) (zs=ys.take i),⟨_,rfl,h0,rfl,Zn _,rfl⟩,?_⟩
 rintro i m zs τ H1 ⟨rfl,ht,rfl,hi,rfl⟩
 by_cases ad:i<xs.length
 ·refine .inr ⟨⟨xs,xs[i],ha,Qc ad⟩,by rw [Zf];lia,?_⟩
  rintro x H' ⟨rfl,hx⟩
  have cg:=hx xs ha
  rw[Qc ad]at cg
  have iE:xs[i]=x:=Qt cg
  rw[←iE]
  refine hs i ad (by exact zar6 ‹_› ‹_›) τ ht (λy τ2 H4=>∃m',m'<xs.length-i∧Aj5 (H4=H') (T τ2) (m'=xs.length-(i+1)) (i+1≤xs.length) (ys.take i++[y]=ys.take (i+1))) λ τ2 h2=>?_
  exact⟨_,by exact zar1 ‹_›,rfl,h2,rfl,ad,by rw[Qo (by exact zar6 ‹_› ‹_›:i<ys.length)]⟩
 ·have e:i=xs.length:=by exact zar3 ‹_› ‹_›
  refine .inl ⟨⟨xs,ha,by lia⟩,λD hD=>?_⟩
  rw[Qv (by lia)]
  exact q D hD
end L2
namespace K21
open PySem L2 Wb
structure RwAt(H:Hp)(l:Nc)(as:Nk)(es:List Ent):Prop where
 ls:H l=some (.lst (as.map V.ref))
 ts:Paired (λa (e:Ent)=>H a=some (.tup [.str e.1,.ref e.2.2])) as es
 ro:∀e∈es,H e.2.2=some (.lst (e.2.1.map V.str))
def RwAt.keep(r:RwAt H l as es)(k:Keep [] H H'):RwAt H' l as es :=
 ⟨k _ _ r.ls (by simp),Paired.imp' (λ_ _ h=>k _ _ h (by simp)) r.ts,λe he=>k _ _ (r.ro e he) (by simp)⟩
abbrev zf5:Stmt:=top 17
abbrev zd2:Stmt:=top 18
abbrev zic:Stmt:=top 19
inductive zhz(vs:List V)(H:Hp)(Q:VK):Prop
 |mk (l:Nc) (as:Nk) (es:List Ent) (h0:vs=[.ref l]) (h1:RwAt H l as es) (h2:(∀e∈es,e.2.1.length≤100∧zdo e.1∧∀x∈e.2.1,zdo x)) (h3:∀H',Keep [] H H'→Q .non H'):zhz vs H Q
def spNoNames:Sp:=λvs H Q _=>zhz vs H Q
inductive IspTwice(vs:List V)(H:Hp)(Q:VK):Prop
 |mk (l:Nc) (as:Nk) (es:List Ent) (h0:vs=[.ref l]) (h1:RwAt H l as es) (h2:es.length≤60) (h3:(es.map (·.1)).Nodup) (h4:(∀e∈es,e.2.1.length≤100∧e.2.1.Nodup)) (h5:∀H',Keep [] H H'→Q .non H'):IspTwice vs H Q
def spTwice:Sp:=λvs H Q _=>IspTwice vs H Q
inductive IspOneWay(vs:List V)(H:Hp)(Q:VK):Prop
 |mk (l:Nc) (as:Nk) (es:List Ent) (h0:vs=[.ref l]) (h1:RwAt H l as es) (h2:(es.map (·.1)).Nodup) (h3:(∀e∈es,e.1∉e.2.1∧∀x∈e.2.1,∃e'∈es,e'.1=x∧e.1∈e'.2.1)) (h4:∀H',Keep [] H H'→Q .non H'):IspOneWay vs H Q
def spOneWay:Sp:=λvs H Q _=>IspOneWay vs H Q
section
variable{P:Nj}{w:Nl}{K:Nb}{mg:Nf}{base:Nn}
def zen:zas ["rows", "place", "around", "thing"] ["rows"] (zag zf5):=fsk
def ok_nonames(F:Fun K "refuse_no_names" "refuse_no_names" zf5 f fd)(FN:Fun K "is_name" "is_name" zeb fn fdn)(bN:Binds K fdn ["thing"] [])(mN:mg "is_name" = some (.ref fn))(GN:FnOk P w K mg base CX0 1 fn fdn ["thing"] spIsName):FnOk P w K mg base CX0 2 f fd ["rows"] spNoNames:=by
 refine F.okL zen (λcdv A outer s H vs Q E hr h=>?_)
 obtain⟨l,as,es,rfl,R,hok,k⟩:=h
 have hu:=zct hr
 have aP  := sizeLine_eq
 refine⟨_,zah (zbm Zm rfl (zax (pv 0)) (zhp rfl (zbb (za8 1 zen.nd) (zbb (za8 2 zen.nd) zdf)))
  (zah (zbm Zm rfl (zax (zat zd4 (zbi (zaa (pv 1) zad)) (pv 2))) (za8 3 zen.nd)
   (zah (zc2 (zfu (zgl (zam GN hr rfl mN FN.kp bN .nil za2 (zaa (pv 3) zad)))) (zah ps_no) zbk))))),?_⟩
 refine⟨_,rfl,l,rfl,⟨_,SqL.of R.ls⟩,zbq (xs:=as.map V.ref) (λi σ H'=>Aj2 (Keep [] H H') (Ex3 λx1 x2 x3=>σ=[some (.ref l),x1,x2,x3])) ⟨Keep.refl,none,none,none,rfl⟩ (λi σ H' _ hh=>SqL.of (hh.1 _ _ R.ls (by simp))) ?_ ?_⟩
 ·rintro i y σ H1 hx ⟨k1,x1,x2,x3,rfl⟩
  have hi:i<as.length:=by
   have:=(Zg.mp hx).1
   rwa[Qa]at this
  have iD:y=.ref as[i]:=by
   rw[Qu,Qc hi]at hx
   exact(Qt hx).symm
  subst iD
  obtain⟨aE,cX⟩:=zap R.ts hi
  obtain⟨gu,bM,bd⟩:=hok _ (Qn aE)
  have cL:=k1 _ _ (R.ro _ (Qn aE)) (by simp)
  refine⟨as[i],_,rfl,SqT.of (k1 _ _ cX (by simp)),rfl,_,_,rfl,_,_,rfl,rfl,?_⟩
  refine⟨_,rfl,(by show 1≤sizeLine;decide),λq hq=>?_⟩
  have nq:es[i].2.2≠q:=zab cL hq
  refine⟨_,rfl,q,es[i].2.2,_,_,rfl,rfl,zac,(by rw[zaf nq];exact cL),(by rw[Qa];show 1+_≤sizeLine;lia),λq2 cF=>?_⟩
  have k2:Keep [] H (upd (upd H1 q (.lst [.str es[i].1])) q2 (.lst ([V.str es[i].1]++es[i].2.1.map V.str))):=(k1.trans (Keep.new hq)).trans (Keep.new cF)
  have iP:(upd (upd H1 q (.lst [.str es[i].1])) q2 (.lst ([V.str es[i].1]++es[i].2.1.map V.str))) q2=some (.lst ((es[i].1::es[i].2.1).map V.str)):=zac
  generalize upd (upd H1 q (.lst [.str es[i].1])) q2 (.lst ([V.str es[i].1]++es[i].2.1.map V.str))=H2 at k2 iP
  refine⟨q2,rfl,⟨_,SqL.of iP⟩,zbq (xs:=(es[i].1::es[i].2.1).map V.str) (λj σ H'=>Aj2 (Keep [] H2 H') (Ex3 λx1 x2 x3=>σ=[some (.ref l),x1,x2,x3])) ⟨Keep.refl,_,_,_,rfl⟩ (λj σ H' _ hh=>SqL.of (hh.1 _ _ iP (by simp))) ?_ ?_⟩
  ·rintro j y σ H3 hy ⟨k3,y1,y2,y3,rfl⟩
   obtain⟨z,hz,rfl⟩:=Qk.mp (Yq hy)
   have cC:zdo z:=by
    rcases Qh.mp hz with e | e
    ·rw[e];exact bM
    ·exact bd z e
   refine⟨_,rfl,z,rfl,cC,λH4 k4=>⟨_,rfl,zbs rfl ?_⟩⟩
   exact⟨k3.trans k4,_,_,_,rfl⟩
  ·rintro σ H3 ⟨k3,y1,y2,y3,rfl⟩
   exact⟨k2.trans k3,_,_,_,rfl⟩
 ·rintro σ H1 ⟨k1,x1,x2,x3,rfl⟩
  exact k H1 k1
abbrev csTwA:Scope:=scOf (eOf (sAt zd2 0))
abbrev csTwB:Scope:=scOf (aOf 1 (eOf (sAt zd2 1)))
def csTwA_k:csTwA.kind=.function:=by rfl
def csTwA_c:∀y∈csTwA.names,y.2≠.cell:=by decide +kernel
def csTwA_n:∀y∈csTwA.names,y.2=.local→csTwA.names.lookup y.1=some .local:=by decide +kernel
def csTwA_f:∀y∈csTwA.names,y.2=.free→(zag zd2).names.lookup y.1=some .cell∨(zag zd2).names.lookup y.1=some .free:=by decide +kernel
def csTwB_k:csTwB.kind=.function:=by rfl
def csTwB_c:∀y∈csTwB.names,y.2≠.cell:=by decide +kernel
def csTwB_n:∀y∈csTwB.names,y.2=.local→csTwB.names.lookup y.1=some .local:=by decide +kernel
def csTwB_f:∀y∈csTwB.names,y.2=.free→(zag zd2).names.lookup y.1=some .cell∨(zag zd2).names.lookup y.1=some .free:=by decide +kernel
def ndPA:(["place", "around"]:List Str).Nodup:=by decide +kernel
def scTwice:zas ["rows", "places", "names"] ["rows"] (zag zd2):=fsk
def noB(h1:sc.kind=.function)(h2:∀y∈sc.names,y.2≠.cell)(h3:∀y∈sc.names,y.2=.local→sc.names.lookup y.1=some .local)(h4:∀y∈sc.names,y.2=.free→X.env.scope.names.lookup y.1=some .cell∨X.env.scope.names.lookup y.1=some .free)(h5:n=M.length)(h6:M.Nodup):Blk X sc M (List.replicate n none):=⟨h1,h2,h3,h4,by rw [Jo,h5],h6,fun j i x _ h=>by
   have:=Yq h
   have:=(List.mem_replicate.mp this).2
   cases this⟩
def zii(hK:X.K=K)(hc:X.calm=true)(h:PGs X es t)(hn:(assignEach es X.env).length=n:=by rfl)(aO:(assignEach es X.env).findIdx? (·.1)=none:=by rfl):PG X (.Tuple es k pos) (gTup K n t):=hK▸zhp hc h hn aO
def ok_twice(F:Fun K "refuse_twice" "refuse_twice" zd2 f fd)(aa:mg "len" = none)(pT:mg "set" = none):FnOk P w K mg base CX0 1 f fd ["rows"] spTwice:=by
 refine F.okL scTwice (λcdv A outer s H vs Q E hr h=>?_)
 obtain⟨l,as,es,rfl,R,kj,aZ,hok,k⟩:=h
 have hu:=zct hr
 have aP  := sizeLine_eq
 refine⟨_,zae (ps_lc (i:=1) (M:=["place", "around"]) (ix:=[none,none]) scTwice.nd rfl rfl (noB (n:=2) csTwA_k csTwA_c csTwA_n csTwA_f rfl ndPA) rfl (zax (pv 0))
   (λC a6 ex s H=>zii (K:=K) (n:=2) rfl rfl (zbb (za8 0 ndPA) (zbb (za8 1 ndPA) zdf)))
   (λC a6 ex s H=>zca) (λC a6 ex s H=>pv 0) rfl)
  (zah (zbm Zm rfl (zax (zat zd4 (zbi (zaa (pv 1) zad)) (zfx (M:=["place", "around"]) (ix:=[none,none]) (noB (n:=2) csTwB_k csTwB_c csTwB_n csTwB_f rfl ndPA) rfl (zax (pv 0))
   (λC a6 ex s H=>zii (K:=K) (n:=2) rfl rfl (zbb (za8 0 ndPA) (zbb (za8 1 ndPA) zdf)))
   (λC a6 ex s H=>zca) (λC a6 ex s H=>pv 1)))) (za8 2 scTwice.nd)
   (zah (zc2 (za4 op_lt (zaj zi3 (by rfl) aa Zu (zaa (zc6 (zi0 rfl) (by rfl) pT PyProof.Rows.boot_set (zaa (pv 2) zad)) zad))
    (zaj zan (by rfl) aa Zu (zaa (pv 2) zad)) (zb8 _)) (zah ps_no) zbk)))),?_⟩
 have bY:as.length=es.length:=Zx R.ts
 refine⟨_,rfl,l,rfl,⟨_,SqL.of R.ls⟩,lc_at (xs:=as.map V.ref) (λ τ=>∃x0 x1,τ=[x0,x1]) ((es.map (·.1)).map V.str) (by rw[Qa,Qa,Qa,bY]) (SqL.of R.ls) (by rw[Qa];lia) ⟨none,none,rfl⟩ ?_ (λD hD=>?_)⟩
 ·rintro i hi cI τ ⟨x0,x1,rfl⟩ kk hk
  rw[Qa]at hi
  obtain⟨aE,cX⟩:=zap R.ts hi
  rw[Zi]
  refine⟨as[i],_,rfl,SqT.of cX,rfl,_,_,rfl,_,_,rfl,rfl,_,rfl,?_⟩
  have e:((es.map (·.1)).map V.str)[i]=V.str es[i].1:=by rw[Zi,Zi]
  rw[e]at hk
  exact hk _ ⟨_,_,rfl⟩
 ·have k1:Keep [] H (upd H D (.lst ((es.map (·.1)).map V.str))):=Keep.new hD
  have hD1:(upd H D (.lst ((es.map (·.1)).map V.str))) D=some (.lst ((es.map (·.1)).map V.str)):=zac
  generalize upd H D (.lst ((es.map (·.1)).map V.str))=H1 at k1 hD1
  have R1:=R.keep k1
  refine⟨_,rfl,(by show 1≤sizeLine;decide),λq hq=>?_⟩
  have k2:Keep [] H1 (upd H1 q (.lst [.ref D])):=Keep.new hq
  have cF:(upd H1 q (.lst [.ref D])) q=some (.lst [.ref D]):=zac
  generalize upd H1 q (.lst [.ref D])=H2 at k2 cF
  have R2:=R1.keep k2
  refine⟨_,rfl,l,rfl,⟨_,SqL.of R2.ls⟩,lc_at (xs:=as.map V.ref) (λ τ=>∃x0 x1,τ=[x0,x1]) (es.map λe=>V.ref e.2.2) (by rw[Qa,Qa,bY]) (SqL.of R2.ls) (by rw[Qa];lia) ⟨none,none,rfl⟩ ?_ (λD2 mG=>?_)⟩
  ·rintro i hi cI τ ⟨x0,x1,rfl⟩ kk hk
   rw[Qa]at hi
   obtain⟨aE,cX⟩:=zap R2.ts hi
   rw[Zi]
   refine⟨as[i],_,rfl,SqT.of cX,rfl,_,_,rfl,_,_,rfl,rfl,_,rfl,?_⟩
   rw[Zi]at hk
   exact hk _ ⟨_,_,rfl⟩
  ·have k3:Keep [] H2 (upd H2 D2 (.lst (es.map fun e=>V.ref e.2.2))):=Keep.new mG
   have gH:(upd H2 D2 (.lst (es.map λe=>V.ref e.2.2))) D2=some (.lst (es.map λe=>V.ref e.2.2)):=zac
   generalize upd H2 D2 (.lst (es.map λe=>V.ref e.2.2))=H3 at k3 gH
   refine⟨q,D2,_,_,rfl,rfl,k3 _ _ cF (by simp),gH,(by rw[Qa];show 1+_≤sizeLine;lia),λq4 nP=>?_⟩
   have k4:Keep [] H3 (upd H3 q4 (.lst ([V.ref D]++es.map λe=>V.ref e.2.2))):=Keep.new nP
   have iO:(upd H3 q4 (.lst ([V.ref D]++es.map λe=>V.ref e.2.2))) q4=some (.lst ([V.ref D]++es.map λe=>V.ref e.2.2)):=zac
   generalize upd H3 q4 (.lst ([V.ref D]++es.map λe=>V.ref e.2.2))=H4 at k4 iO
   have c7:Keep [] H H4:=((k1.trans k2).trans k3).trans k4
   refine⟨q4,rfl,⟨_,SqL.of iO⟩,zbq (xs:=[V.ref D]++es.map λe=>V.ref e.2.2) (λi σ H'=>Aj2 (Keep [] H4 H') (Ex2 λx1 x2=>σ=[some (.ref l),x1,x2])) ⟨Keep.refl,_,_,rfl⟩ (λi σ H' _ hh=>SqL.of (hh.1 _ _ iO (by simp))) ?_ ?_⟩
   ·rintro i y σ H5 hy ⟨k5,x1,x2,rfl⟩
    obtain⟨a,zs,rfl,ha,cC,dS⟩:∃(a:Nc) (zs:Ni),y=V.ref a∧H5 a=some (.lst (zs.map V.str))∧zs.Nodup∧zs.length≤100:=by
     rcases Qe.mp (Yq hy) with z | z
     ·refine ⟨D,es.map (·.1),Qb.mp z,?_,aZ,by rw [Qa];exact Zj kj (by decide)⟩
      exact k5 _ _ (k4 _ _ (k3 _ _ (k2 _ _ hD1 (by simp)) (by simp)) (by simp)) (by simp)
     ·obtain ⟨e,he,rfl⟩:=Qk.mp z
      exact⟨e.2.2,e.2.1,rfl,k5 _ _ (c7 _ _ (R.ro e he) (by simp)) (by simp),(hok e he).2,(hok e he).1⟩
    refine⟨_,rfl,a,zs,rfl,SqL.of ha,cC,by lia,λt ht=>?_⟩
    have oT:a≠t:=zab ha ht
    refine⟨t,zs,rfl,zac,by lia,_,rfl,a,_,rfl,.inl (SqL.of (by rw[zaf oT];exact ha)),_,_,rfl,rfl,_,rfl,zbs (decide_eq_false (by rw[Qa];lia)) ?_⟩
    exact⟨k5.trans (Keep.new ht),_,_,rfl⟩
   ·rintro σ H5 ⟨k5,x1,x2,rfl⟩
    exact k H5 (c7.trans k5)
end
end K21
end
section
namespace K21
open PySem L2 Wb
abbrev sLeast:Stmt:=top 21
inductive IspLeast(vs:List V)(H:Hp)(Q:VK):Prop
 |mk (a:Nc) (zs:Ni) (h0:vs=[.ref a]) (h1:H a=some (.lst (zs.map V.str))) (h2:zs.length≤100) (h3:∀(t:Nc) (j:Nat) (H':Hp),j≤zs.length→H' t=some (.tup ((zs.drop j++zs.take j).map V.str))→H t=none→Keep [] H H'→Q (.ref t) H'):IspLeast vs H Q
def spLeast:Sp:=λvs H Q _=>IspLeast vs H Q
def zhr{α β γ:Type}{R:α→γ→Prop}{f:β→γ}:∀{as:List α} {bs:List β},Paired (λa b=>R a (f b)) as bs→Paired R as (bs.map f):=by
 intro as bs r
 induction r with
 |nil=>exact .nil
 |cons h t ih=>exact .cons h ih
section
variable{P:Nj}{w:Nl}{K:Nb}{mg:Nf}{base:Nn}
def zem:zas ["rows", "rounds", "one", "around", "other"] ["rows"] (zag zic):=fsk
def ok_oneway{f:Nc}{fd:Nt}(F:Fun K "refuse_one_way" "refuse_one_way" zic f fd)(fA:mg "dict" = none):FnOk P w K mg base CX0 1 f fd ["rows"] spOneWay:=by
 refine F.okL zem (λcdv A outer s H vs Q E hr h=>?_)
 obtain⟨l,as,es,rfl,R,aZ,hok,k⟩:=h
 have hu:=zct hr
 have aP  := sizeLine_eq
 refine⟨_,zae (zaw 1 zem.nd (zc6 (zd5 rfl) (by rfl) fA PyProof.Rows.boot_dict (zaa (pv 0) zad)))
  (zah (zbm Zm rfl (zax (pv 0)) (zhp rfl (zbb (za8 2 zem.nd) (zbb (za8 3 zem.nd) zdf)))
   (zah (zbm Zm rfl (zax (pv 3)) (za8 4 zem.nd)
    (zah (zc2 (PW.pt (pw_or (za4 op_eq (pv 4) (pv 2) (zb8 _)) (pw_or1 (za4 zdt (pv 2) (pe_dget2 hu (pv 1) (pv 4) (zbi zad) ⟨rfl,rfl,rfl,rfl⟩) rfl)))) (zah ps_no) zbk)))))),?_⟩
 have nQ:(es.map λe:Ent=>(e.1,V.ref e.2.2)).map (·.1)=es.map (·.1):=by rw[Zk];rfl
 refine⟨_,rfl,l,as,es.map λe=>(e.1,V.ref e.2.2),rfl,R.ls,zhr R.ts,by rw[nQ];exact aZ,λd hd=>?_⟩
 have qh:((es.map λe:Ent=>(e.1,V.ref e.2.2)).map λp=>((Sum.inr p.1:Key),p.2))=es.map λe=>((Sum.inr e.1:Key),V.ref e.2.2):=by rw[Zk];rfl
 rw[qh]
 have k1:Keep [] H (upd H d (.dK (es.map λe=>((Sum.inr e.1:Key),V.ref e.2.2)))):=Keep.new hd
 have o9:(upd H d (.dK (es.map λe=>((Sum.inr e.1:Key),V.ref e.2.2)))) d=some (.dK (es.map λe=>((Sum.inr e.1:Key),V.ref e.2.2))):=zac
 generalize upd H d (.dK (es.map λe=>((Sum.inr e.1:Key),V.ref e.2.2)))=H1 at k1 o9
 have R1:=R.keep k1
 refine⟨_,rfl,l,rfl,⟨_,SqL.of R1.ls⟩,zbq (xs:=as.map V.ref) (λi σ H'=>Aj2 (Keep [] H1 H') (Ex3 λx2 x3 x4=>σ=[some (.ref l),some (.ref d),x2,x3,x4])) ⟨Keep.refl,none,none,none,rfl⟩ (λi σ H' _ hh=>SqL.of (hh.1 _ _ R1.ls (by simp))) ?_ ?_⟩
 ·rintro i y σ H2 hx ⟨k2,x2,x3,x4,rfl⟩
  have hi:i<as.length:=by
   have:=(Zg.mp hx).1
   rwa[Qa]at this
  have iD:y=.ref as[i]:=by
   rw[Qu,Qc hi]at hx
   exact(Qt hx).symm
  subst iD
  obtain⟨aE,cX⟩:=zap R1.ts hi
  obtain⟨bM,bd⟩:=hok _ (Qn aE)
  have cL:=k2 _ _ (R1.ro _ (Qn aE)) (by simp)
  refine⟨as[i],_,rfl,SqT.of (k2 _ _ cX (by simp)),rfl,_,_,rfl,_,_,rfl,rfl,?_⟩
  refine⟨_,rfl,es[i].2.2,rfl,⟨_,SqL.of cL⟩,zbq (xs:=es[i].2.1.map V.str) (λj σ H'=>Aj2 (Keep [] H2 H') (Ex1 λx4=>σ=[some (.ref l),some (.ref d),some (.str es[i].1),some (.ref es[i].2.2),x4])) ⟨Keep.refl,_,rfl⟩ (λj σ H' _ hh=>SqL.of (hh.1 _ _ cL (by simp))) ?_ ?_⟩
  ·rintro j y σ H3 hy ⟨k3,y4,rfl⟩
   obtain⟨z,hz,rfl⟩:=Qk.mp (Yq hy)
   obtain⟨e',cS,hez,aA⟩:=bd z hz
   have aH:z≠es[i].1:=λq=>bM (q▸hz)
   have me:=k3 _ _ (k2 _ _ o9 (by simp)) (by simp)
   refine⟨_,rfl,_,rfl,rfl,_,rfl,zbs (decide_eq_false (λq=>aH (by injection q))) ?_⟩
   refine⟨_,rfl,_,rfl,d,rfl,.inl ⟨_,.inl me⟩,_,rfl,(by show 0≤sizeLine;decide),λq hq=>?_⟩
   have ndq:d≠q:=zab me hq
   have rM:(upd H3 q (.lst [])) d=some (.dK (es.map λe=>((Sum.inr e.1:Key),V.ref e.2.2))):=by rw[zaf ndq];exact me
   have qc:(upd H3 q (.lst [])) e'.2.2=some (.lst (e'.2.1.map V.str)):=by
    have h3:=k3 _ _ (k2 _ _ (R1.ro e' cS) (by simp)) (by simp)
    rw[zaf (zab h3 hq)];exact h3
   have dg:=DGet.k (k:=Sum.inr z) rM
   rw[←hez,zhl aZ cS,hez]at dg
   refine⟨_,dg,e'.2.2,_,rfl,.inl (SqL.of qc),rfl,zcq _,_,rfl,?_⟩
   refine zbs (by rw[if_pos rfl,zef,decide_eq_true aA];rfl) ?_
   exact⟨k3.trans (Keep.new hq),_,rfl⟩
  ·rintro σ H3 ⟨k3,y4,rfl⟩
   exact⟨k2.trans k3,_,_,_,rfl⟩
 ·rintro σ H2 ⟨k2,x2,x3,x4,rfl⟩
  exact k H2 (k1.trans k2)
def scLeast:zas ["around", "at"] ["around"] (zag sLeast):=fsk
def ok_least(F:Fun K "from_least" "from_least" sLeast f fd)(eM:mg "min" = none)(pG:mg "tuple" = none):FnOk P w K mg base CX0 1 f fd ["around"] spLeast:=by
 refine F.okL scLeast (λcdv A outer s H vs Q E hr h=>?_)
 obtain⟨a,zs,rfl,ha,hz,k⟩:=h
 have aP  := sizeLine_eq
 refine⟨_,zae (zaw 1 scLeast.nd (pe_ifExp (zf8 (pv 0) (by intro _;rfl)) (zb7 Qy Ja Uz zeq (pv 0) (zaa (zaj (zi1 rfl) (by rfl) eM Bb (zaa (pv 0) zad)) zad)) zai))
  (zah (zbh (zc6 ziz (by rfl) pG PyProof.Rows.boot_tuple (zaa (zat zd4 (zby zdd (pv 0) (zcb (pv 1)) zb1) (zby zdd (pv 0) zb1 (zcb (pv 1)))) zad)))),?_⟩
 have dO:(zs.map V.str).length=zs.length:=Qa ..
 refine⟨_,rfl,_,.inl ⟨_,SqL.of ha,rfl⟩,?_⟩
 by_cases pi:zs=[]
 ·refine zbs (by rw [pi];rfl) ?_
  have h0:0≤zs.length:=Zn _
  refine⟨_,rfl,_,rfl,_,rfl,a,_,rfl,SqL.of ha,λp1 h1=>?_⟩
  have n1:a≠p1:=zab ha h1
  refine⟨_,rfl,_,rfl,_,rfl,a,_,rfl,SqL.of (by rw[zaf n1];exact ha),λp2 h2=>?_⟩
  have g7:p1≠p2:=zab (o:=_) zac h2
  refine⟨p1,p2,_,_,rfl,rfl,(by rw[zaf g7];exact zac),zac,?_,λp3 h3=>?_⟩
  ·have q1:=zb3 (zs.map V.str) (some (0:Int)) none
   have q2:=zb3 (zs.map V.str) none (some (0:Int))
   rw[dO]at q1 q2
   show _+_≤sizeLine
   lia
  have ecut:cutV (zs.map V.str) (some (0:Int)) none++cutV (zs.map V.str) none (some (0:Int))=(zs.drop (0:Nat)++zs.take (0:Nat)).map V.str:=by
   show cutV (zs.map V.str) (some (((0:Nat)):Int)) none++cutV (zs.map V.str) none (some (((0:Nat)):Int))=_
   rw[ze2 (by rw[dO];exact h0),cut_to (by rw[dO];exact h0),Qs,Jw,Uw]
  rw[ecut]
  refine⟨p3,_,rfl,.inl ⟨SqL.of zac,λt ht=>?_⟩⟩
  have kk:Keep [] H _:=(((Keep.new h1).trans (Keep.new h2)).trans (Keep.new h3)).trans (Keep.new (o:=.tup ((zs.drop (0:Nat)++zs.take (0:Nat)).map V.str)) ht)
  exact k t (0:Nat) _ h0 zac (zaq (xs:=[]) (((Keep.new h1).trans (Keep.new h2)).trans (Keep.new h3)) ht (by simp)) kk
 ·refine zb2 (by cases hh:zs with
   |nil=>exact absurd hh pi
   |cons _ _=>rfl) ?_
  refine⟨_,rfl,.inl ⟨rfl,_,SqL.of ha⟩,_,rfl,a,zs,rfl,SqL.of ha,pi,λz bG _=>?_⟩
  obtain⟨i1,i2⟩:=index_of bG
  have hj:zs.idxOf z≤zs.length:=Zt (idx_lt bG)
  refine⟨a,_,_,_,rfl,rfl,ha,rfl,zcq _,i1,i2,?_⟩
  refine⟨_,rfl,_,rfl,_,rfl,a,_,rfl,SqL.of ha,λp1 h1=>?_⟩
  have n1:a≠p1:=zab ha h1
  refine⟨_,rfl,_,rfl,_,rfl,a,_,rfl,SqL.of (by rw[zaf n1];exact ha),λp2 h2=>?_⟩
  have g7:p1≠p2:=zab (o:=_) zac h2
  refine⟨p1,p2,_,_,rfl,rfl,(by rw[zaf g7];exact zac),zac,?_,λp3 h3=>?_⟩
  ·have q1:=zb3 (zs.map V.str) (some ((zs.idxOf z):Int)) none
   have q2:=zb3 (zs.map V.str) none (some ((zs.idxOf z):Int))
   rw[dO]at q1 q2
   show _+_≤sizeLine
   lia
  have ecut:cutV (zs.map V.str) (some ((zs.idxOf z):Int)) none++cutV (zs.map V.str) none (some ((zs.idxOf z):Int))=(zs.drop (zs.idxOf z)++zs.take (zs.idxOf z)).map V.str:=by
   rw[ze2 (by rw[dO];exact hj),cut_to (by rw[dO];exact hj),Qs,Jw,Uw]
  rw[ecut]
  refine⟨p3,_,rfl,.inl ⟨SqL.of zac,λt ht=>?_⟩⟩
  have kk:Keep [] H _:=(((Keep.new h1).trans (Keep.new h2)).trans (Keep.new h3)).trans (Keep.new (o:=.tup ((zs.drop (zs.idxOf z)++zs.take (zs.idxOf z)).map V.str)) ht)
  exact k t (zs.idxOf z) _ hj zac (zaq (xs:=[]) (((Keep.new h1).trans (Keep.new h2)).trans (Keep.new h3)) ht (by simp)) kk
end
end K21
end
section
namespace Wb
section lk
variable{β:Type}
def Lk(f:β→β):β→List β→β→Prop
 |s,[],e=>f s=e
 |s,x::t,e=>f s=x∧Lk f x t e
def lk_app:∀{A:List β} {s:β},Lk f s (A++x::B) e↔Lk f s A x∧Lk f x B e:=by
 intro A
 induction A with
 |nil=>intro s;exact Iff.rfl
 |cons a t ih =>
  intro s
  show f s=a∧Lk f a (t++x::B) e↔(f s=a∧Lk f a t x)∧Lk f x B e
  rw[ih,and_assoc]
def ziq:∀{t:List β} {s:β},(∀y,y=s∨y∈t→g y=f y)→Lk f s t e→Lk g s t e:=by
 intro t
 induction t with
 |nil=>intro s h k;exact(h s (.inl rfl)).trans k
 |cons a t ih =>
  intro s h k
  refine⟨(h s (.inl rfl)).trans k.1,ih (λy hy=>h y (.inr ?_)) k.2⟩
  rcases hy with z | z
  ·rw[z];exact Qd
  ·exact Qg _ z
def Cyc(f:β→β)(c:List β):Prop:=∃s t,c=s::t∧Lk f s t s
def zc3(h:Cyc f (A++x::B)):Lk f x (B++A) x:=by
 obtain⟨s,t,e,k⟩:=h
 cases A with
 |nil =>
  cases e
  rw[Zy];exact k
 |cons a A' =>
  cases e
  obtain⟨k1,k2⟩:=lk_app.mp k
  exact lk_app.mpr ⟨k2,k1⟩
def cyc_congr(h:∀y∈c,g y=f y)(k:Cyc f c):Cyc g c:=by
 obtain⟨s,t,e,k⟩:=k
 subst e
 exact⟨s,t,rfl,ziq (λy hy=>h y (Qh.mpr hy)) k⟩
end lk
section nx
variable{α:Type}[DecidableEq α]
def zbr{A B:List α}{w:α}(h:w∉A):(B++A++[w]).head?=some (nxt (A++w::B) w):=by
 have hi:(A++w::B).idxOf w=A.length:=by
  rw[List.idxOf_append,if_neg h,List.idxOf_cons_self];lia
 unfold nxt
 rw[hi,Ql,Zb]
 cases B with
 |nil =>
  have e:(A.length+1)%(A.length+(([]:List α).length+1))=0:=by simp
  rw[e]
  cases A with
  |nil=>rfl
  |cons a t=>rfl
 | cons b t =>
  have e:(A.length+1)%(A.length+((b::t).length+1))=A.length+1:=Nat.mod_eq_of_lt (by rw[Zb];lia)
  rw[e]
  have:(A++w::b::t).getD (A.length+1) w=b:=by
   rw[Qw,Uo (by exact Yd _ _)]
   have:A.length+1-A.length=1:=by lia
   rw[this];rfl
  rw[this];rfl
def zcg{zs:List α}{c:α}(h:c∈zs)(nd:zs.Nodup):∃A B,zs=A++c::B∧c∉A∧c∉B:=by
 obtain⟨A,B,e⟩:=Wf h
 refine⟨A,B,e,?_,?_⟩
 ·rw [e,Ze] at nd
  exact λz=>nd.2.2 _ z _ Qd rfl
 ·rw [e,Ze,Za] at nd
  exact nd.2.1.1
def zc8{A B:List α}{c n:α}(h:c∉A):ins (A++c::B) (some c) n=A++c::n::B:=by
 have hi:(A++c::B).idxOf c=A.length:=by
  rw[List.idxOf_append,if_neg h,List.idxOf_cons_self];lia
 show(A++c::B).take ((A++c::B).idxOf c+1)++n::(A++c::B).drop ((A++c::B).idxOf c+1)=_
 rw[hi]
 have e1:(A++c::B).take (A.length+1)=A++[c]:=by
  rw[List.take_append,Qv (by exact Yd _ _)]
  have:A.length+1-A.length=1:=by lia
  rw[this];rfl
 have e2:(A++c::B).drop (A.length+1)=B:=by
  rw[List.drop_append,Jf (by exact Yd _ _)]
  have:A.length+1-A.length=1:=by lia
  rw[this];rfl
 rw[e1,e2,Qm];rfl
variable{zs:List α}{c n:α}
def mem_ins(hc:c∈zs)(nd:zs.Nodup){w:α}:w∈ins zs (some c) n↔w=n∨w∈zs:=by
 obtain⟨A,B,rfl,h1,h2⟩:=zcg hc nd
 rw[zc8 h1]
 simp only[Qe,Qh]
 constructor
 ·rintro (h | h | h | h)
  ·exact .inr (.inl h)
  ·exact .inr (.inr (.inl h))
  ·exact .inl h
  ·exact .inr (.inr (.inr h))
 ·rintro (h | h | h | h)
  ·exact .inr (.inr (.inl h))
  ·exact .inl h
  ·exact .inr (.inl h)
  ·exact .inr (.inr (.inr h))
def zir(hc:c∈zs)(nd:zs.Nodup):(ins zs (some c) n).length=zs.length+1:=by
 obtain⟨A,B,rfl,h1,h2⟩:=zcg hc nd
 rw[zc8 h1]
 simp only[Ql,Zb];lia
def nd_ins(hc:c∈zs)(nd:zs.Nodup)(hn:n∉zs):(ins zs (some c) n).Nodup:=by
 obtain⟨A,B,rfl,h1,h2⟩:=zcg hc nd
 rw[zc8 h1]
 rw[Ze,Za]at nd
 rw[Qe,Qh,not_or,not_or]at hn
 obtain⟨nA,⟨ncB,nB⟩,nAB⟩:=nd
 rw[Ze,Za,Za]
 refine⟨nA,⟨?_,hn.2.2,nB⟩,λa ha b hb=>?_⟩
 ·rw[Qh,not_or];exact⟨λe=>hn.2.1 e.symm,ncB⟩
 ·rcases Qh.mp hb with z | z
  ·rw[z];exact nAB a ha c Qd
  ·rcases Qh.mp z with y | y
   ·rw[y];exact λe=>hn.1 (e▸ha)
   ·exact nAB a ha b (Qg _ y)
def zgv(hc:c∈zs)(nd:zs.Nodup):nxt (ins zs (some c) n) c=n:=by
 obtain⟨A,B,rfl,h1,h2⟩:=zcg hc nd
 rw[zc8 h1]
 have k:=zbr (B:=n::B) h1
 exact(Qt k).symm
def zgu(hc:c∈zs)(nd:zs.Nodup)(hn:n∉zs):nxt (ins zs (some c) n) n=nxt zs c:=by
 obtain⟨A,B,rfl,h1,h2⟩:=zcg hc nd
 rw[zc8 h1]
 rw[Qe,Qh,not_or,not_or]at hn
 have e:A++c::n::B=(A++[c])++n::B:=by rw[Qm];rfl
 have hnA:n∉A++[c]:=by
  rw[Qe,not_or,Qb];exact⟨hn.1,hn.2.1⟩
 have k1:=zbr (B:=B) hnA
 have k2:=zbr (B:=B) h1
 rw[←e]at k1
 refine Qt (k1.symm.trans (Eq.trans ?_ k2))
 cases B with
 |cons b t=>rfl
 |nil=>cases A with
  |nil=>rfl
  |cons a t=>rfl
def zgt(hc:c∈zs)(nd:zs.Nodup)(hn:n∉zs){w:α}(hw:w∈zs)(pA:w≠c):nxt (ins zs (some c) n) w=nxt zs w:=by
 obtain⟨A,B,rfl,h1,h2⟩:=zcg hc nd
 rw[zc8 h1]
 rw[Ze,Za]at nd
 obtain⟨nA,⟨ncB,nB⟩,nAB⟩:=nd
 rw[Qe,Qh,not_or,not_or]at hn
 rcases Qe.mp hw with h | h
 ·obtain ⟨A1,A2,rfl,g1,g2⟩:=zcg h nA
  have k1:=zbr (A:=A1) (B:=A2++c::n::B) g1
  have k2:=zbr (A:=A1) (B:=A2++c::B) g1
  rw[Qm,Yo,Qm,Yo]
  refine Qt (k1.symm.trans (Eq.trans ?_ k2))
  cases A2<;>rfl
 ·rcases Qh.mp h with z | z
  ·exact absurd z pA
  ·obtain ⟨B1,B2,rfl,g1,g2⟩:=zcg z nB
   have hwA:w∉A:=λq=>nAB _ q _ (Qg _ z) rfl
   have lg:w≠n:=λq=>hn.2.2 (q▸z)
   have m1:w∉A++c::n::B1:=by
    simp only[Qe,Qh,not_or];exact⟨hwA,pA,lg,g1⟩
   have m2:w∉A++c::B1:=by
    simp only[Qe,Qh,not_or];exact⟨hwA,pA,g1⟩
   have k1:=zbr (B:=B2) m1
   have k2:=zbr (B:=B2) m2
   have e1:A++c::n::(B1++w::B2)=(A++c::n::B1)++w::B2:=by rw[Qm];rfl
   have e2:A++c::(B1++w::B2)=(A++c::B1)++w::B2:=by rw[Qm];rfl
   rw[e1,e2]
   refine Qt (k1.symm.trans (Eq.trans ?_ k2))
   cases B2 with
   |cons b t=>rfl
   |nil=>cases A<;>rfl
def nxt_rot(nd:zs.Nodup)(k:Nat){w:α}(hw:w∈zs):nxt (zs.drop k++zs.take k) w=nxt zs w:=by
 obtain⟨A,B,rfl,h1,h2⟩:=zcg hw nd
 have k2:=zbr (B:=B) h1
 by_cases hk:k≤A.length
 ·have e:(A++w::B).drop k++(A++w::B).take k=A.drop k++w::(B++A.take k):=by
   rw[List.drop_append,List.take_append]
   have:k-A.length=0:=by lia
   rw[this,List.drop_zero,List.take_zero,Zy,Qm];rfl
  have k1:=zbr (A:=A.drop k) (B:=B++A.take k) (λz=>h1 (Wi z))
  rw[e]
  refine Qt (k1.symm.trans (Eq.trans ?_ k2))
  rw[Qm B,Zl]
 ·have e:(A++w::B).drop k++(A++w::B).take k=(B.drop (k - A.length - 1)++A)++w::B.take (k - A.length - 1):=by
   rw[List.drop_append,List.take_append,Jf (by lia),Qv (by lia)]
   have:k-A.length=(k-A.length-1)+1:=by lia
   conv=>lhs;rw[this]
   rw[List.drop_succ_cons,List.take_succ_cons,Jj,Qm]
  have k1:=zbr (A:=B.drop (k-A.length-1)++A) (B:=B.take (k-A.length-1)) (λz=>by
   rcases Qe.mp z with y | y
   ·exact h2 (Wi y)
   ·exact h1 y)
  rw[e]
  refine Qt (k1.symm.trans (Eq.trans ?_ k2))
  rw[←Qm,Zl]
end nx
section
variable{α:Type}[DecidableEq α]
def st(r:α→List α)(s:α×α):α×α:=(s.2,nxt (r s.2) s.1)
inductive Conn(r:α→List α)(x:α):α→Prop
 |refl:Conn r x x
 |step {y z:α}:Conn r x y→z∈r y→Conn r x z
def Conn.trans{r:α→List α}{x y z:α}(a:Conn r x y)(b:Conn r y z):Conn r x z:=by
 induction b with
 |refl=>exact a
 |step _ h ih=>exact .step ih h
def Conn.mono(h:∀x y,y∈r x→y∈r' x)(a:Conn r x y):Conn r' x y:=by
 induction a with
 |refl=>exact .refl
 |step _ hz ih=>exact .step ih (h _ _ hz)
def wt(ns:List α)(r:α→List α)(a9:α→α)(t:α):Int:=(ns.map λx=>if a9 x=t then 2+(if r x=[] then 2 else 0)-((r x).length:Int) else 0).sum
def ct(cs:List (List (α×α)))(a9:α→α)(t:α):Int:=(cs.map λc=>if(c.any λs=>decide (a9 s.1=t))=true then(2:Int) else 0).sum
structure Cert(ns:List α)(r:α→List α)(cs:List (List (α×α)))(a9:α→α):Prop where
 nd:ns.Nodup
 ro:∀x,x∉ns→r x=[]
 rn:∀x,(r x).Nodup
 ir:∀x,x∉r x
 sy:∀x y,y∈r x→x∈r y
 cf:cs.flatten.Nodup
 cm:∀s,s∈cs.flatten↔s.1∈r s.2
 cy:∀c∈cs,Cyc (st r) c
 ln:∀x∈ns,a9 x∈ns
 la:∀x y,y∈r x→a9 y=a9 x
 co:∀x∈ns,∀y∈ns,a9 x=a9 y→Conn r x y
 eu:∀x∈ns,wt ns r a9 (a9 x)+ct cs a9 (a9 x)=4
variable{ns:List α}{r r':α→List α}{cs:List (List (α×α))}{a9:α→α}
def Cert.inn(C:Cert ns r cs a9){x y:α}(h:y∈r x):x∈ns:=Xh λz=>by rw[C.ro x z]at h;cases h
def Cert.inn'(C:Cert ns r cs a9){x y:α}(h:y∈r x):y∈ns:=C.inn (C.sy x y h)
def sum_upd{g g':α→Int}:∀ {l:List α},l.Nodup→a∈l→(∀ x∈l,x≠a→g' x=g x)→(l.map g').sum=(l.map g).sum+(g' a - g a):=by
 intro l
 induction l with
 |nil=>intro _ h;cases h
 | cons b t ih =>
  intro nd h e
  rw[Za]at nd
  rw[Qj,Qj,Yv,Yv]
  by_cases hb:b=a
  ·have:(t.map g').sum=(t.map g).sum:=by
    congr 1
    exact Wz λx hx=>e x (Qg _ hx) λz=>nd.1 (by rw[hb,←z];exact hx)
   rw[this,hb];lia
  ·have h':a∈t:=by
    rcases Qh.mp h with z | z
    ·exact absurd z.symm hb
    ·exact z
   rw[ih nd.2 h' λx hx=>e x (Qg _ hx),e b Qd hb];lia
def zdw{β:Type}{g g':β→Int}{l:List β}(h:∀x∈l,g' x=g x):(l.map g').sum=(l.map g).sum:=by
 congr 1;exact Wz h
def zix(C:Cert ns r cs a9){N R:List (List (α×α))}{c0 news:List (α×α)}(hR:∀c∈R,c∈cs)(bU:cs.flatten.Perm (c0++R.flatten))(hN:N.flatten.Perm (news++c0))(aZ:news.Nodup)(cG:∀s∈news,s.1∉r s.2)(gn:∀s:α×α,s.1∈r' s.2↔s∈news∨s.1∈r s.2)(hcy:∀c∈N,Cyc (st r') c)(aO:∀s:α×α,s.1∈r s.2→s∉c0→st r' s=st r s) :
  (N++R).flatten.Nodup∧(∀s,s∈(N++R).flatten↔s.1∈r' s.2)∧∀c∈N++R,Cyc (st r') c:=by
 have hp:(N++R).flatten.Perm (news++cs.flatten):=by
  rw[Wj]
  refine(Jg _ hN).trans ?_
  rw[Qm]
  exact Zv _ bU.symm
 refine⟨?_,λs=>?_,λc hc=>?_⟩
 ·rw [hp.nodup_iff,Ze]
  exact⟨aZ,C.cf,λa ha b hb e=>cG a ha (by rw[e];exact(C.cm b).mp hb)⟩
 ·rw[hp.mem_iff,Qe,gn,C.cm]
 ·rcases Qe.mp hc with z | z
  ·exact hcy c z
  ·refine cyc_congr (fun y hy=>?_) (C.cy c (hR c z))
   have hyR:y∈R.flatten:=Yf.mpr ⟨c,z,hy⟩
   refine aO y ((C.cm y).mp (bU.mem_iff.mpr (Qp _ hyR))) λl6=>?_
   have:=bU.nodup_iff.mp C.cf
   rw[Ze]at this
   exact this.2.2 y l6 y hyR rfl
def sum_zero{β:Type}{g:β→Int}:∀{l:List β},(∀x∈l,g x=0)→(l.map g).sum=0:=by
 intro l
 induction l with
 |nil=>intro _;rfl
 |cons a t ih =>
  intro h
  rw[Qj,Yv,h a Qd,ih λx hx=>h x (Qg _ hx)];rfl
def Cert.inc(C:Cert ns r cs a9){c:List (α×α)}(hc:c∈cs){s:α×α}(hs:s∈c):s.1∈r s.2:=(C.cm s).mp (Yf.mpr ⟨c,hc,hs⟩)
def ct_lab{af:α→α}{t:α}(h:∀c∈cs,∀s∈c,af s.1=a9 s.1):ct cs af t=ct cs a9 t:=by
 refine zdw λc hc=>?_
 have:(c.any λs=>decide (af s.1=t))=c.any λs=>decide (a9 s.1=t):=by
  rw[Yr,Wa,Wa]
  constructor
  ·rintro⟨s,hs,e⟩;exact⟨s,hs,by rwa[h c hc s hs]at e⟩
  ·rintro⟨s,hs,e⟩;exact⟨s,hs,by rw[h c hc s hs];exact e⟩
 rw[this]
def cert_new(C:Cert ns r cs a9){x:α}(hx:x∉ns){af:α→α}(hl:∀y∈ns,af y=a9 y)(bn:af x=x):Cert (ns++[x]) r cs af:=by
 have hrx:r x=[]:=C.ro x hx
 have ne:∀{y},y∈ns→y≠x:=λ{y} hy e=>hx (e▸hy)
 have aA:∀c∈cs,∀s∈c,s.1∈ns:=λc hc s hs=>C.inn' (C.inc hc hs)
 have ko:∀t,ct cs af t=ct cs a9 t:=λt=>ct_lab λc hc s hs=>hl _ (aA c hc s hs)
 have lx:∀y∈ns,a9 y≠x:=λy hy e=>hx (e▸C.ln y hy)
 have rN:ct cs a9 x=0:=sum_zero λc hc=>if_neg λz=>by
  obtain⟨s,hs,e⟩:=Wa.mp z
  exact lx _ (aA c hc s hs) (of_decide_eq_true e)
 have hw:∀t,wt (ns++[x]) r af t=wt ns r a9 t+if x=t then 4 else 0:=λt=>by
  unfold wt
  rw[Qs,List.sum_append,Qj,Xd,Yv,List.sum_nil]
  congr 1
  ·exact zdw λz hz=>by rw[hl z hz]
  ·rw[bn,hrx];simp
 refine⟨?_,λy hy=>C.ro y λz=>hy (Qr _ z),C.rn,C.ir,C.sy,C.cf,C.cm,C.cy,λy hy=>?_,λy z hz=>?_,λy hy z hz e=>?_,λy hy=>?_⟩
 ·rw [Ze]
  exact⟨C.nd,Za.mpr ⟨by simp,Yb⟩,λa ha b hb=>by rw[Qb.mp hb];exact ne ha⟩
 ·rcases Qe.mp hy with h | h
  ·rw[hl y h];exact Qr _ (C.ln y h)
  ·rw[Qb.mp h,bn];exact Qp _ Qd
 ·rw[hl _ (C.inn' hz),hl _ (C.inn hz)];exact C.la y z hz
 ·rcases Qe.mp hy with h | h <;> rcases Qe.mp hz with g | g
  ·rw[hl _ h,hl _ g]at e;exact C.co y h z g e
  ·rw [hl _ h,Qb.mp g,bn] at e
   exact absurd e (lx y h)
  ·rw [hl _ g,Qb.mp h,bn] at e
   exact absurd e.symm (lx z g)
  ·rw[Qb.mp h,Qb.mp g];exact .refl
 ·rw [ko,hw]
  rcases Qe.mp hy with h | h
  ·rw [hl _ h,if_neg (fun z=>lx y h z.symm)]
   have:=C.eu y h;lia
  ·rw [Qb.mp h,bn,if_pos rfl,rN]
   have:wt ns r a9 x=0:=sum_zero λz hz=>if_neg (lx z hz)
   rw[this];rfl
end
section
variable{β:Type}
def zio:∀{t:List β},g s'=f s→(∀y∈t,g y=f y)→Lk f s t e→Lk g s' t e:=by
 intro t
 cases t with
 |nil=>intro h _ k;exact h.trans k
 |cons a t =>
  intro h hh k
  exact⟨h.trans k.1,ziq (λy hy=>hh y (Qh.mpr hy)) k.2⟩
def lk_lab{γ:Type}{f:β→β}{lb:β→γ}{e:β}:∀{t:List β} {s:β},(∀y,y=s∨y∈t→lb (f y)=lb y)→Lk f s t e→∀y∈t,lb y=lb s:=by
 intro t
 induction t with
 |nil=>intro s _ _ y hy;cases hy
 | cons a t ih =>
  intro s h k y hy
  have ha:lb a=lb s:=by rw[←k.1];exact h s (.inl rfl)
  rcases Qh.mp hy with z | z
  ·rw[z];exact ha
  ·rw [← ha]
   exact ih (λy hy=>h y (.inr (Qh.mpr hy))) k.2 y z
def zij{l m:List Int}(h:l.Perm m):l.sum=m.sum:=by
 induction h with
 |nil=>rfl
 |cons x _ ih=>rw[Yv,Yv,ih]
 |swap x y l=>rw[Yv,Yv,Yv,Yv];omega
 |trans _ _ a b=>exact a.trans b
end
section
variable{α:Type}[DecidableEq α]{ns:List α}{r r':α→List α}{cs:List (List (α×α))}{a9 af:α→α}
def ct_perm{aG:List (List (α×α))}(h:cs.Perm aG)(t:α):ct cs a9 t=ct aG a9 t:=zij (h.map _)
def zfn(c:List (α×α))(t:α):ct (c::cs) a9 t=(if(c.any λs=>decide (a9 s.1=t))=true then(2:Int) else 0)+ct cs a9 t:=by
 unfold ct;rw[List.map_cons,List.sum_cons]
def Cert.one_lab(C:Cert ns r cs a9){c:List (α×α)}(hc:c∈cs){s u:α×α}(hs:s∈c)(hu:u∈c):a9 u.1=a9 s.1:=by
 obtain⟨A,B,rfl⟩:=Wf hs
 have k:=zc3 (C.cy _ hc)
 have hl:∀y,y=s∨y∈B++A→a9 (st r y).1=a9 y.1:=λy hy=>by
  have d0:y∈A++s::B:=by
   rcases hy with z | z
   ·rw[z];exact hs
   ·rcases Qe.mp z with q | q
    ·exact Qp _ (Qg _ q)
    ·exact Qr _ q
  exact(C.la _ _ (C.inc hc d0)).symm
 rcases Qe.mp hu with z | z
 ·exact lk_lab (lb:=λy:α×α=>a9 y.1) hl k u (Qp _ z)
 ·rcases Qh.mp z with q | q
  ·rw[q]
  ·exact lk_lab (lb:=λy:α×α=>a9 y.1) hl k u (Qr _ q)
def zfp{c:List (α×α)}(h:∀s∈c,a9 s.1=u)(aH:c≠[]):(c.any λs=>decide (a9 s.1=t))=decide (u=t):=by
 rw[Yr,Wa,decide_eq_true_iff]
 constructor
 ·rintro⟨s,hs,e⟩;rw[←h s hs];exact of_decide_eq_true e
 ·intro e
  cases c with
  |nil=>exact absurd rfl aH
  |cons s _=>exact⟨s,Qd,decide_eq_true ((h s Qd).trans e)⟩
def zcj(hc:c∈cs):cs.flatten.Perm (c++(cs.erase c).flatten):=by
 have:=Km (Ku hc)
 rwa[Yj]at this
def zfv(C:Cert ns r cs a9)(hp:p∈ns)(hx:x∉ns)(h1:r' x=[p])(h3:∀ y,y≠x→y≠p→r' y=r y)(hm:∀ w,w∈r' p↔w=x∨w∈r p)(hn:(r' p).Nodup)(aa:(r' p).length=(r p).length+1)(hl:∀y∈ns,af y=a9 y)(bn:af x=a9 p)(hc:aG.flatten.Nodup∧(∀s,s∈aG.flatten↔s.1∈r' s.2)∧∀c∈aG,Cyc (st r') c)(ko:∀t,ct aG af t=ct cs a9 t+if a9 p=t then(if r p=[] then 2 else 0) else 0):Cert (ns++[x]) r' aG af:=by
 have dN:p≠x:=λe=>hx (e▸hp)
 have hrx:r x=[]:=C.ro x hx
 have ne:∀{y},y∈ns→y≠x:=λ{y} hy e=>hx (e▸hy)
 have sub:∀z y,y∈r z→y∈r' z:=λz y hy=>by
  by_cases hz:z=p
  ·rw[hz]at hy ⊢;exact(hm y).mpr (.inr hy)
  ·rw[h3 z (ne (C.inn hy)) hz];exact hy
 have hw:∀t,wt (ns++[x]) r' af t=wt ns r a9 t-if a9 p=t then(if r p=[] then 2 else 0) else 0:=λt=>by
  unfold wt
  rw[Qs,List.sum_append,Qj,Xd,Yv,List.sum_nil,bn,h1]
  have e1:(ns.map λy=>if af y=t then(2:Int)+(if r' y=[] then 2 else 0)-((r' y).length:Int) else 0).sum=(ns.map λy=>if a9 y=t then(2:Int)+(if r' y=[] then 2 else 0)-((r' y).length:Int) else 0).sum :=
   zdw λy hy=>by rw[hl y hy]
  rw[e1,sum_upd (g:=λy=>if a9 y=t then(2:Int)+(if r y=[] then 2 else 0)-((r y).length:Int) else 0) C.nd hp (λy hy ba=>by rw[h3 y (ne hy) ba])]
  have aH:r' p≠[]:=λe=>by rw[e]at aa;simp at aa
  by_cases ht:a9 p=t
  ·simp only [ht,if_true,aH,if_false,aa]
   by_cases dq:r p=[]
   ·simp[dq];omega
   ·simp[dq];omega
  ·simp only[ht,if_false];omega
 refine⟨?_,λy hy=>?_,λy=>?_,λy=>?_,λy z hz=>?_,hc.1,hc.2.1,hc.2.2,λy hy=>?_,λy z hz=>?_,λy hy z hz e=>?_,λy hy=>?_⟩
 ·rw [Ze]
  exact⟨C.nd,Za.mpr ⟨by simp,Yb⟩,λa ha b hb=>by rw[Qb.mp hb];exact ne ha⟩
 ·rw [Qe,not_or,Qb] at hy
  rw[h3 y hy.2 (λe=>hy.1 (e▸hp))];exact C.ro y hy.1
 ·by_cases di:y=x
  ·rw[di,h1];exact Za.mpr ⟨by simp,Yb⟩
  ·by_cases ba:y=p
   ·rw[ba];exact hn
   ·rw[h3 y di ba];exact C.rn y
 ·by_cases di:y=x
  ·rw[di,h1,Qb];exact Zo dN
  ·by_cases ba:y=p
   ·rw[ba,hm,not_or];exact⟨dN,C.ir p⟩
   ·rw[h3 y di ba];exact C.ir y
 ·by_cases di:y=x
  ·rw [di,h1,Qb] at hz
   rw[hz,di];exact(hm x).mpr (.inl rfl)
  ·by_cases ba:y=p
   ·rw [ba] at hz ⊢
    rcases(hm z).mp hz with q | q
    ·rw[q,h1];exact Qd
    ·exact sub z p (C.sy p z q)
   ·rw [h3 y di ba] at hz
    exact sub z y (C.sy y z hz)
 ·rcases Qe.mp hy with h | h
  ·rw[hl y h];exact Qr _ (C.ln y h)
  ·rw[Qb.mp h,bn];exact Qr _ (C.ln p hp)
 ·by_cases di:y=x
  ·rw [di,h1,Qb] at hz
   rw[hz,di,bn,hl p hp]
  ·by_cases ba:y=p
   ·rw [ba] at hz ⊢
    rcases(hm z).mp hz with q | q
    ·rw[q,bn,hl p hp]
    ·rw[hl _ (C.inn' q),hl p hp];exact C.la p z q
   ·rw [h3 y di ba] at hz
    rw[hl _ (C.inn' hz),hl _ (C.inn hz)];exact C.la y z hz
 ·have xp:Conn r' x p:=.step .refl (by rw [h1];exact Qd)
  rcases Qe.mp hy with h | h<;>rcases Qe.mp hz with g | g
  ·rw[hl _ h,hl _ g]at e;exact(C.co y h z g e).mono sub
  ·rw [hl _ h,Qb.mp g,bn] at e
   rw[Qb.mp g]
   exact .step ((C.co y h p hp e).mono sub) ((hm x).mpr (.inl rfl))
  ·rw [hl _ g,Qb.mp h,bn] at e
   rw[Qb.mp h]
   exact xp.trans ((C.co p hp z g e).mono sub)
  ·rw[Qb.mp h,Qb.mp g];exact .refl
 ·have key:∀ u∈ns,wt (ns++[x]) r' af (a9 u)+ct aG af (a9 u)=4:=fun u hu=>by
   rw[hw,ko]
   have:=C.eu u hu;omega
  rcases Qe.mp hy with h | h
  ·rw[hl _ h];exact key y h
  ·rw[Qb.mp h,bn];exact key p hp
end
section
variable{α:Type}[DecidableEq α]{ns:List α}{r r':α→List α}{cs:List (List (α×α))}{a9 af:α→α}
def nxt_one(p:α):nxt [p] p=p:=by
 unfold nxt
 simp
def leaf_mem(C:Cert ns r cs a9)(hp:p∈ns)(hx:x∉ns)(h1:r' x=[p])(h3:∀ y,y≠x→y≠p→r' y=r y)(hm:∀ w,w∈r' p↔w=x∨w∈r p) :
  ∀s:α×α,s.1∈r' s.2↔s∈[(x,p),(p,x)]∨s.1∈r s.2:=λs=>by
 obtain⟨a,b⟩:=s
 have dN:p≠x:=λe=>hx (e▸hp)
 show a∈r' b↔(a,b)∈[(x,p),(p,x)]∨a∈r b
 rw[Qh,Qb,Prod.mk.injEq,Prod.mk.injEq]
 by_cases oe:b=x
 ·subst oe
  rw[h1,C.ro b hx,Qb]
  constructor
  ·intro e;exact .inl (.inr ⟨e,rfl⟩)
  ·rintro ((⟨_,e⟩ | ⟨e,_⟩) | e)
   ·exact absurd e.symm dN
   ·exact e
   ·cases e
 ·by_cases i6:b=p
  ·subst i6
   rw[hm]
   constructor
   ·rintro (e | e)
    ·exact .inl (.inl ⟨e,rfl⟩)
    ·exact .inr e
   ·rintro ((⟨e,_⟩ | ⟨_,e⟩) | e)
    ·exact .inl e
    ·exact absurd e oe
    ·exact .inr e
  ·rw [h3 b oe i6]
   constructor
   ·exact .inr
   ·rintro ((⟨_,e⟩ | ⟨_,e⟩) | e)
    ·exact absurd e i6
    ·exact absurd e oe
    ·exact e
def leaf_nd(dN:p≠x):([(x,p),(p,x)]:List (α×α)).Nodup:=by
 rw[Za,Qb]
 exact⟨λe=>dN (Je e).1.symm,Za.mpr ⟨by simp,Yb⟩⟩
def leaf_no(C:Cert ns r cs a9)(hx:x∉ns):∀s∈([(x,p),(p,x)]:List (α×α)),s.1∉r s.2:=λs hs h=>by
 rcases Qh.mp hs with e | e
 ·rw[e]at h;exact hx (C.inn' h)
 ·rw[Qb.mp e]at h;exact hx (C.inn h)
def cert_leaf0(C:Cert ns r cs a9)(hp:p∈ns)(hx:x∉ns)(nO:r p=[])(h1:r' x=[p])(h2:r' p=[x])(h3:∀ y,y≠x→y≠p→r' y=r y)(hl:∀ y∈ns,af y=a9 y)(bn:af x=a9 p) :
  Cert (ns++[x]) r' ([(x,p),(p,x)]::cs) af:=by
 have dN:p≠x:=λe=>hx (e▸hp)
 have hm:∀w,w∈r' p↔w=x∨w∈r p:=λw=>by rw[h2,nO,Qb];simp
 refine zfv C hp hx h1 h3 hm (by rw[h2];exact Za.mpr ⟨by simp,Yb⟩) (by rw[h2,nO];rfl) hl bn ?_ λt=>?_
 ·refine zix (N:=[[(x,p),(p,x)]]) (R:=cs) (c0:=[]) (news:=[(x,p),(p,x)]) C (fun c h=>h) (by rw [Jj]) (by simp) (leaf_nd dN) (leaf_no C hx) (leaf_mem C hp hx h1 h3 hm) (fun c hc=>?_) fun s hs _=>?_
  ·rw [Qb.mp hc]
   refine⟨(x,p),[(p,x)],rfl,?_,?_⟩
   ·show (p,nxt (r' p) x)=(p,x)
    rw[h2,nxt_one]
   ·show (x,nxt (r' x) p)=(x,p)
    rw[h1,nxt_one]
  ·have pP:s.2≠x:=fun e=>hx (e ▸ C.inn hs)
   have bH:s.2≠p:=λe=>by rw[e,nO]at hs;cases hs
   unfold st;rw[h3 s.2 pP bH]
 ·rw [zfn,zfp (u:=a9 p) (fun s hs=>?_) (by simp)]
  ·have:ct cs af t=ct cs a9 t:=ct_lab fun c hc s hs=>hl _ (C.inn' (C.inc hc hs))
   rw[this]
   simp only[decide_eq_true_eq,nO,if_true]
   lia
  ·rcases Qh.mp hs with e | e
   ·rw[e];exact bn
   ·rw[Qb.mp e];exact hl p hp
def cert_leaf(C:Cert ns r cs a9)(hp:p∈ns)(hx:x∉ns)(hc:c∈r p)(h1:r' x=[p])(h2:r' p=ins (r p) (some c) x)(h3:∀ y,y≠x→y≠p→r' y=r y)(hl:∀ y∈ns,af y=a9 y)(bn:af x=a9 p) :
  ∃aG,Cert (ns++[x]) r' aG af:=by
 have dN:p≠x:=λe=>hx (e▸hp)
 have gN:x∉r p:=λh=>hx (C.inn' h)
 have hm:∀w,w∈r' p↔w=x∨w∈r p:=λw=>by rw[h2];exact mem_ins hc (C.rn p)
 obtain⟨c1,bX,br⟩:=Yf.mp ((C.cm (c,p)).mpr hc)
 obtain⟨A,B,dD⟩:=Wf br
 have k:=zc3 (dD▸C.cy c1 bX)
 have old:∀y∈c1,y.1∈r y.2:=λy hy=>C.inc bX hy
 have nd1:c1.Nodup:=by
  have:=(zcj bX).nodup_iff.mp C.cf
  rw[Ze]at this
  exact this.1
 have aO:∀s:α×α,s.1∈r s.2→s≠(c,p)→st r' s=st r s:=λs hs aH=>by
  have pP:s.2≠x:=λe=>hx (e▸C.inn hs)
  by_cases bH:s.2=p
  ·unfold st
   rw[bH,h2]
   rw[bH]at hs
   rw[zgt hc (C.rn p) gN hs (λe=>aH (Ks e bH))]
  ·unfold st;rw[h3 s.2 pP bH]
 have inBA:∀y∈B++A,y∈c1∧y≠(c,p):=λy hy=>by
  rw[dD]at nd1 ⊢
  rw[Ze,Za]at nd1
  rcases Qe.mp hy with z | z
  ·exact⟨Qp _ (Qg _ z),λe=>nd1.2.1.1 (e▸z)⟩
  ·exact⟨Qr _ z,λe=>nd1.2.2 y z (c,p) Qd e⟩
 refine⟨[(c,p)::(p,x)::(x,p)::(B++A)]++cs.erase c1,zfv C hp hx h1 h3 hm (by rw[h2];exact nd_ins hc (C.rn p) gN) (by rw[h2];exact zir hc (C.rn p)) hl bn ?_ λt=>?_⟩
 ·refine zix (c0:=c1) (news:=[(x,p),(p,x)]) C (fun c h=>List.mem_of_mem_erase h) (zcj bX) ?_ (leaf_nd dN) (leaf_no C hx) (leaf_mem C hp hx h1 h3 hm) (fun c' bE=>?_) fun s hs hn=>aO s hs fun e=>hn (e ▸ br)
  ·rw [dD]
   refine Uy.mpr λa=>?_
   simp only[Yj,Jc,Zy,Jq,Kb,List.count_nil]
   lia
  ·rw [Qb.mp bE]
   refine⟨(c,p),_,rfl,?_,?_,zio (f:=st r) (s:=(c,p)) ?_ (λy hy=>aO y (old y (inBA y hy).1) (inBA y hy).2) k⟩
   ·show (p,nxt (r' p) c)=(p,x)
    rw[h2,zgv hc (C.rn p)]
   ·show (x,nxt (r' x) p)=(x,p)
    rw[h1,nxt_one]
   ·show (p,nxt (r' p) x)=(p,nxt (r p) c)
    rw[h2,zgu hc (C.rn p) gN]
 ·have aH:r p≠[]:=Kc hc
  have e2:ct cs a9 t=ct (c1::cs.erase c1) a9 t:=ct_perm (Ku bX) t
  have e3:ct (cs.erase c1) af t=ct (cs.erase c1) a9 t:=ct_lab λc h s hs=>hl _ (C.inn' (C.inc (List.mem_of_mem_erase h) hs))
  have lc:∀s∈c1,a9 s.1=a9 p:=λs hs=>(C.one_lab bX br hs).trans (C.la p c hc)
  rw[e2,zfn,List.singleton_append,zfn,e3,zfp (u:=a9 p) lc (Kc br),zfp (u:=a9 p) (λs hs=>?_) (by simp),if_neg aH]
  ·simp
  ·rcases Qh.mp hs with e | hs
   ·rw[e];exact(hl _ (C.inn' hc)).trans (C.la p c hc)
   ·rcases Qh.mp hs with e | hs
    ·rw[e];exact hl p hp
    ·rcases Qh.mp hs with e | hs
     ·rw[e];exact bn
     ·rw[hl _ (C.inn' (old s (inBA s hs).1))];exact lc s (inBA s hs).1
def cert_tie(C:Cert ns r cs a9)(bX:c1∈cs)(br:(c,p)∈c1)(cE:(a,o)∈c1)(kb:o≠p)(cG:o∉r p)(h1:r' p=ins (r p) (some c) o)(h2:r' o=ins (r o) (some a) p)(h3:∀ y,y≠p→y≠o→r' y=r y) :
  ∃aG,Cert ns r' aG a9:=by
 have hc:c∈r p:=C.inc bX br
 have ha:a∈r o:=C.inc bX cE
 have hp:p∈ns:=C.inn hc
 have ho:o∈ns:=C.inn ha
 have nX:p∉r o:=λh=>cG (C.sy o p h)
 have eN:∀w,w∈r' p↔w=o∨w∈r p:=λw=>by rw[h1];exact mem_ins hc (C.rn p)
 have bg:∀w,w∈r' o↔w=p∨w∈r o:=λw=>by rw[h2];exact mem_ins ha (C.rn o)
 have eR:a9 o=a9 p:=by
  rw[←C.la o a ha,←C.la p c hc];exact C.one_lab bX br cE
 obtain⟨A,B,dD⟩:=Wf br
 have k:=zc3 (dD▸C.cy c1 bX)
 have old:∀y∈c1,y.1∈r y.2:=λy hy=>C.inc bX hy
 have nd1:c1.Nodup:=by
  have:=(zcj bX).nodup_iff.mp C.cf
  rw[Ze]at this
  exact this.1
 have pU:(a,o)∈B++A:=by
  rw[dD]at cE
  rcases Qe.mp cE with z | z
  ·exact Qp _ z
  ·rcases Qh.mp z with q | q
   ·exact absurd (Je q).2 kb
   ·exact Qr _ q
 obtain⟨A2,B2,mH⟩:=Wf pU
 rw[mH]at k
 obtain⟨k1,k2⟩:=lk_app.mp k
 have pm:c1.Perm ((c,p)::(A2++(a,o)::B2)):=by
  rw[dD,←mH]
  refine Uy.mpr λa=>?_
  simp only[Jq,Kb]
  lia
 have fI:=pm.nodup_iff.mp nd1
 rw[Za,Ze,Za]at fI
 obtain⟨n1,n2,⟨n3,n4⟩,n5⟩:=fI
 have inA:∀y∈A2,y∈c1∧y≠(c,p)∧y≠(a,o):=λy hy=>⟨pm.mem_iff.mpr (Qg _ (Qr _ hy)),λe=>n1 (e▸Qr _ hy),λe=>n5 y hy (a,o) Qd e⟩
 have inB:∀y∈B2,y∈c1∧y≠(c,p)∧y≠(a,o):=λy hy=>⟨pm.mem_iff.mpr (Qg _ (Qp _ (Qg _ hy))),λe=>n1 (e▸Qp _ (Qg _ hy)),λe=>n3 (e▸hy)⟩
 have aO:∀s:α×α,s.1∈r s.2→s≠(c,p)→s≠(a,o)→st r' s=st r s:=λs hs bM bd=>by
  by_cases bH:s.2=p
  ·unfold st
   rw[bH,h1]
   rw[bH]at hs
   rw[zgt hc (C.rn p) cG hs (λe=>bM (Ks e bH))]
  ·by_cases nM:s.2=o
   ·unfold st
    rw[nM,h2]
    rw[nM]at hs
    rw[zgt ha (C.rn o) nX hs (λe=>bd (Ks e nM))]
   ·unfold st;rw[h3 s.2 bH nM]
 have sub:∀z y,y∈r z→y∈r' z:=λz y hy=>by
  by_cases hz:z=p
  ·rw[hz]at hy ⊢;exact(eN y).mpr (.inr hy)
  ·by_cases iC:z=o
   ·rw[iC]at hy ⊢;exact(bg y).mpr (.inr hy)
   ·rw[h3 z hz iC];exact hy
 have gn:∀s:α×α,s.1∈r' s.2↔s∈[(o,p),(p,o)]∨s.1∈r s.2:=λs=>by
  obtain⟨u,b⟩:=s
  show u∈r' b↔(u,b)∈[(o,p),(p,o)]∨u∈r b
  rw[Qh,Qb,Prod.mk.injEq,Prod.mk.injEq]
  by_cases i6:b=p
  ·subst i6
   rw[eN]
   constructor
   ·rintro (e | e)
    ·exact .inl (.inl ⟨e,rfl⟩)
    ·exact .inr e
   ·rintro ((⟨e,_⟩ | ⟨_,e⟩) | e)
    ·exact .inl e
    ·exact absurd e.symm kb
    ·exact .inr e
  ·by_cases rQ:b=o
   ·subst rQ
    rw[bg]
    constructor
    ·rintro (e | e)
     ·exact .inl (.inr ⟨e,rfl⟩)
     ·exact .inr e
    ·rintro ((⟨_,e⟩ | ⟨e,_⟩) | e)
     ·exact absurd e i6
     ·exact .inl e
     ·exact .inr e
   ·rw [h3 b i6 rQ]
    constructor
    ·exact .inr
    ·rintro ((⟨_,e⟩ | ⟨_,e⟩) | e)
     ·exact absurd e i6
     ·exact absurd e rQ
     ·exact e
 have nnd:([(o,p),(p,o)]:List (α×α)).Nodup:=by
  rw[Za,Qb]
  exact⟨λe=>kb (Je e).1,Za.mpr ⟨by simp,Yb⟩⟩
 have cV:=zix (N:=[(c,p)::(p,o)::B2,(a,o)::(o,p)::A2]) (R:=cs.erase c1) (c0:=c1) (news:=[(o,p),(p,o)]) (r':=r') C (λc h=>List.mem_of_mem_erase h) (zcj bX) (by
   refine List.Perm.trans ?_ (Zv _ pm.symm)
   refine Uy.mpr λa=>?_
   simp only[Yj,Jc,Zy,Jq,Kb,List.count_nil]
   lia) nnd (λs hs h=>by
    rcases Qh.mp hs with e | e
    ·rw[e]at h;exact cG h
    ·rw[Qb.mp e]at h;exact nX h) gn (λc' bE=>by
   rcases Qh.mp bE with e | e
   ·rw [e]
    refine⟨(c,p),_,rfl,?_,zio (f:=st r) (s:=(a,o)) ?_ (λy hy=>aO y (old y (inB y hy).1) (inB y hy).2.1 (inB y hy).2.2) k2⟩
    ·show (p,nxt (r' p) c)=(p,o)
     rw[h1,zgv hc (C.rn p)]
    ·show (o,nxt (r' o) p)=(o,nxt (r o) a)
     rw[h2,zgu ha (C.rn o) nX]
   ·rw [Qb.mp e]
    refine⟨(a,o),_,rfl,?_,zio (f:=st r) (s:=(c,p)) ?_ (λy hy=>aO y (old y (inA y hy).1) (inA y hy).2.1 (inA y hy).2.2) k1⟩
    ·show (o,nxt (r' o) a)=(o,p)
     rw[h2,zgv ha (C.rn o)]
    ·show (p,nxt (r' p) o)=(p,nxt (r p) c)
     rw[h1,zgu hc (C.rn p) cG]) λs hs hn=>aO s hs (λe=>hn (e▸br)) λe=>hn (e▸cE)
 refine⟨_,C.nd,λy hy=>?_,λy=>?_,λy=>?_,λy z hz=>?_,cV.1,cV.2.1,cV.2.2,C.ln,λy z hz=>?_,λy hy z hz e=>(C.co y hy z hz e).mono sub,λy hy=>?_⟩
 ·rw[h3 y (λe=>hy (e▸hp)) (λe=>hy (e▸ho))];exact C.ro y hy
 ·by_cases ba:y=p
  ·rw[ba,h1];exact nd_ins hc (C.rn p) cG
  ·by_cases cD:y=o
   ·rw[cD,h2];exact nd_ins ha (C.rn o) nX
   ·rw[h3 y ba cD];exact C.rn y
 ·by_cases ba:y=p
  ·rw[ba,eN,not_or];exact⟨Zo kb,C.ir p⟩
  ·by_cases cD:y=o
   ·rw[cD,bg,not_or];exact⟨kb,C.ir o⟩
   ·rw[h3 y ba cD];exact C.ir y
 ·by_cases ba:y=p
  ·rw [ba] at hz ⊢
   rcases(eN z).mp hz with q | q
   ·rw[q];exact(bg p).mpr (.inl rfl)
   ·exact sub z p (C.sy p z q)
  ·by_cases cD:y=o
   ·rw [cD] at hz ⊢
    rcases(bg z).mp hz with q | q
    ·rw[q];exact(eN o).mpr (.inl rfl)
    ·exact sub z o (C.sy o z q)
   ·rw [h3 y ba cD] at hz
    exact sub z y (C.sy y z hz)
 ·by_cases ba:y=p
  ·rw [ba] at hz ⊢
   rcases(eN z).mp hz with q | q
   ·rw[q];exact eR
   ·exact C.la p z q
  ·by_cases cD:y=o
   ·rw [cD] at hz ⊢
    rcases(bg z).mp hz with q | q
    ·rw[q];exact eR.symm
    ·exact C.la o z q
   ·rw [h3 y ba cD] at hz
    exact C.la y z hz
 ·have e2:ct cs a9 (a9 y)=ct (c1::cs.erase c1) a9 (a9 y):=ct_perm (Ku bX) _
  have lc:∀s∈c1,a9 s.1=a9 p:=λs hs=>(C.one_lab bX br hs).trans (C.la p c hc)
  have l1:∀s∈(c,p)::(p,o)::B2,a9 s.1=a9 p:=λs hs=>by
   rcases Qh.mp hs with e | hs
   ·rw[e];exact C.la p c hc
   ·rcases Qh.mp hs with e | hs
    ·rw[e]
    ·exact lc s (inB s hs).1
  have l2:∀s∈(a,o)::(o,p)::A2,a9 s.1=a9 p:=λs hs=>by
   rcases Qh.mp hs with e | hs
   ·rw[e];exact(C.la o a ha).trans eR
   ·rcases Qh.mp hs with e | hs
    ·rw[e];exact eR
    ·exact lc s (inA s hs).1
  have ko:ct ([(c,p)::(p,o)::B2,(a,o)::(o,p)::A2]++cs.erase c1) a9 (a9 y)=ct cs a9 (a9 y)+if a9 p=a9 y then 2 else 0:=by
   rw[e2,zfn,Yo,zfn,Yo,zfn,Jj,zfp lc (Kc br),zfp l1 (by simp),zfp l2 (by simp)]
   simp only[decide_eq_true_eq]
   split<;>lia
  have hw:wt ns r' a9 (a9 y)=wt ns r a9 (a9 y)-if a9 p=a9 y then 2 else 0:=by
   have aW:∀{zs:List α} {w n:α},w∈zs→zs.Nodup→ins zs (some w) n≠[]:=λ{zs w n} hw nd e=>by
    have:=zir (n:=n) hw nd
    rw[e]at this;simp at this
   unfold wt
   have s1:=sum_upd (g:=λx=>if a9 x=a9 y then(2:Int)+(if r x=[] then 2 else 0)-((r x).length:Int) else 0)
    (g':=λx=>if x=p then(if a9 p=a9 y then(2:Int)+(if r' p=[] then 2 else 0)-((r' p).length:Int) else 0) else if a9 x=a9 y then(2:Int)+(if r x=[] then 2 else 0)-((r x).length:Int) else 0) C.nd hp (λx _ hx=>if_neg hx)
   have s2:=sum_upd (g:=λx=>if x=p then(if a9 p=a9 y then(2:Int)+(if r' p=[] then 2 else 0)-((r' p).length:Int) else 0) else if a9 x=a9 y then(2:Int)+(if r x=[] then 2 else 0)-((r x).length:Int) else 0)
    (g':=fun x=>if a9 x=a9 y then (2:Int)+(if r' x=[] then 2 else 0) - ((r' x).length:Int) else 0) C.nd ho (fun x _ hx=>by
     by_cases gN:x=p
     ·rw[if_pos gN,gN]
     ·rw[if_neg gN,h3 x gN hx])
   rw[s2,s1]
   simp only[if_true,kb,if_false,eR,h1,h2,aW hc (C.rn p),aW ha (C.rn o),zir hc (C.rn p),zir ha (C.rn o),Kc hc,Kc ha]
   by_cases ht:a9 p=a9 y
   ·simp only[ht,if_true];lia
   ·simp only[ht,if_false];lia
  rw[ko,hw]
  have:=C.eu y hy
  lia
end
section
variable{α:Type}[DecidableEq α]
def Good(rs:Rs α):Prop:=∃cs a9,Cert (rs.map (·.1)) (row rs) cs a9
def cyc_next{β:Type}{f:β→β}{c:List β}(h:Cyc f c){s:β}(hs:s∈c):f s∈c:=by
 obtain⟨A,B,rfl⟩:=Wf hs
 have k:=zc3 h
 cases e:B++A with
 |nil =>
  rw[e]at k
  rw[show f s=s from k];exact hs
 |cons a t =>
  rw[e]at k
  rw[k.1]
  have:a∈B++A:=by rw[e];exact Qd
  rcases Qe.mp this with z | z
  ·exact Qp _ (Qg _ z)
  ·exact Qr _ z
variable{rs:Rs α}
def zft(nd:(rs.map (·.1)).Nodup){p:α×List α}(h:p∈rs):row rs p.1=p.2:=by
 unfold row
 induction rs with
 |nil=>cases h
 | cons a t ih =>
  rw[Qj,Za]at nd
  rcases Qh.mp h with z | z
  ·subst z;rw[Ui (by simp)];rfl
  ·rw [Uj]
   ·exact ih nd.2 z
   ·intro q
    exact nd.1 (by rw[of_decide_eq_true q];exact Qk.mpr ⟨p,z,rfl⟩)
def zfg(h:x∉rs.map (·.1)):row rs x=[]:=by
 unfold row
 rw[List.find?_eq_none.mpr]
 ·rfl
 ·intro p hp q
  exact h (of_decide_eq_true q▸Qk.mpr ⟨p,hp,rfl⟩)
def zdh(nd:(rs.map (·.1)).Nodup){s:α×α}:IsSt rs s↔s.1∈row rs s.2:=by
 constructor
 ·rintro ⟨p,hp,e,h⟩
  rw[←e,zft nd hp];exact h
 ·intro h
  by_cases hx:s.2∈rs.map (·.1)
  ·obtain ⟨p,hp,e⟩:=Qk.mp hx
   have e':p.1=s.2:=e
   rw[←e',zft nd hp]at h
   exact⟨p,hp,e',h⟩
  ·rw[zfg hx]at h;cases h
def zc7(x:α)(rr:List α):(zbg rs x rr).map (·.1)=rs.map (·.1):=by
 unfold zbg
 rw[Zk]
 refine Wz λp _=>?_
 show(if p.1=x then(p.1,rr) else p).1=p.1
 split<;>rfl
def zcw{x:α}{rr:List α}(h:x∈rs.map (·.1)):row (zbg rs x rr) x=rr:=by
 unfold row zbg
 induction rs with
 |nil=>cases h
 | cons a t ih =>
  rw[Qj]
  by_cases hx:a.1=x
  ·rw[if_pos hx,Ui (by simpa using hx)];rfl
  ·rw [if_neg hx,Uj (by simpa using hx)]
   refine ih ?_
   rw[Qj]at h
   rcases Qh.mp h with z | z
   ·exact absurd z.symm hx
   ·exact z
def zch{x y:α}{rr:List α}(h:y≠x):row (zbg rs x rr) y=row rs y:=by
 unfold row zbg
 induction rs with
 |nil=>rfl
 | cons a t ih =>
  rw[Qj]
  by_cases hy:a.1=y
  ·have hx:a.1≠x:=fun e=>h (hy ▸ e)
   rw[if_neg hx,Ui (by simpa using hy),Ui (by simpa using hy)]
  ·have h1:(if a.1=x then (a.1,rr) else a).1=a.1:=by split <;> rfl
   rw[Uj (by rw[h1];simpa using hy),Uj (by simpa using hy)]
   exact ih
def row_snoc{x:α}(h:x∉rs.map (·.1)):row (rs++[(x,[])])=row rs:=by
 funext y
 unfold row
 rw[List.find?_append]
 cases e:rs.find? λp=>decide (p.1=y) with
 |some p=>rfl
 |none =>
  rw[Option.none_or]
  by_cases hy:x=y
  ·rw[Ui (by simpa using hy)];rfl
  ·rw[Uj (by simpa using hy)];rfl
theorem zbn:Gen (Good (α:=α)) where
 clo:=λrs ⟨cs,a9,C⟩ s hs=>by
  obtain⟨c,hc,h⟩:=Yf.mp ((C.cm s).mpr ((zdh C.nd).mp hs))
  exact(zdh C.nd).mpr ((C.cm _).mp (Yf.mpr ⟨c,hc,cyc_next (C.cy c hc) h⟩))
 nd:=λrs ⟨cs,a9,C⟩=>C.nd
 sub:=λrs ⟨cs,a9,C⟩ p hp=>by
  have e:=zft C.nd hp
  exact⟨e▸C.rn p.1,λx hx=>C.inn' (x:=p.1) (by rw[e];exact hx)⟩
 sy:=λrs ⟨cs,a9,C⟩ p hp x hx=>C.sy p.1 x (by rw[zft C.nd hp];exact hx)
 nil:=by
  refine⟨[],id,⟨Yb,λ_ _=>rfl,λ_=>Yb,λ_ h=>?_,λ_ _ h=>?_,Yb,λs=>⟨λh=>?_,λh=>?_⟩,λc h=>?_,λ_ h=>?_,λ_ _ h=>?_,λ_ h=>?_,λ_ h=>?_⟩⟩
  ·exact absurd h (by simp[row])
  ·exact absurd h (by simp[row])
  ·cases h
  ·exact absurd h (by simp[row])
  ·cases h
  ·cases h
  ·exact absurd h (by simp[row])
  ·cases h
  ·cases h
 new:=λrs x ⟨cs,a9,C⟩ hx=>by
  refine⟨cs,λy=>if y=x then x else a9 y,?_⟩
  rw[row_snoc hx,Qs]
  exact cert_new C hx (λy hy=>if_neg (λe:y=x=>hx (e▸hy))) (if_pos rfl)
 leaf:=λrs x p c ⟨cs,a9,C⟩ hx hp hc i5=>by
  have ka:p.1∈rs.map (·.1):=Qk.mpr ⟨p,hp,rfl⟩
  have dN:p.1≠x:=λe=>hx (e▸ka)
  have e0:(zbg (zbg (rs++[(x,[])]) p.1 (ins p.2 c x)) x [p.1]).map (·.1)=rs.map (·.1)++[x]:=by rw[zc7,zc7,Qs];rfl
  have pk:x∈(zbg (rs++[(x,[])]) p.1 (ins p.2 c x)).map (·.1):=by rw[zc7,Qs];exact Qp _ Qd
  have qg:p.1∈(rs++[(x,([]:List α))]).map (·.1):=by rw[Qs];exact Qr _ ka
  have r1:row (zbg (zbg (rs++[(x,[])]) p.1 (ins p.2 c x)) x [p.1]) x=[p.1]:=zcw pk
  have r2:row (zbg (zbg (rs++[(x,[])]) p.1 (ins p.2 c x)) x [p.1]) p.1=ins p.2 c x:=by rw[zch dN,zcw qg]
  have r3:∀y,y≠x→y≠p.1→row (zbg (zbg (rs++[(x,[])]) p.1 (ins p.2 c x)) x [p.1]) y=row rs y:=λy h1 h2=>by rw[zch h1,zch h2,row_snoc hx]
  have er:=zft C.nd hp
  have hl:∀y∈rs.map (·.1),(λy=>if y=x then a9 p.1 else a9 y) y=a9 y:=λy hy=>if_neg (λe:y=x=>hx (e▸hy))
  have bn:(λy=>if y=x then a9 p.1 else a9 y) x=a9 p.1:=if_pos rfl
  unfold Good
  rw[e0]
  cases c with
  |none =>
   have h0:=i5 rfl
   refine⟨_,_,cert_leaf0 C ka hx (er.trans h0) r1 ?_ r3 hl bn⟩
   rw[r2,h0];rfl
  |some y =>
   have hy:=hc y rfl
   obtain⟨aG,C'⟩:=cert_leaf C ka hx (c:=y) (by rw[er];exact hy) r1 (by rw[r2,er]) r3 hl bn
   exact⟨aG,_,C'⟩
 tie:=λrs c p n ⟨cs,a9,C⟩ hp hc h1 h2=>by
  have er:=zft C.nd hp
  obtain⟨c1,bX,br⟩:=Yf.mp ((C.cm (c,p.1)).mpr (by rw[er];exact hc))
  have cE:∀n,itr rs (c,p.1) n∈c1:=λn=>by
   induction n with
   |zero=>exact br
   |succ n ih=>exact cyc_next (C.cy c1 bX) ih
  have pS:=cE n
  generalize itr rs (c,p.1) n=q at h1 h2 pS
  have ka:p.1∈rs.map (·.1):=Qk.mpr ⟨p,hp,rfl⟩
  have lB:q.2∈rs.map (·.1):=C.inn (C.inc bX pS)
  unfold Good
  rw[zc7,zc7]
  obtain⟨aG,C'⟩:=cert_tie (r':=row (zbg (zbg rs p.1 (ins p.2 (some c) q.2)) q.2 (ins (row rs q.2) (some q.1) p.1))) C bX br (a:=q.1) (o:=q.2) pS h1 (by rw[er];exact h2)
   (by rw[zch (Zo h1),zcw ka,er]) (by rw[zcw (by rw[zc7];exact lB)]) (λy h3 h4=>by rw[zch h4,zch h3])
  exact⟨aG,a9,C'⟩
end
section
variable{α:Type}[DecidableEq α]{ns dG:List α}{r r':α→List α}{cs:List (List (α×α))}{a9:α→α}
def zie(zs:List α)(k:Nat):(zs.drop k++zs.take k).Perm zs:=by
 refine Yw.trans ?_
 rw[Zl]
def ze4(C:Cert ns r cs a9)(hn:dG.Perm ns)(hr:∀x,∃k,r' x=(r x).drop k++(r x).take k):Cert dG r' cs a9:=by
 have hp:∀x,(r' x).Perm (r x):=λx=>by obtain⟨k,e⟩:=hr x;rw[e];exact zie _ k
 have hm:∀{x y},y∈r' x↔y∈r x:=λ{x y}=>(hp x).mem_iff
 have aO:∀s:α×α,s.1∈r s.2→st r' s=st r s:=λs hs=>by
  obtain⟨k,e⟩:=hr s.2
  unfold st;rw[e,nxt_rot (C.rn _) k hs]
 have hw:∀t,wt dG r' a9 t=wt ns r a9 t:=λt=>by
  unfold wt
  rw[zij (hn.map _)]
  refine zdw λx _=>?_
  have h1:=(hp x).length_eq
  have h2:(r' x=[])=(r x=[]):=propext ⟨λe=>by rw[e]at h1;exact List.eq_nil_of_length_eq_zero h1.symm,λe=>by rw[e]at h1;exact List.eq_nil_of_length_eq_zero h1⟩
  simp only[h1,h2]
 refine⟨hn.nodup_iff.mpr C.nd,λx hx=>?_,λx=>(hp x).nodup_iff.mpr (C.rn x),λx h=>C.ir x (hm.mp h),λx y h=>hm.mpr (C.sy x y (hm.mp h)),C.cf,λs=>(C.cm s).trans hm.symm,λc hc=>?_,λx hx=>hn.mem_iff.mpr (C.ln x (hn.mem_iff.mp hx)),λx y h=>C.la x y (hm.mp h),λx hx y hy e=>?_,λx hx=>?_⟩
 ·have:=hp x
  rw[C.ro x (λz=>hx (hn.mem_iff.mpr z))]at this
  exact List.Perm.eq_nil this
 ·exact cyc_congr (λy hy=>aO y (C.inc hc hy)) (C.cy c hc)
 ·exact(C.co x (hn.mem_iff.mp hx) y (hn.mem_iff.mp hy) e).mono λ_ _ h=>hm.mpr h
 ·rw[hw];exact C.eu x (hn.mem_iff.mp hx)
end
end Wb
end
section
namespace K21
open PySem L2 Wb Tm PySem.W PyProof.Rows
def leP_antisymm{a b:Str×Str}(h1:leP a b)(h2:leP b a):a=b:=by
 have e:=Kr h1 h2
 unfold keyP at e
 injection e with e1 e2
 exact Ks (str_ext e1) (str_ext e2)
def zew(a b:Str×Str):leP a b∨leP b a:=by
 cases h:(pairO strO strO).blt (keyP b) (keyP a) with
 |false=>exact .inl h
 |true=>exact .inr (Yi h)
def leP_trans{a b c:Str×Str}(h1:leP a b)(h2:leP b c):leP a c:=Yl h1 h2
structure zei(r:Np)(L:No):Prop where
 cy:∃s t,L=s::t∧Lk (st r) s t s∧∀u∈L,leP s u
structure zbc(r:Np)(Ls:List (List (Str×Str))):Prop where
 fa:∀L∈Ls,zei r L
 nd:Ls.flatten.Nodup
 al:∀s,s∈Ls.flatten↔s.1∈r s.2
def lk_clo{β:Type}{f:β→β}{e:β}:∀{t:List β} {s:β},Lk f s t e→∀u,u=s∨u∈t→f u=e∨f u∈t:=by
 intro t
 induction t with
 |nil =>
  intro s h u hu
  rcases hu with rfl | hu
  ·exact .inl h
  ·cases hu
 | cons a t ih =>
  intro s h u hu
  rcases hu with rfl | hu
  ·exact .inr (by rw[h.1];exact Qd)
  ·rcases ih h.2 u (Qh.mp hu) with z | z
   ·exact .inl z
   ·exact .inr (Qg _ z)
def lk_all{β:Type}{f:β→β}{e:β}{P:β→Prop}(hP:∀u,P u→P (f u)):∀{t:List β} {s:β},Lk f s t e→P s→∀u∈t,P u:=by
 intro t
 induction t with
 |nil=>intro s h hs u hu;cases hu
 |cons a t ih =>
  intro s h hs u hu
  have ha:P a:=h.1▸hP s hs
  rcases Qh.mp hu with z | z
  ·rw[z];exact ha
  ·exact ih h.2 ha u z
def lk_eq{β:Type}{f:β→β}{e:β}:∀{t t':List β} {s:β},Lk f s t e→Lk f s t' e→e∉t→e∉t'→t=t':=by
 intro t
 induction t with
 |nil =>
  intro t' s h h' n n'
  cases t' with
  |nil=>rfl
  |cons x u=>exact absurd (by rw[show x=e from h'.1.symm.trans h];exact Qd) n'
 | cons a t ih =>
  intro t' s h h' n n'
  cases t' with
  |nil=>exact absurd (by rw[show a=e from h.1.symm.trans h'];exact Qd) n
  |cons x u =>
   have e1:a=x:=h.1.symm.trans h'.1
   subst e1
   rw[ih h.2 h'.2 (λz=>n (Qg _ z)) λz=>n' (Qg _ z)]
def zei.sub{r:Np}{L L':No}(a:zei r L)(b:zei r L'){s:Str×Str}(h:s∈L)(h':s∈L'):∀u∈L,u∈L':=by
 obtain⟨s0,t,rfl,k,_⟩:=a
 obtain⟨fZ,t',rfl,k',_⟩:=b
 obtain⟨A,B,e⟩:=Wf h
 have c:Cyc (st r) (A++s::B):=⟨s0,t,e.symm,k⟩
 have hl:=zc3 c
 have clo:∀u,u∈fZ::t'→st r u∈fZ::t':=λu hu=>by
  rcases lk_clo k' u (Qh.mp hu) with z | z
  ·rw[z];exact Qd
  ·exact Qg _ z
 have al:=lk_all (P:=λu=>u∈fZ::t') clo hl h'
 intro u hu
 rw[e]at hu
 rcases Qe.mp hu with z | z
 ·exact al u (Qp _ z)
 ·rcases Qh.mp z with y | y
  ·rw[y];exact h'
  ·exact al u (Qr _ y)
def zei.one{r:Np}{L L':No}(a:zei r L)(b:zei r L')(n:L.Nodup)(n':L'.Nodup){s:Str×Str}(h:s∈L)(h':s∈L'):L=L':=by
 have s1:=a.sub b h h'
 have s2:=b.sub a h' h
 obtain⟨s0,t,rfl,k,m⟩:=a
 obtain⟨fZ,t',rfl,k',m'⟩:=b
 have e:=leP_antisymm (m fZ (s2 _ Qd)) (m' s0 (s1 _ Qd))
 subst e
 rw[lk_eq k k' (Za.mp n).1 (Za.mp n').1]
def flat_nd{β:Type}:∀{Ls:List (List β)},Ls.flatten.Nodup→(∀L∈Ls,L≠[])→Ls.Nodup∧∀L∈Ls,L.Nodup:=by
 intro Ls
 induction Ls with
 |nil=>intro _ _;exact⟨Yb,λL h=>by cases h⟩
 | cons L t ih =>
  intro h n
  rw[Yj,Ze]at h
  obtain⟨h1,h2⟩:=ih h.2.1 λL' bo=>n L' (Qg _ bo)
  refine⟨Za.mpr ⟨λz=>?_,h1⟩,λL' bo=>?_⟩
  ·obtain ⟨x,hx⟩:=List.exists_mem_of_ne_nil L (n L Qd)
   exact h.2.2 x hx x (Yf.mpr ⟨L,z,hx⟩) rfl
  ·rcases Qh.mp bo with z | z
   ·rw[z];exact h.1
   ·exact h2 L' z
def zbc.row{r:Np}{Ls:List (List (Str×Str))}(a:zbc r Ls):Ls.Nodup∧∀L∈Ls,L.Nodup :=
 flat_nd a.nd λL hL=>by
  obtain⟨s,t,e,_⟩:=(a.fa L hL).cy
  rw[e];exact List.cons_ne_nil _ _
def zbc.sub{r:Np}{Ls cZ:List (List (Str×Str))}(a:zbc r Ls)(b:zbc r cZ):∀L∈Ls,L∈cZ:=λL hL=>by
 obtain⟨s,t,e,_⟩:=(a.fa L hL).cy
 have hs:s∈L:=by rw[e];exact Qd
 obtain⟨L',bo,bm⟩:=Yf.mp ((b.al s).mpr ((a.al s).mp (Yf.mpr ⟨L,hL,hs⟩)))
 rw[(a.fa L hL).one (b.fa L' bo) (a.row.2 L hL) (b.row.2 L' bo) hs bm]
 exact bo
def zbc.one{r:Np}{Ls cZ:List (List (Str×Str))}(a:zbc r Ls)(b:zbc r cZ):Ls.Perm cZ :=
 (Wv a.row.1 b.row.1).mpr λL=>⟨a.sub b L,b.sub a L⟩
def zbc.turn{r r':Np}{Ls:List (List (Str×Str))}(a:zbc r Ls)(hm:∀s:Str×Str,s.1∈r s.2↔s.1∈r' s.2)(hs:∀s:Str×Str,s.1∈r s.2→st r' s=st r s):zbc r' Ls:=by
 refine⟨λL hL=>?_,a.nd,λs=>(a.al s).trans (hm s)⟩
 obtain⟨s,t,e,k,m⟩:=(a.fa L hL).cy
 refine⟨s,t,e,ziq (λy hy=>hs y ((a.al y).mp (Yf.mpr ⟨L,hL,by rw[e];exact Qh.mpr hy⟩))) k,m⟩
def leL(a b:Ni):Prop:=(listO strO).kle (a.map λx=>x.cps.toList) (b.map λx=>x.cps.toList)
def leL_antisymm{a b:Ni}(h1:leL a b)(h2:leL b a):a=b:=by
 have e:=Kr h1 h2
 clear h1 h2
 induction a generalizing b with
 |nil=>cases b with
  |nil=>rfl
  |cons y u=>cases e
 | cons x t ih=>cases b with
  |nil=>cases e
  |cons y u =>
   rw[Qj,Qj]at e
   injection e with e1 e2
   rw[str_ext e1,ih e2]
def rows_one{xs ys:List (List Str)}(p:xs.Perm ys)(h1:xs.Pairwise leL)(h2:ys.Pairwise leL):xs=ys :=
 p.eq_of_pairwise (λa b _ _=>leL_antisymm) h1 h2
end K21
end
section
namespace K21
open PySem L2 Wb
abbrev sSteps:Stmt:=top 2
structure BAt(H:Hp)(b:Nc)(bs:List ((Str×Str)×Addr))(r:Np):Prop where
 dc:H b=some (.dT (bs.map λe=>(kP e.1,V.ref e.2)))
 tp:∀e∈bs,H e.2=some (.tup [.str (st r e.1).1,.str (st r e.1).2])
 nd:(bs.map (·.1)).Nodup
def BAt.keep{H H':Hp}{b:Nc}{bs:List ((Str×Str)×Addr)}{r:Np}{xs:Nk}(h:BAt H b bs r)(k:Keep xs H H')(hb:b∉xs)(ht:∀e∈bs,e.2∉xs):BAt H' b bs r :=
 ⟨k _ _ h.dc hb,λe he=>k _ _ (h.tp e he) (ht e he),h.nd⟩
def kP_inj{s u:Str×Str}(h:kP s=kP u):s=u:=by
 unfold kP at h
 injection h with h1 h2
 injection h2 with h2 _
 exact Ks (Kg h1) (Kg h2)
def valT_out{bs:List ((Str×Str)×Addr)}{s:Str×Str}(h:s∉bs.map (·.1)):valV (bs.map λe=>(kP e.1,V.ref e.2)) (kP s)=none:=by
 induction bs with
 |nil=>rfl
 |cons a t ih =>
  rw[Qj,Qh,not_or]at h
  rw[Qj,zbx]
  ·exact ih h.2
  ·intro q;exact h.1 (kP_inj q).symm
def valT_in{bs:List ((Str×Str)×Addr)}(nd:(bs.map (·.1)).Nodup){e:(Str×Str)×Addr}(h:e∈bs):valV (bs.map fun e=>(kP e.1,V.ref e.2)) (kP e.1)=some (.ref e.2):=by
 induction bs with
 |nil=>cases h
 | cons a t ih =>
  rw[Qj,Za]at nd
  rw[Qj]
  rcases Qh.mp h with z | z
  ·subst z;exact zdb rfl
  ·rw [zbx]
   ·exact ih nd.2 z
   ·intro q
    exact nd.1 (by rw[kP_inj q];exact Qk.mpr ⟨e,z,rfl⟩)
inductive IspSteps(vs:List V)(H:Hp)(Q:VK):Prop
 |mk (d:Nc) (es:List Ent) (h0:vs=[.ref d]) (h1:TAt H d es) (h2:es.length≤60) (h3:(∀e∈es,e.2.1.Nodup∧e.2.1.length≤100)) (h4:∀(b:Nc) (bs:List ((Str×Str)×Addr)) (H':Hp),BAt H' b bs (row (rsOf es))→(∀s,s∈bs.map (·.1)↔s.1∈row (rsOf es) s.2)→bs.length≤10000→H b=none→Keep [] H H'→Q (.ref b) H'):IspSteps vs H Q
def spSteps:Sp:=λvs H Q _=>IspSteps vs H Q
def pidx(n j:Nat):Nat:=if j=0 then n-1 else j-1
def atI_prev{zs:List V}{j:Nat}(hj:j<zs.length):atI zs ((j:Int)-1)=zs[pidx zs.length j]?:=by
 unfold pidx
 by_cases h:j=0
 ·subst h
  rw[if_pos rfl]
  unfold atI ixN
  have e1:¬(0:Int)≤((0:Nat):Int)-1:=by lia
  have e2:-(zs.length:Int)≤((0:Nat):Int)-1:=by lia
  rw[if_neg e1,if_pos e2]
  show zs[(((0:Nat):Int)-1+(zs.length:Int)).toNat]?=_
  congr 1;lia
 ·rw [if_neg h]
  have e:(j:Int)-1=((j-1:Nat):Int):=by lia
  rw[e,zav (Qc (by lia)),Qc (by lia)]
def idx_at{zs:Ni}(nd:zs.Nodup){i:Nat}(hi:i<zs.length):zs.idxOf zs[i]=i:=by
 have h1:zs.idxOf zs[i]<zs.length:=idx_lt (Qn hi)
 have h2:zs[zs.idxOf zs[i]]=zs[i]:=Xe h1
 exact(Wq nd).mp h2
def nxt_idx{zs:Ni}(nd:zs.Nodup){j:Nat}(hj:j<zs.length)(hp:pidx zs.length j<zs.length):nxt zs zs[pidx zs.length j]=zs[j]:=by
 unfold nxt
 rw[idx_at nd hp]
 have e:(pidx zs.length j+1)%zs.length=j:=by
  unfold pidx
  by_cases h:j=0
  ·rw [if_pos h,h]
   have:zs.length-1+1=zs.length:=by lia
   rw[this,Nat.mod_self]
  ·rw [if_neg h]
   have:j-1+1=j:=by lia
   rw[this,Nat.mod_eq_of_lt hj]
 rw[e,Qw,Qc hj];rfl
section
variable{P:Nj}{w:Nl}{K:Nb}{mg:Nf}{base:Nn}
def zfd:zas ["rounds", "behind", "place", "around", "at", "to"] ["rounds"] (zag sSteps):=fsk
def ok_steps{f:Nc}{fd:Nt}(F:Fun K "steps_behind" "steps_behind" sSteps f fd)(ma:mg "enumerate" = none):FnOk P w K mg base CX0 1 f fd ["rounds"] spSteps:=by
 refine F.okL zfd (λcdv A outer s H vs Q E hr h=>?_)
 obtain⟨d,es,rfl,T,aF,hok,k⟩:=h
 have hu:=zct hr
 have aP  := sizeLine_eq
 refine⟨_,zae (zaw 1 zfd.nd pe_dnewT)
  (zae (ps_thaw (zbm Zm rfl (pi_dict (pv 0)) (za8 2 zfd.nd)
   (zae (zaw 3 zfd.nd (zgn hu (pv 0) (pv 2)))
   (zah (zbm Zm rfl (pi_enum rfl ma (zaa (pv 3) zad)) (zhp rfl (zbb (za8 4 zfd.nd) (zbb (za8 5 zfd.nd) zdf)))
    (zah (zih hu (pv 1) (zdl (zaa (za7 zex (pv 3) (zat op_sub (pv 4) zai) (λ_ _=>rfl)) (zaa (pv 2) zad))) (zdl (zaa (pv 2) (zaa (pv 5) zad))) rfl)))))))
  (zah (zbh (pv 1)))),?_⟩
 refine λb hb=>?_
 have nfz:∀o' u',H d≠some (.frz o' u'):=λo' u' z=>by rw[T.dc]at z;cases z
 have nbd:d≠b:=zab T.dc hb
 have k1:Keep [] H (upd H b (.dT [])):=Keep.new hb
 have fT:BAt (upd H b (.dT [])) b [] (row (rsOf es)):=⟨zac,λe he=>(by cases he),Yb⟩
 have T1:TAt (upd H b (.dT [])) d es:=T.keep k1 (by simp) (λ_ _=>by simp)
 generalize upd H b (.dT [])=H1 at k1 fT T1
 have hbm:∀{H':Hp} {bs:List ((Str×Str)×Addr)},BAt H' b bs (row (rsOf es))→b≠d:=λ_=>Zo nbd
 refine⟨_,rfl,d,_,rfl,T1.dc,λo=>for_dict (λi σ H'=>Aj4 (Ex4 λx2 x3 x4 x5=>σ=[some (.ref d),some (.ref b),x2,x3,x4,x5]) (H' d=some (.frz o (.dK (es.map λe=>((Sum.inr e.1:Key),V.ref e.2.2))))) (Keep [d,b] H1 H') (Ex1 λbs=>Aj3 (BAt H' b bs (row (rsOf es))) (bs.length≤100*i) (∀s,s∈bs.map (·.1)↔s.2∈(es.take i).map (·.1)∧s.1∈row (rsOf es) s.2)))
  ⟨⟨_,_,_,_,rfl⟩,zac,Keep.wr (by simp),[],fT.keep (xs:=[d]) (Keep.wr (by simp)) (by simpa using Zo nbd) (λe he=>by cases he),Zn _,λs=>⟨λh=>(by cases h),λh=>(by cases h.1)⟩⟩
  (λi σ H' _ hh=>hh.2) ?_ ?_⟩
 ·rintro i pr σ H2 qe ⟨⟨x2,x3,x4,x5,rfl⟩,hz,k2,bs,dC,fE,dP⟩
  have hi:i<es.length:=by
   have:=(Zg.mp qe).1
   rwa[Qa]at this
  have g1:pr=((Sum.inr es[i].1:Key),V.ref es[i].2.2):=by
   rw[Qu,Qc hi]at qe
   exact(Qt qe).symm
  subst g1
  have dB:es[i]∈es:=Qn hi
  obtain⟨aZ,hln⟩:=hok _ dB
  have pV:row (rsOf es) es[i].1=es[i].2.1:=zb6 T.nd dB
  have em:=T1.ro _ dB
  have nrd:es[i].2.2≠d:=za3 em T1.dc (by intro z;cases z)
  have nrb:es[i].2.2≠b:=za3 em fT.dc (by intro z;cases z)
  have iN:=k2 _ _ em (by simp[nrd,nrb])
  refine⟨_,rfl,_,rfl,d,.ref es[i].2.2,rfl,.inl ⟨_,Sum.inr es[i].1,.inr ⟨o,hz⟩,rfl,(zhl T.nd dB).symm⟩,?_⟩
  have cr:es[i].1∉(es.take i).map (·.1):=by
   have h1:(es.map (·.1)).take (i+1)=(es.map (·.1)).take i++[es[i].1]:=by
    rw[Qo (by rw[Qa];exact hi),Zi]
   have h2:((es.map (·.1)).take (i+1)).Nodup:=Ur (Jp _ _) T.nd
   rw[h1,Ze,←Uw]at h2
   exact λz=>h2.2.2 _ z _ (Qb.mpr rfl) rfl
  refine⟨_,rfl,es[i].2.2,rfl,⟨_,SqT.of iN⟩,for_enum (xs:=es[i].2.1.map V.str) (λj σ H'=>Aj4 (Ex2 λx4 x5=>σ=[some (.ref d),some (.ref b),some (.str es[i].1),some (.ref es[i].2.2),x4,x5]) (H' d=some (.frz o (.dK (es.map λe=>((Sum.inr e.1:Key),V.ref e.2.2))))) (Keep [d,b] H1 H') (Ex1 λbs=>Aj3 (BAt H' b bs (row (rsOf es))) (bs.length≤100*i+j) (∀s,s∈bs.map (·.1)↔(s.2∈(es.take i).map (·.1)∧s.1∈row (rsOf es) s.2)∨∃(m:Nat) (hm:m<j) (hp:pidx es[i].2.1.length m<es[i].2.1.length),s=(es[i].2.1[pidx es[i].2.1.length m],es[i].1))))
   ⟨⟨_,_,rfl⟩,hz,k2,bs,dC,fE,fun s=>(dP s).trans ⟨.inl,fun h=>by
    rcases h with z | ⟨m,hm,_⟩
    ·exact z
    ·exact absurd hm (Nat.not_lt_zero m)⟩⟩ (λj σ H' _ hh=>hh.3 _ _ em (by simp[nrd,nrb])) ?_ ?_⟩
  ·rintro j y t σ H3 hy ⟨⟨y4,y5,rfl⟩,jQ,k3,kF,jy,mh,eS⟩ ht
   have hj:j<es[i].2.1.length:=by
    have:=(Zg.mp hy).1
    rwa[Qa]at this
   have fM:y=.str es[i].2.1[j]:=by
    rw[Qu,Qc hj]at hy
    exact(Qt hy).symm
   subst fM
   have qf:pidx es[i].2.1.length j<es[i].2.1.length:=by unfold pidx;split<;>lia
   have qa:=k3 _ _ em (by simp[nrd,nrb])
   have k4:Keep [] H3 (upd H3 t (.tup [.int j,.str es[i].2.1[j]])):=Keep.new ht
   refine⟨t,_,rfl,SqT.of zac,rfl,_,_,rfl,_,_,rfl,rfl,?_⟩
   generalize upd H3 t (.tup [.int j,.str es[i].2.1[j]])=H4 at k4
   refine⟨_,rfl,_,rfl,(by show 2≤sizeLine;decide),λv hv=>?_⟩
   have k5:Keep [] H4 (upd H4 v (.tup [.str es[i].1,.str es[i].2.1[j]])):=Keep.new hv
   have hv5:(upd H4 v (.tup [.str es[i].1,.str es[i].2.1[j]])) v=some (.tup [.str es[i].1,.str es[i].2.1[j]]):=zac
   generalize upd H4 v (.tup [.str es[i].1,.str es[i].2.1[j]])=H5 at k5 hv5
   have cj:Keep [] H3 H5:=k4.trans k5
   have q5:=cj _ _ qa (by simp)
   have da:atI (es[i].2.1.map V.str) ((j:Int)-1)=some (.str es[i].2.1[pidx es[i].2.1.length j]):=by
    rw[atI_prev (by rw[Qa];exact hj),Qa,Qu,Qc qf];rfl
   refine⟨_,rfl,_,rfl,_,rfl,_,_,rfl,rfl,es[i].2.2,_,_,_,rfl,rfl,SqT.of q5,da,_,rfl,(by show 2≤sizeLine;decide),λq hq=>?_⟩
   have k6:Keep [] H5 (upd H5 q (.tup [.str es[i].2.1[pidx es[i].2.1.length j],.str es[i].1])):=Keep.new hq
   have lD:(upd H5 q (.tup [.str es[i].2.1[pidx es[i].2.1.length j],.str es[i].1])) q=some (.tup ((kP (es[i].2.1[pidx es[i].2.1.length j],es[i].1)).map kV)):=zac
   generalize upd H5 q (.tup [.str es[i].2.1[pidx es[i].2.1.length j],.str es[i].1])=H6 at k6 lD
   have pd:Keep [] H3 H6:=cj.trans k6
   have oh:BAt H6 b kF (row (rsOf es)):=jy.keep pd (by simp) (λ_ _=>by simp)
   have hv6:=k6 _ _ hv5 (by simp)
   have hz6:=pd _ _ jQ (by simp)
   refine⟨b,_,rfl,DPut.t oh.dc lD (by rw[Qa];lia),?_⟩
   have fe:(es[i].2.1[pidx es[i].2.1.length j],es[i].1)∉kF.map (·.1):=λz=>by
    rcases(eS _).mp z with⟨z1,_⟩ | ⟨m,hm,hpm,e⟩
    ·exact cr z1
    ·have e1:=(Je e).1
     have e2:=(Wq aZ).mp e1
     unfold pidx at e2
     by_cases qQ:j=0
     ·lia
     ·rw [if_neg qQ] at e2
      by_cases eO:m=0
      ·rw[if_pos eO]at e2;lia
      ·rw[if_neg eO]at e2;lia
   have iR:putK (kF.map λe=>(kP e.1,V.ref e.2)) (kP (es[i].2.1[pidx es[i].2.1.length j],es[i].1)) (.ref v)=(kF++[((es[i].2.1[pidx es[i].2.1.length j],es[i].1),v)]).map λe=>(kP e.1,V.ref e.2):=by
    rw[zf7 _ (valT_out fe),Qs];rfl
   have aO:st (row (rsOf es)) (es[i].2.1[pidx es[i].2.1.length j],es[i].1)=(es[i].1,es[i].2.1[j]):=by
    show(es[i].1,nxt (row (rsOf es) es[i].1) es[i].2.1[pidx es[i].2.1.length j])=_
    rw[pV,nxt_idx aZ hj qf]
   refine⟨⟨_,_,rfl⟩,by rw[zaf nbd];exact hz6,(k3.trans (pd.sub (by simp))).trans (Keep.wr (by simp)),_,⟨by rw[zac,iR],λe he=>?_,?_⟩,?_,λs=>?_⟩
   ·rcases Qe.mp he with z | z
    ·have:=oh.tp e z
     rw[zaf (za3 this oh.dc (by intro z;cases z))];exact this
    ·rw[Qb.mp z,aO,zaf (za3 hv6 oh.dc (by intro z;cases z))];exact hv6
   ·rw [Qs,Ze]
    refine⟨jy.nd,Za.mpr ⟨by simp,Yb⟩,λx hx y hy e=>?_⟩
    have d0:y=(es[i].2.1[pidx es[i].2.1.length j],es[i].1):=by simpa using hy
    exact fe (by rw[←d0,←e];exact hx)
   ·rw[Ql];show _+1≤_;exact zar4 ‹_›
   ·rw [Qs,Qe,eS]
    constructor
    ·rintro ((z | ⟨m,hm,hp,e⟩) | z)
     ·exact .inl z
     ·exact .inr ⟨m,by exact zh2 ‹_›,hp,e⟩
     ·exact .inr ⟨j,by exact Qf _,qf,by simpa using z⟩
    ·rintro (z | ⟨m,hm,hp,e⟩)
     ·exact .inl (.inl z)
     ·by_cases hmj:m < j
      ·exact .inl (.inr ⟨m,hmj,hp,e⟩)
      ·have:m=j:=by lia
       subst this
       exact .inr (by rw[e];exact Qd)
  ·rintro σ H3 ⟨⟨y4,y5,rfl⟩,jQ,k3,kF,jy,mh,eS⟩
   rw[Qa]at eS mh
   refine⟨⟨_,_,_,_,rfl⟩,jQ,k3,kF,jy,by lia,λs=>(eS s).trans ?_⟩
   have bq:(es.take (i+1)).map (·.1)=(es.take i).map (·.1)++[es[i].1]:=by rw[Qo hi,Qs];rfl
   rw[bq,Qe,Qb]
   constructor
   ·rintro (⟨z1,z2⟩ | ⟨m,hm,hp,e⟩)
    ·exact⟨.inl z1,z2⟩
    ·rw[e];exact⟨.inr rfl,by rw[pV];exact Qn hp⟩
   ·rintro ⟨z1 | z1,z2⟩
    ·exact .inl ⟨z1,z2⟩
    ·refine .inr ?_
     rw[z1,pV]at z2
     obtain⟨q,hq,e⟩:=Qx z2
     by_cases cv:q+1<es[i].2.1.length
     ·have qi:pidx es[i].2.1.length (q+1) < es[i].2.1.length:=by unfold pidx;rw [if_neg (by lia)];assumption
      refine⟨q+1,cv,qi,Ks ?_ z1⟩
      show s.1=es[i].2.1[pidx es[i].2.1.length (q+1)]
      rw[←e];congr 1
     ·have qi:pidx es[i].2.1.length 0 < es[i].2.1.length:=by unfold pidx;rw [if_pos rfl];lia
      refine⟨0,by lia,qi,Ks ?_ z1⟩
      show s.1=es[i].2.1[pidx es[i].2.1.length 0]
      rw[←e];congr 1
      unfold pidx;rw[if_pos rfl];lia
 ·rintro σ H2 ⟨⟨x2,x3,x4,x5,rfl⟩,hz,k2,bs,dC,fE,dP⟩
  rw[Qa]at dP fE
  rw[Qv (Qf _)]at dP
  refine⟨d,o,_,hz,nfz,?_⟩
  have kf:Keep [] H (upd H2 d (.dK (es.map λe=>((Sum.inr e.1:Key),V.ref e.2.2)))):=λc u ec _=>by
   have nc:c≠b:=zab ec hb
   by_cases aY:c=d
   ·subst aY
    rw[zac,←T.dc];exact ec
   ·rw [zaf aY]
    exact k2 c u (k1 c u ec (by simp)) (by simp[aY,nc])
  refine⟨_,rfl,k b bs _ (dC.keep (xs:=[d]) (Keep.wr (by simp)) (by simpa using Zo nbd) (λe he=>by simpa using za3 (dC.tp e he) hz (by intro z;cases z))) (λs=>?_) (by lia) hb kf⟩
  rw[dP]
  constructor
  ·exact λh=>h.2
  ·intro h
   refine⟨?_,h⟩
   obtain⟨p,hp,e,_⟩:=(zdh (rs:=rsOf es) (by unfold rsOf;rw[List.map_map];exact T.nd)).mpr h
   obtain⟨en,bz,rfl⟩:=Qk.mp hp
   exact Qk.mpr ⟨en,bz,e⟩
end
abbrev zeo:Stmt:=top 3
def zd6(H:Hp)(a:Nc)(h:Str):Prop:=∃t:List Str,H a=some (.lst ((h::t).map V.str))
def zcp(es:List Ent):List Str:=(es.filter λe=>e.2.1.isEmpty).map (·.1)
def za5(H:Hp)(a:Nc)(zs:Ni):Prop:=H a=some (.lst (zs.map V.str))
abbrev sing(x:Str):List Str:=[x]
abbrev nmL(L:No):List Str:=L.map (·.1)
inductive IspFaces(vs:List V)(H:Hp)(Q:VK):Prop
 |mk (d:Nc) (es:List Ent) (cs:List (List (Str×Str))) (a9:Nr) (h0:vs=[.ref d]) (h1:TAt H d es) (h2:es.length≤60) (h3:(∀e∈es,e.2.1.length≤100)) (h4:Cert (es.map (·.1)) (row (rsOf es)) cs a9) (h5:∀(l:Nc) (as:Nk) (hd hc:Ni) (aG:List (List (Str×Str))) (H':Hp),H' l=some (.lst (as.map V.ref))→as.length≤20000→Paired (zd6 H') as hd→hd.Perm (zcp es++hc)→aG.Perm cs→Paired (λh c=>∃s∈c,s.1=h) hc aG→Keep [] H H'→Q (.ref l) H'):IspFaces vs H Q
def spFaces:Sp:=λvs H Q _=>IspFaces vs H Q
inductive IspFacesO(vs:List V)(H:Hp)(Q:VK):Prop
 |mk (d:Nc) (es:List Ent) (cs:List (List (Str×Str))) (a9:Nr) (h0:vs=[.ref d]) (h1:TAt H d es) (h2:es.length≤60) (h3:(∀e∈es,e.2.1.length≤100)) (h4:Cert (es.map (·.1)) (row (rsOf es)) cs a9) (h5:∀(l:Nc) (as:Nk) (zss:List (List Str)) (Ls aG:List (List (Str×Str))) (H':Hp),H' l=some (.lst (as.map V.ref))→as.length≤20000→Paired (za5 H') as zss→zss.Perm ((zcp es).map sing++Ls.map nmL)→zss.Pairwise leL→zbc (row (rsOf es)) Ls→aG.Perm cs→Paired List.Perm Ls aG→H l=none→(∀a∈as,H a=none)→Keep [] H H'→Q (.ref l) H'):IspFacesO vs H Q
def zh6:Sp:=λvs H Q _=>IspFacesO vs H Q
def pt_truthK{X:Cx}{K:Nb}{a:Expr}{ta:TE}(hK:X.K=K)(ha:PE X a ta)(he:∀whole,isTrue a X.env whole=(do let v ←whole;standAt a.pos;holding [v] (truthy v))) :
  PT X a (λ σ H Q=>ta σ H λx H'=>RTr K x H' Q):=hK▸zf8 ha he
abbrev zfo:Scope:=scOf (eOf (sAt zeo 1))
def csFaces_k:zfo.kind=.function:=by rfl
def csFaces_c:∀y∈zfo.names,y.2≠.cell:=by decide +kernel
def csFaces_n:∀y∈zfo.names,y.2=.local→zfo.names.lookup y.1=some .local:=by decide +kernel
def csFaces_f:∀y∈zfo.names,y.2=.free→(zag zeo).names.lookup y.1=some .cell∨(zag zeo).names.lookup y.1=some .free:=by decide +kernel
def csFaces_l:zfo.names.lookup ("rounds" : Str)=some NameKind.free:=by decide +kernel
def ndF:(["place", "rounds"]:List Str).Nodup:=by decide +kernel
def valG_out{gs:No}{s:Str×Str}(h:s∉gs):valV (gs.map λs=>(kP s,V.bl true)) (kP s)=none:=by
 induction gs with
 |nil=>rfl
 |cons a t ih =>
  rw[Qh,not_or]at h
  rw[Qj,zbx]
  ·exact ih h.2
  ·intro q;exact h.1 (kP_inj q).symm
def valG_in{gs:No}{s:Str×Str}(h:s∈gs):valV (gs.map λs=>(kP s,V.bl true)) (kP s)=some (.bl true):=by
 induction gs with
 |nil=>cases h
 | cons a t ih =>
  rw[Qj]
  by_cases e:a=s
  ·exact zdb (by rw[e])
  ·rw [zbx (fun q=>e (kP_inj q))]
   rcases Qh.mp h with z | z
   ·exact absurd z.symm e
   ·exact ih z
def lk_get{β:Type}{f:β→β}{e:β}:∀{t:List β} {s:β},Lk f s t e→∀k,k<(s::t).length→f ((s::t).getD k e)=(s::t).getD (k+1) e:=by
 intro t
 induction t with
 |nil =>
  intro s h k hk
  have:k=0:=by simp at hk;exact hk
  subst this;exact h
 | cons a t ih =>
  intro s h k hk
  cases k with
  |zero=>exact h.1
  |succ n =>
   have:=ih h.2 n (by simpa using hk)
   simpa using this
def zfl{H H':Hp}{D g:Nc}{fa:Nk}{hd:Ni}{xs:Nk}(k:Keep xs H H')(h:Paired (zd6 H) fa hd)(hx:∀a (h:Str) (t:Ni),H a=some (.lst ((h::t).map V.str))→a∉xs):Paired (zd6 H') fa hd :=
 Paired.imp' (λa h ⟨t,e⟩=>⟨t,k _ _ e (hx a h t e)⟩) h
theorem Paired.impM{α β:Type}{R S:α→β→Prop}:∀{as:List α} {bs:List β},(∀a b,b∈bs→R a b→S a b)→Paired R as bs→Paired S as bs
 |_,_,_,.nil=>.nil
 |_,_,h,.cons r t=>.cons (h _ _ Qd r) (Paired.impM (λa b hb=>h a b (Qg _ hb)) t)
def za0{H H':Hp}{fa:Nk}{zs:List (List Str)}(k:Keep [] H H')(h:Paired (za5 H) fa zs):Paired (za5 H') fa zs:=Paired.imp' (λa z e=>k _ _ e (by simp)) h
def least_at{ws:No}(h:ws.Pairwise leP){i:Nat}(hi:i<ws.length){u:Str×Str}(hu:u∈ws)(hn:u∉ws.take i):leP ws[i] u:=by
 rw[←Zl i ws]at hu
 rcases Qe.mp hu with z | z
 ·exact absurd z hn
 ·rw [Yc hi] at z
  rcases Qh.mp z with y | y
  ·rw[y];exact(zew _ _).elim id id
  ·have h2:=h.sublist (Xl i ws)
   rw[Yc hi,Uc]at h2
   exact h2.1 u y
def zao{α β:Type}{R:α→β→Prop}:∀{as bZ:List α} {bs fV:List β},Paired R as bs→Paired R bZ fV→Paired R (as++bZ) (bs++fV):=by
 intro as bZ bs fV r r'
 induction r with
 |nil=>exact r'
 |cons h t ih=>exact .cons h ih
section
variable{P:Nj}{w:Nl}{K:Nb}{mg:Nf}{base:Nn}
def zdq:zas ["rounds", "behind", "found", "gone", "first", "face", "step"] ["rounds"] (zag zeo):=fsk
def ok_facesO{f fs:Nc}{fd fds:Nt}(F:Fun K "faces_of" "faces_of" zeo f fd)(FS:Fun K "steps_behind" "steps_behind" sSteps fs fds)(bS:Binds K fds ["rounds"] [])(mS:mg "steps_behind" = some (.ref fs))(GS:FnOk P w K mg base CX0 1 fs fds ["rounds"] spSteps)(aD:mg "sorted" = none):FnOk P w K mg base CX0 2 f fd ["rounds"] zh6:=by
 refine F.okL zdq (λcdv A outer s H vs Q E hr h=>?_)
 obtain⟨d,es,cs,a9,rfl,T,aF,bi,C,k⟩:=h
 have hu:=zct hr
 have pE:(A.deeper (PyProof.Rows.envOfC "faces_of" (zag zeo) s.heap.objs.size f cdv)).units+8<cLine:=We (Xa (by decide:8≤64) _) hr.units
 have aP  := sizeLine_eq
 refine⟨_,zae (zaw 1 zdq.nd (zam GS hr rfl mS FS.kp bS .nil za2 (zaa (pv 0) zad)))
  (zae (ps_thaw (ps_lc (i:=2) (M:=["place", "rounds"]) (ix:=[none,some 0]) zdq.nd rfl rfl ⟨csFaces_k,csFaces_c,csFaces_n,csFaces_f,rfl,by decide +kernel,λj i x h1 h2=>by
     match j,h1,h2 with
     |0,_,h2=>cases h2
     |1,h1,h2=>cases h1;cases h2;exact⟨rfl,csFaces_l⟩
     |n+2,h1,_=>cases h1⟩ rfl (pi_dict (pv 0)) (λC a6 ex s H=>za8 0 ndF)
    (λC a6 ex s H=>zig (zfu (pt_truthK (K:=K) rfl (zgn (by exact hu) (pv 1) (pv 0)) (by intro _;rfl)))) (λC a6 ex s H=>zbi (zaa (pv 0) zad)) rfl))
  (zae (zaw 3 zdq.nd pe_dnewT)
  (zae (zbm Zm rfl (zax (zaj (zhd rfl) (by rfl) aD Yu (zaa (pv 1) zad))) (za8 4 zdq.nd)
   (zae (zaw 5 zdq.nd (zbi zad))
   (zae (zaw 6 zdq.nd (pv 4))
   (zae (zdy Zm (pt_cmp (zgo hu (pv 6) (pv 3)))
    (zae (zih hu (pv 3) (pv 6) pe_bl rfl)
    (zae (zay (zb7 Qy Zq Zp za1 (pv 5) (zaa (za7 zex (pv 6) zai (λ_ _=>rfl)) zad)))
    (zah (zaw 6 zdq.nd (zgn hu (pv 1) (pv 6)))))))
   (zah (zc2 (zf8 (pv 5) (by intro _;rfl)) (zah (zay (zb7 Qy Zq Zp za1 (pv 2) (zaa (pv 5) zad)))) zbk))))))
  (zah (zbh (zaj (zcz pE) (by rfl) aD Yu (zaa (pv 2) zad))))))),?_⟩
 have ai:∀e∈es,row (rsOf es) e.1=e.2.1:=λe he=>zb6 T.nd he
 refine⟨_,rfl,d,es,rfl,T,aF,λe he=>⟨ai e he▸C.rn e.1,bi e he⟩,λb bs H1 fT dP fE hbfr k1=>?_⟩
 have T1:TAt H1 d es:=T.keep k1 (by simp) (λ_ _=>by simp)
 have nfz:∀o' u',H d≠some (.frz o' u'):=λo' u' z=>by rw[T.dc]at z;cases z
 refine⟨_,rfl,d,_,rfl,T1.dc,λo=>⟨λi m ys τ H2=>Aj6 (m=es.length-i) (i≤es.length) (Ex1 λx0=>τ=[x0,some (.ref d)]) (H2 d=some (.frz o (.dK (es.map λe=>((Sum.inr e.1:Key),V.ref e.2.2))))) (Keep [d] H1 H2) (Ex1 λ(as:Nk)=>Aj4 (ys=as.map V.ref) (as.length≤i) (∀a∈as,H a=none) (Paired (za5 H2) as ((zcp (es.take i)).map sing))),
  ⟨es.length,rfl,Zn _,⟨none,rfl⟩,zac,Keep.wr Qd,[],rfl,Zn _,(λa ha=>by cases ha),.nil⟩,?_⟩⟩
 rintro i m ys τ H2 ⟨rfl,hi,⟨x0,rfl⟩,hz,k2,fa,rfl,gA,fg,bv⟩
 have k02:∀{q:Nc},H2 q=none→H q=none:=λ{q} hq=>by
  refine zaq k1 (zaq k2 hq ?_) (by simp)
  intro z
  rw[Qb.mp z,hz]at hq;cases hq
 by_cases ad:i<es.length
 ·refine .inr ⟨⟨hz,by rw [Qa];exact ad⟩,by rw [Qa];lia,?_⟩
  rintro y H' ⟨rfl,pr,e1,rfl⟩
  have g1:pr=((Sum.inr es[i].1:Key),V.ref es[i].2.2):=by
   rw[Qu,Qc ad]at e1
   exact(Qt e1).symm
  subst g1
  have dB:es[i]∈es:=Qn ad
  have ly:=T1.ro _ dB
  have nri:es[i].2.2≠d:=za3 ly T1.dc (by intro z;cases z)
  have iN:=k2 _ _ ly (by simpa using nri)
  have bq:es.take (i+1)=es.take i++[es[i]]:=Qo ad
  refine⟨_,rfl,_,rfl,d,.ref es[i].2.2,rfl,.inl ⟨_,Sum.inr es[i].1,.inr ⟨o,hz⟩,rfl,(zhl T.nd dB).symm⟩,_,.inr (.inl ⟨_,SqT.of iN,rfl⟩),?_⟩
  have gB:(es[i].2.1.map V.str).isEmpty=es[i].2.1.isEmpty:=by cases es[i].2.1<;>rfl
  cases hb:es[i].2.1.isEmpty with
  | false =>
   refine zbs (by rw[gB,hb];rfl) ⟨_,?_,rfl,ad,⟨_,rfl⟩,hz,k2,fa,rfl,by exact zh2 ‹_›,fg,?_⟩
   ·exact zar1 ‹_›
   ·unfold zcp
    rw[bq,Uq,Yy (by rw[hb];decide),Ka,Zy];exact bv
  | true =>
   refine zb2 (by rw[gB,hb];rfl) ⟨_,rfl,(by show 1≤sizeLine;decide),λq hq=>⟨_,?_,rfl,ad,⟨_,rfl⟩,?_,k2.trans (Keep.new hq),fa++[q],?_,?_,?_,?_⟩⟩
   ·exact zar1 ‹_›
   ·rw[zaf (zab hz hq)];exact hz
   ·rw[Qs];rfl
   ·rw[Ql];show _+1≤_;exact zar4 ‹_›
   ·intro a ha
    rcases Qe.mp ha with z | z
    ·exact fg a z
    ·rw[Qb.mp z];exact k02 hq
   ·unfold zcp
    rw[bq,Uq,Yx (by rw[hb]),Ka,Qs,Qs]
    exact zao (za0 (Keep.new hq) bv) (.cons zac .nil)
 ·have lR:i=es.length:=by exact zar3 ‹_› ‹_›
  subst lR
  rw[Qv (Qf _)]at bv
  refine .inl ⟨⟨hz,by rw[Qa];exact Qf _⟩,λD hD=>?_⟩
  have ndD:d≠D:=zab hz hD
  refine⟨d,o,_,(by rw[zaf ndD];exact hz),nfz,?_⟩
  have k3:Keep [] H1 (upd (upd H2 D (.lst (fa.map V.ref))) d (.dK (es.map λe=>((Sum.inr e.1:Key),V.ref e.2.2)))):=λc u ec _=>by
   by_cases aY:c=d
   ·subst aY
    rw[zac,←T1.dc];exact ec
   ·have ec1:=k2 c u ec (by simpa using aY)
    rw[zaf aY,zaf (zab ec1 hD)];exact ec1
  have gH:(upd (upd H2 D (.lst (fa.map V.ref))) d (.dK (es.map λe=>((Sum.inr e.1:Key),V.ref e.2.2)))) D=some (.lst (fa.map V.ref)):=by rw[zaf (Zo ndD)];exact zac
  have cO:Paired (za5 (upd (upd H2 D (.lst (fa.map V.ref))) d (.dK (es.map λe=>((Sum.inr e.1:Key),V.ref e.2.2))))) fa ((zcp es).map sing):=Paired.imp' (λa h e=>by
   show upd _ _ _ a=_
   rw[zaf (za3 e hz (by intro z;cases z)),zaf (zab e hD)];exact e) bv
  generalize upd (upd H2 D (.lst (fa.map V.ref))) d (.dK (es.map λe=>((Sum.inr e.1:Key),V.ref e.2.2)))=H3 at k3 gH cO
  have jy:BAt H3 b bs (row (rsOf es)):=fT.keep k3 (by simp) (λ_ _=>by simp)
  refine λg hg=>?_
  have k4:Keep [] H3 (upd H3 g (.dT [])):=Keep.new hg
  have hg4:(upd H3 g (.dT [])) g=some (.dT []):=zac
  generalize upd H3 g (.dT [])=H4 at k4 hg4
  have hb4:BAt H4 b bs (row (rsOf es)):=jy.keep k4 (by simp) (λ_ _=>by simp)
  refine⟨_,rfl,b,_,bs.map (·.1),rfl,hb4.dc,(by rw[Zk,Zk];rfl),λl as ws hl ae pa aj=>?_⟩
  have k5:Keep [] H4 (upd H4 l (.lst (as.map V.ref))):=Keep.new hl
  have cH:(upd H4 l (.lst (as.map V.ref))) l=some (.lst (as.map V.ref)):=zac
  have dR:zbf (upd H4 l (.lst (as.map V.ref))) as ws:=zbf.keep pa λc x y ec=>k5 _ _ ec (by simp)
  have nDl:D≠l:=zab (k4 _ _ gH (by simp)) hl
  generalize upd H4 l (.lst (as.map V.ref))=H5 at k5 cH dR
  have cj:Keep [] H3 H5:=k4.trans k5
  have mz:=cj _ _ gH (by simp)
  have lU:=k5 _ _ hg4 (by simp)
  have rS:BAt H5 b bs (row (rsOf es)):=hb4.keep k5 (by simp) (λ_ _=>by simp)
  have cq:Paired (za5 H5) fa ((zcp es).map sing):=za0 cj cO
  have iu:Keep [] H H5:=(k1.trans k3).trans cj
  have nlg:l≠g:=za3 cH lU (by intro z;cases z)
  have nDg:D≠g:=za3 mz lU (by intro z;cases z)
  have nbg:b≠g:=zab jy.dc hg
  have nbD:b≠D:=za3 rS.dc mz (by intro z;cases z)
  have bY:as.length=ws.length:=Zx dR
  have dk:ws.length≤10000:=by rw[ae.length_eq,Qa];exact fE
  have notDg:∀{H':Hp} {oq:Nk} {gs:No},H' D=some (.lst (oq.map V.ref))→H' g=some (.dT (gs.map λs=>(kP s,V.bl true)))→∀a (h:Str) (t:Ni),za5 H' a (h::t)→a≠D∧a≠g:=λ{H' oq gs} e1 e2 a h t e =>
   ⟨za3 e e1 (by
    intro z
    have z':(h::t).map V.str=oq.map V.ref:=by injection z
    cases oq with
    |nil=>cases z'
    |cons x u=>rw[Qj,Qj]at z';injection z' with z1 _;cases z1),za3 e e2 (by intro z;cases z)⟩
  refine⟨l,rfl,⟨_,SqL.of cH⟩,zbq (xs:=as.map V.ref) (λi σ H'=>Aj3 (Ex3 λx4 x5 x6=>σ=[some (.ref d),some (.ref b),some (.ref D),some (.ref g),x4,x5,x6]) (Keep [D,g] H5 H') (Ex5 λ(gs:No) (dn rem:List (List (Str×Str))) (fa:Nk) (Ls:List (List (Str×Str)))=>Aj9 (H' g=some (.dT (gs.map λs=>(kP s,V.bl true)))) gs.Nodup (∀s,s∈gs↔s∈dn.flatten) (cs.Perm (dn++rem)) (∀s∈ws.take i,s∈gs) (H' D=some (.lst (fa.map V.ref))) (Paired (za5 H') fa ((zcp es).map sing++Ls.map nmL)) (Aj2 (Paired List.Perm Ls dn) (∀L∈Ls,zei (row (rsOf es)) L)) (Aj2 (∀a∈fa,H a=none) (fa.length≤100+i))))
   ⟨⟨_,_,_,rfl⟩,Keep.refl,[],[],cs,fa,[],lU,Yb,λs=>Iff.rfl,List.Perm.refl _,λs hs=>(by cases hs),mz,by rw[Xd,Zy];exact cq,⟨.nil,λL hL=>by cases hL⟩,fg,by omega⟩
   (λi σ H' _ hh=>SqL.of (hh.2 _ _ cH (by simp[Zo nDl,nlg]))) ?_ ?_⟩
  ·rintro i y σ H6 hx ⟨⟨x4,x5,x6,rfl⟩,k6,gs,dn,rem,mK,fC,o7,qW,hU,cT,jS,my,eG,⟨aY,kC⟩,gy,l'⟩
   have hi:i<as.length:=by
    have:=(Zg.mp hx).1
    rwa[Qa]at this
   have iD:y=.ref as[i]:=by
    rw[Qu,Qc hi]at hx
    exact(Qt hx).symm
   subst iD
   obtain⟨aE,jD⟩:=zap dR hi
   have nag:as[i]≠g:=za3 jD lU (by intro z;cases z)
   have naD:as[i]≠D:=za3 jD mz (by intro z;cases z)
   have ms:=k6 _ _ jD (by simp[nag,naD])
   have hws:ws[i]∈ws:=Qn aE
   have hsi:ws[i].1∈row (rsOf es) ws[i].2:=(dP _).mp (ae.mem_iff.mp hws)
   have hwt:∀{ay:No},(∀s∈gs,s∈ay)→ws[i]∈ay→∀s∈ws.take (i+1),s∈ay:=λ{ay} h1 h2 s hs=>by
    rw[Qo aE]at hs
    rcases Qe.mp hs with z | z
    ·exact h1 s (jS s z)
    ·rw[Qb.mp z];exact h2
   refine⟨(by show 0≤sizeLine;decide),λfl dA=>?_⟩
   have k7:Keep [] H6 (upd H6 fl (.lst [])):=Keep.new dA
   have bV:(upd H6 fl (.lst [])) fl=some (.lst []):=zac
   have nfD:fl≠D:=Zo (zab my dA)
   have nfg:fl≠g:=Zo (zab o7 dA)
   have nafl:as[i]≠fl:=zab ms dA
   generalize upd H6 fl (.lst [])=H7 at k7 bV
   have lT:=k7 _ _ o7 (by simp)
   have kE:=k7 _ _ my (by simp)
   have mq:=k7 _ _ ms (by simp)
   have jO:Keep [D,g] H5 H7:=k6.trans (k7.sub (by simp))
   have rR:BAt H7 b bs (row (rsOf es)):=rS.keep jO (by simp[nbD,nbg]) λe he=>by
    have h1:=rS.tp e he
    simp[za3 h1 mz (by intro z;cases z),za3 h1 lU (by intro z;cases z)]
   have nbfl:b≠fl:=za3 rR.dc bV (by intro z;cases z)
   have lE:Paired (za5 H7) mK ((zcp es).map sing++fC.map nmL):=za0 k7 eG
   refine⟨_,rfl,?_⟩
   by_cases au:ws[i]∈gs
   ·-- it is gone already
    refine⟨λm σ H'=>Aj2 (σ=[some (.ref d),some (.ref b),some (.ref D),some (.ref g),some (.ref as[i]),some (.ref fl),some (.ref as[i])]) (H'=H7),⟨0,rfl,rfl⟩,?_⟩
    rintro m σ H' ⟨rfl,rfl⟩
    have dg:=DGet.t (k:=kP ws[i]) lT mq
    rw[valG_in au]at dg
    refine⟨_,rfl,_,rfl,g,_,rfl,dg,_,rfl,zbs rfl ?_⟩
    refine⟨_,rfl,_,.inl ⟨_,SqL.of bV,rfl⟩,zbs rfl ?_⟩
    exact⟨⟨_,_,_,rfl⟩,jO,gs,dn,rem,mK,fC,lT,qW,hU,cT,hwt (λ_ h=>h) au,kE,lE,⟨aY,kC⟩,gy,by exact zh2 ‹_›⟩
   ·-- a new cycle
    obtain⟨c,cV,nN⟩:=Yf.mp ((C.cm ws[i]).mpr hsi)
    obtain⟨A1,B1,dD⟩:=Wf nN
    have gp:=zc3 (dD▸C.cy c cV)
    generalize hL:ws[i]::(B1++A1)=L
    have cK:L.Perm c:=by
     rw[←hL,dD]
     refine Uy.mpr λa=>?_
     simp only[Jq,Kb];lia
    have bU:=(Km cT).nodup_iff.mp C.cf
    rw[Wj,Ze]at bU
    have hW:c∈rem:=by
     rcases Qe.mp (cT.mem_iff.mp cV) with z | z
     ·exact absurd ((hU _).mpr (Yf.mpr ⟨c,z,nN⟩)) au
     ·exact z
    have sd:∀s∈L,s∉gs:=λs hs hg=>by
     exact absurd rfl (bU.2.2 s ((hU s).mp hg) s (Yf.mpr ⟨c,hW,cK.mem_iff.mp hs⟩))
    have mw:L.Nodup:=by
     rw[cK.nodup_iff]
     have:=(zcj cV).nodup_iff.mp C.cf
     rw[Ze]at this
     exact this.1
    have jE:∀s∈L,s.1∈row (rsOf es) s.2:=λs hs=>C.inc cV (cK.mem_iff.mp hs)
    have hLpos:0<L.length:=by rw[←hL];simp
    have be:gs++L |>.Nodup:=Ze.mpr ⟨qW,mw,λa ha b' oi e=>sd b' oi (e▸ha)⟩
    have hsz:(gs++L).length≤10000:=by
     refine Zj (zgx be (m:=bs.map (·.1)) λs hs=>?_) (by rw[Qa];exact fE)
     rcases Qe.mp hs with z | z
     ·obtain ⟨c',bE,bm⟩:=Yf.mp ((hU s).mp z)
      exact(dP s).mpr (C.inc (cT.mem_iff.mpr (Qr _ bE)) bm)
     ·exact(dP s).mpr (jE s z)
    rw[Ql]at hsz
    have gw:∀k (hk:k<L.length),st (row (rsOf es)) L[k]=L.getD (k+1) ws[i]:=λk hk=>by
     have:=lk_get gp k (by rw[hL];exact hk)
     rw[hL,Qw,Qc hk]at this
     exact this
    refine⟨λm σ H'=>Ex2 λ(k:Nat) (t:Nc)=>Aj7 (m=L.length-k) (k≤L.length) (σ=[some (.ref d),some (.ref b),some (.ref D),some (.ref g),some (.ref as[i]),some (.ref fl),some (.ref t)]) (Keep [g,fl] H7 H') (H' g=some (.dT ((gs++L.take k).map λs=>(kP s,V.bl true)))) (H' fl=some (.lst (((L.take k).map (·.1)).map V.str))) (H' t=some (.tup [.str (L.getD k ws[i]).1,.str (L.getD k ws[i]).2])),
     ⟨_,0,as[i],rfl,Zn _,rfl,Keep.refl,by rw[List.take_zero,Zy];exact lT,bV,by rw[←hL];exact mq⟩,?_⟩
    rintro m σ H8 ⟨k8,t,rfl,hk8,rfl,nr,lS,fk,jW⟩
    have dg:=DGet.t (k:=kP (L.getD k8 ws[i])) lS jW
    by_cases dy:k8<L.length
    ·have fB:L.getD k8 ws[i]=L[k8]:=by rw [Qw,Qc dy];rfl
     have bq:L.take (k8+1)=L.take k8++[L[k8]]:=Qo dy
     have cr:L[k8]∉gs++L.take k8:=λz=>by
      rcases Qe.mp z with q | q
      ·exact sd _ (Qn dy) q
      ·have:=Ur (Jp (k8+1) L) mw
       rw[bq,Ze]at this
       exact this.2.2 _ q _ (Qb.mpr rfl) rfl
     rw[fB]at jW dg
     rw[valG_out cr]at dg
     refine⟨_,rfl,_,rfl,g,_,rfl,dg,_,rfl,zb2 rfl ?_⟩
     refine⟨_,λ σ' H' z=>z,?_⟩
     have lK:((gs++L.take k8).map λs=>(kP s,V.bl true)).length<sizeLine:=by
      rw[Qa,Ql,Zf];lia
     refine⟨_,rfl,_,rfl,g,_,rfl,DPut.t (k:=kP L[k8]) lS jW lK,?_⟩
     have iR:putK ((gs++L.take k8).map λs=>(kP s,V.bl true)) (kP L[k8]) (.bl true)=(gs++L.take (k8+1)).map λs=>(kP s,V.bl true):=by
      rw[zf7 _ (valG_out cr),bq,←Qm,Qs (l₂:=[L[k8]])];rfl
     rw[iR]
     have ntg:t≠g:=za3 jW lS (by intro z;cases z)
     have ntfl:t≠fl:=za3 jW fk (by intro z;cases z)
     have k9:Keep [g,fl] H7 (upd H8 g (.dT ((gs++L.take (k8+1)).map λs=>(kP s,V.bl true)))):=nr.trans (Keep.wr (by simp))
     have hg9:(upd H8 g (.dT ((gs++L.take (k8+1)).map λs=>(kP s,V.bl true)))) g=some (.dT ((gs++L.take (k8+1)).map λs=>(kP s,V.bl true))):=zac
     have jo:(upd H8 g (.dT ((gs++L.take (k8+1)).map λs=>(kP s,V.bl true)))) fl=some (.lst (((L.take k8).map (·.1)).map V.str)):=by rw[zaf nfg];exact fk
     have gP:(upd H8 g (.dT ((gs++L.take (k8+1)).map λs=>(kP s,V.bl true)))) t=some (.tup [.str L[k8].1,.str L[k8].2]):=by rw[zaf ntg];exact jW
     generalize upd H8 g (.dT ((gs++L.take (k8+1)).map λs=>(kP s,V.bl true)))=H9 at k9 hg9 jo gP
     refine⟨_,rfl,.inl ⟨rfl,_,SqL.of jo⟩,_,rfl,t,_,_,_,rfl,rfl,SqT.of gP,zav (j:=0) rfl,fl,_,_,rfl,rfl,jo,(by rw[Qa,Qa,Zf];lia),?_⟩
     have hfe:((L.take k8).map (·.1)).map V.str++[V.str L[k8].1]=((L.take (k8+1)).map (·.1)).map V.str:=by rw[bq,Qs,Qs];rfl
     rw[hfe]
     have ph:Keep [g,fl] H7 (upd H9 fl (.lst (((L.take (k8+1)).map (·.1)).map V.str))):=k9.trans (Keep.wr (by simp))
     have lV:(upd H9 fl (.lst (((L.take (k8+1)).map (·.1)).map V.str))) g=some (.dT ((gs++L.take (k8+1)).map λs=>(kP s,V.bl true))):=by rw[zaf (Zo nfg)];exact hg9
     have hV:(upd H9 fl (.lst (((L.take (k8+1)).map (·.1)).map V.str))) fl=some (.lst (((L.take (k8+1)).map (·.1)).map V.str)):=zac
     have lu:(upd H9 fl (.lst (((L.take (k8+1)).map (·.1)).map V.str))) t=some (.tup [.str L[k8].1,.str L[k8].2]):=by rw[zaf ntfl];exact gP
     generalize upd H9 fl (.lst (((L.take (k8+1)).map (·.1)).map V.str))=kG at ph lV hV lu
     have jz:BAt kG b bs (row (rsOf es)):=rR.keep ph (by simp[nbg,nbfl]) λe he=>by
      have h1:=rR.tp e he
      simp[za3 h1 lT (by intro z;cases z),za3 h1 bV (by intro z;cases z)]
     obtain⟨e,he,hee⟩:=Qk.mp ((dP L[k8]).mpr (jE _ (Qn dy)))
     have dg2:=DGet.t (k:=kP L[k8]) jz.dc lu
     rw[←hee,valT_in jz.nd he]at dg2
     have lp:=jz.tp e he
     rw[hee,gw k8 dy]at lp
     refine⟨_,rfl,_,rfl,b,_,rfl,dg2,L.length-(k8+1),by exact zar1 ‹_›,k8+1,e.2,rfl,dy,rfl,ph,lV,hV,lp⟩
    ·have hk:k8=L.length:=by exact zar3 ‹_› ‹_›
     subst hk
     have fB:L.getD L.length ws[i]=ws[i]:=by rw[Qw,Ua (Qf _)];rfl
     rw[Qv (Qf _)]at lS fk dg
     have hwL:ws[i]∈L:=by rw[←hL];exact Qd
     rw[fB,valG_in (Qp _ hwL)]at dg
     refine⟨_,rfl,_,rfl,g,_,rfl,dg,_,rfl,zbs rfl ?_⟩
     have aH:((L.map (·.1)).map V.str).isEmpty=false:=by rw[←hL];rfl
     refine⟨_,rfl,_,.inl ⟨_,SqL.of fk,rfl⟩,zb2 (by rw[aH];rfl) ?_⟩
     have hD8:=nr _ _ kE (by simp[nDg,Zo nfD])
     refine⟨_,rfl,.inl ⟨rfl,_,SqL.of hD8⟩,_,rfl,D,_,_,rfl,rfl,hD8,(by rw[Qa];lia),?_⟩
     have k9:Keep [D,g] H5 (upd H8 D (.lst (mK.map V.ref++[.ref fl]))):=by
      refine Keep.trans (λc' u' ec bE=>?_) (Keep.wr (by simp))
      have h7:=jO c' u' ec bE
      refine nr c' u' h7 ?_
      have ncg:c'≠g:=λz=>bE (by simp[z])
      have ncf:c'≠fl:=λz=>by
       have:=k6 c' u' ec bE
       rw[z,dA]at this;cases this
      simp[ncg,ncf]
     refine⟨⟨_,_,_,rfl⟩,k9,gs++L,dn++[c],rem.erase c,mK++[fl],fC++[L],by rw[zaf (Zo nDg)];exact lS,be,λs=>?_,?_,hwt (λs hs=>Qr _ hs) (Qp _ hwL),by rw[zac,Qs];rfl,?_,⟨zao aY (.cons cK .nil),λL' bo=>?_⟩,λa ha=>?_,by rw[Ql];show _+1≤_;exact zar4 ‹_›⟩
     ·rw[Qe,hU,Wj,Qe,Yj,Jc,Zy,cK.mem_iff]
     ·refine cT.trans ?_
      rw[Qm]
      exact Zv _ (Ku hW)
     ·rw [Qs,← Qm]
      refine zao (Paired.impM (λa zs hz e=>?_) lE) (.cons ?_ .nil)
      ·obtain ⟨h,t,rfl⟩:∃ h t,zs=h::t:=by
        rcases Qe.mp hz with z | z
        ·obtain ⟨y,_,rfl⟩:=Qk.mp z
         exact⟨y,[],rfl⟩
        ·obtain ⟨L',bo,rfl⟩:=Qk.mp z
         obtain⟨s1,t1,e1,_⟩:=(kC L' bo).cy
         exact⟨s1.1,t1.map (·.1),by rw[e1];rfl⟩
       have n1:=notDg kE lT a h t e
       have naf:a≠fl:=za3 e bV (by intro z;injection z with z;cases z)
       show upd _ _ _ a=_
       rw[zaf n1.1]
       exact nr _ _ e (by simp[n1.2,naf])
      ·show upd _ _ _ fl=_
       rw[zaf nfD,fk]
     ·rcases Qe.mp bo with z | z
      ·exact kC L' z
      ·rw [Qb.mp z]
       refine⟨ws[i],B1++A1,hL.symm,gp,λu hu=>?_⟩
       exact least_at aj aE (ae.mem_iff.mpr ((dP u).mpr (jE u hu))) λz=>sd u hu (jS u z)
     ·rcases Qe.mp ha with z | z
      ·exact gy a z
      ·rw [Qb.mp z]
       refine zaq iu (zaq k6 dA ?_) (by simp)
       simp[nfD,nfg]
  ·rintro σ H6 ⟨⟨x4,x5,x6,rfl⟩,k6,gs,dn,rem,mK,fC,o7,qW,hU,cT,jS,my,eG,⟨aY,kC⟩,gy,l'⟩
   rw[Qa,bY,Qv (Qf _)]at jS
   have qb:rem=[]:=by
    cases rem with
    |nil=>rfl
    |cons c rem' =>
     have mf:c∈cs:=cT.mem_iff.mpr (Qp _ Qd)
     obtain⟨s0,t0,i5,_⟩:=C.cy c mf
     have aP:s0∈c:=by rw[i5];exact Qd
     have h1:s0∈ws:=ae.mem_iff.mpr ((dP s0).mpr (C.inc mf aP))
     have h2:=(hU s0).mp (jS s0 h1)
     have h3:=(Km cT).nodup_iff.mp C.cf
     rw[Wj,Ze]at h3
     exact absurd rfl (h3.2.2 s0 h2 s0 (Yf.mpr ⟨c,Qd,aP⟩))
   rw[qb,Zy]at cT
   have sK:∀a zs,za5 H6 a zs→lstV H6 (.ref a)=zs.map λx=>x.cps.toList:=λa zs e=>by
    rw[zim e,Zk];rfl
   refine⟨_,rfl,D,_,rfl,SqL.of my,λv hv=>?_,λl7 oF aQ cN c9=>?_⟩
   ·obtain ⟨a,ha,rfl⟩:=Qk.mp hv
    obtain⟨j,hj,rfl⟩:=Qx ha
    obtain⟨_,e⟩:=zap eG hj
    exact⟨_,_,rfl,e⟩
   ·obtain ⟨sI,rfl,aV⟩:=zgk cN
    obtain⟨kH,iQ,cF⟩:=zcm aV eG
    have fl7:H l7=none:=by
     refine zaq iu (zaq k6 aQ ?_) (by simp)
     intro z
     rcases Qh.mp z with z | z
     ·rw[z,my]at aQ;cases aQ
     ·rw[Qb.mp z,o7]at aQ;cases aQ
    rw[Ws]at c9
    have hfz:fC.flatten.Perm dn.flatten:=by
     clear eG kC iQ cF jS hU cT
     induction aY with
     |nil=>exact .refl _
     |cons h t ih=>rw[Yj,Yj];exact h.append ih
    have si:zbc (row (rsOf es)) fC:=⟨kC,hfz.nodup_iff.mpr ((Km cT).nodup_iff.mp C.cf),λs=>(hfz.mem_iff.trans (Km cT).mem_iff.symm).trans (C.cm s)⟩
    refine k l7 sI kH fC dn _ zac (by rw[aV.length_eq];rw[Qa]at l';lia) (Paired.imp' (λa z e=>by show upd _ _ _ a=_;rw[zaf (zab e aQ)];exact e) cF) iQ (show kH.Pairwise leL from zcn (S:=λa b=>(Tm.listO Tm.strO).kle a b) (f:=λa=>lstV H6 (.ref a)) (g:=λz:List Str=>z.map λx:Str=>x.cps.toList) cF sK c9) si cT.symm aY fl7 (λa ha=>gy a (aV.mem_iff.mp ha)) ?_
    refine(λc u ec _=>?_)
    have nD:c≠D:=λz=>by
     by_cases zd:c=d
     ·exact ndD (zd▸z)
     ·have h2:=k2 c u (k1 c u ec (by simp)) (by simpa using zd)
      rw[z,hD]at h2;cases h2
    have nG:c≠g:=λz=>by
     have h1:=k3 c u (k1 c u ec (by simp)) (by simp)
     rw[z,hg]at h1;cases h1
    have:=k6 c u (iu c u ec (by simp)) (by simp[nD,nG])
    rw[zaf (zab this aQ)];exact this
theorem hd_pair{H:Hp}:∀{as:Nk} {zss:List (List Str)},(∀zs∈zss,∃h t,zs=h::t)→Paired (za5 H) as zss→Paired (zd6 H) as (zss.map λz=>z.headD "")
 |_,_,_,.nil=>.nil
 |_,_,h,.cons r t=>by
  obtain⟨x,u,rfl⟩:=h _ Qd
  exact .cons ⟨u,r⟩ (hd_pair (λzs hz=>h zs (Qg _ hz)) t)
theorem hd_cyc{r:Np}:∀{Ls cs:List (List (Str×Str))},(∀L∈Ls,zei r L)→Paired List.Perm Ls cs→Paired (λh c=>∃s∈c,s.1=h) (Ls.map λL=>(nmL L).headD "") cs
 |_,_,_,.nil=>.nil
 |_,_,h,.cons p t=>by
  obtain⟨s1,t1,rfl,_⟩:=(h _ Qd).cy
  exact .cons ⟨s1,p.mem_iff.mp Qd,rfl⟩ (hd_cyc (λL hL=>h L (Qg _ hL)) t)
def ok_faces{f:Nc}{fd:Nt}(G:FnOk P w K mg base CX0 2 f fd ["rounds"] zh6):FnOk P w K mg base CX0 2 f fd ["rounds"] spFaces :=
 G.imp λvs H Q E h=>by
  obtain⟨d,es,cs,a9,h0,h1,h2,h3,h4,k⟩:=h
  refine⟨d,es,cs,a9,h0,h1,h2,h3,h4,λl as zss Ls aG H' hl bY pz pm so IF jv hp _ _ kk=>?_⟩
  have ne:∀zs∈zss,∃h t,zs=h::t:=λzs hz=>by
   rcases Qe.mp (pm.mem_iff.mp hz) with z | z
   ·obtain ⟨y,_,rfl⟩:=Qk.mp z
    exact⟨y,[],rfl⟩
   ·obtain ⟨L',bo,rfl⟩:=Qk.mp z
    obtain⟨s1,t1,e1,_⟩:=(IF.fa L' bo).cy
    exact⟨s1.1,t1.map (·.1),by rw[e1];rfl⟩
  refine k l as (zss.map λz=>z.headD "") (Ls.map λL=>(nmL L).headD "") aG H' hl bY (hd_pair ne pz) ?_ jv (hd_cyc IF.fa hp) kk
  have:=pm.map λz:List Str=>z.headD ""
  rw[Qs,Zk,Zk]at this
  refine this.trans (.of_eq ?_)
  congr 1
  exact List.map_id' _
end
abbrev sPiece:Stmt:=top 4
abbrev zgj:Stmt:=top 5
def marks(ks:Ni):List (Key×V):=ks.map λz=>((Sum.inr z:Key),V.bl true)
def zh4(h:x∉ks):valV (marks ks) (Sum.inr x)=none:=by
 unfold marks
 induction ks with
 |nil=>rfl
 |cons a t ih =>
  rw[Qh,not_or]at h
  rw[Qj,zbx]
  ·exact ih h.2
  ·intro q;exact h.1 (Kg q).symm
def valM_in(h:x∈ks):valV (marks ks) (Sum.inr x)=some (.bl true):=by
 unfold marks
 induction ks with
 |nil=>cases h
 | cons a t ih =>
  rw[Qj]
  by_cases e:a=x
  ·exact zdb (by rw[e])
  ·rw [zbx (fun q=>e (Kg q))]
   rcases Qh.mp h with z | z
   ·exact absurd z.symm e
   ·exact ih z
def putM_new(h:x∉ks):putK (marks ks) (Sum.inr x) (.bl true)=marks (ks++[x]):=by
 rw[zf7 _ (zh4 h)];unfold marks;rw[List.map_append];rfl
def putM_old(h:x∈ks):putK (marks ks) (Sum.inr x) (.bl true)=marks ks:=by
 unfold putK marks
 rw[if_pos]
 ·rw [Zk]
  refine Wz λz _=>?_
  show(if(Sum.inr z:Key)=Sum.inr x then((Sum.inr z:Key),V.bl true) else(Sum.inr z,V.bl true))=_
  split<;>rfl
 ·exact Wa.mpr ⟨_,Qk.mpr ⟨x,h,rfl⟩,by simp⟩
def mkeys(ks:Ni):((marks ks).map λp=>kV p.1)=ks.map V.str:=by unfold marks;rw[List.map_map];rfl
inductive IspPiece(vs:List V)(H:Hp)(Q:VK):Prop
 |mk (d:Nc) (es:List Ent) (cs:List (List (Str×Str))) (a9:Nr) (x:Str) (h0:vs=[.ref d,.str x]) (h1:TAt H d es) (h2:es.length≤60) (h3:Cert (es.map (·.1)) (row (rsOf es)) cs a9) (h4:x∈es.map (·.1)) (h5:∀(l:Nc) (zs:Ni) (H':Hp),H' l=some (.lst (zs.map V.str))→zs.Nodup→zs.Pairwise leS→(∀y,y∈zs↔y∈es.map (·.1)∧a9 y=a9 x)→H l=none→Keep [] H H'→Q (.ref l) H'):IspPiece vs H Q
def spPiece:Sp:=λvs H Q _=>IspPiece vs H Q
def seqO(b:Bool)(xs:List V):HO:=bif b then .tup xs else .lst xs
structure GAt(b:Bool)(H:Hp)(d:Nc)(es:List Ent):Prop where
 dc:H d=some (.dK (es.map λe=>((Sum.inr e.1:Key),V.ref e.2.2)))
 ro:∀e∈es,H e.2.2=some (seqO b (e.2.1.map V.str))
 nd:(es.map (·.1)).Nodup
def GAt.keep(r:GAt b H d es)(k:Keep xs H H')(hd:d∉xs)(h:∀e∈es,e.2.2∉xs):GAt b H' d es:=⟨k _ _ r.dc hd,λe he=>k _ _ (r.ro e he) (h e he),r.nd⟩
def SqB(b:Bool)(K:Nb)(H:Hp)(a:Nc)(xs:List V):Prop:=bif b then SqT K H a xs else SqL K H a xs
def ItB(b:Bool)(K:Nb)(a:Nc):It:=bif b then Itt K a else Itl K a
def SqB.of{b:Bool}{K:Nb}{H:Hp}{a:Nc}{xs:List V}(h:H a=some (seqO b xs)):SqB b K H a xs:=by
 cases b
 ·exact SqL.of h
 ·exact SqT.of h
def GAt.sq{b:Bool}{K:Nb}{H:Hp}{d:Nc}{es:List Ent}{e:Ent}(r:GAt b H d es)(he:e∈es):SqB b K H e.2.2 (e.2.1.map V.str):=SqB.of (r.ro e he)
def iB(b:Bool)(K:Nb)(tl:TE):TI:=λ σ H R=>tl σ H λx H1=>RI1 x (λa=>∃xs,SqB b K H1 a xs) λa=>R (ItB b K a) H1
def pi_b(b:Bool){X:Cx}{tg l:Expr}{tl:TE}(hl:PE X l tl):PI X tg l (iB b X.K tl):=by
 cases b
 ·exact zax hl
 ·exact pi_tup hl
def for_b(b:Bool){K:Nb}{a:Nc}{xs:List V}{g:TG}{tb:TS}{D:Ends}{σ:St}{H:Hp}(Pv:Nat→St→Hp→Prop)(h0:Pv 0 σ H)(hl:∀i σ H,i≤xs.length→Pv i σ H→SqB b K H a xs)(hs:∀i x σ H,xs[i]?=some x→Pv i σ H→g x σ H λ σ2 H2=>tb {D with nx:=Pv (i+1),ct:=Pv (i+1),bk:=D.nx} σ2 H2)(hd:∀σ H,Pv xs.length σ H→D.nx σ H) :
  ∃W:Nat→Nat→St→Hp→Prop,(∃m,W 0 m σ H)∧∀i m σ H,W i m σ H →
   ((ItB b K a).stop i H∧D.nx σ H)∨((ItB b K a).go i H∧∃N:St→Hp→Prop,(∀σ' H',N σ' H'→∃m',m'<m∧W (i+1) m' σ' H')∧∀x H',(ItB b K a).yld i H x H'→g x σ H' λ σ2 H2=>tb {D with nx:=N,ct:=N,bk:=D.nx} σ2 H2):=by
 cases b
 ·exact zbq Pv h0 hl hs hd
 ·exact for_tup Pv h0 hl hs hd
inductive IspPieceG(b:Bool)(vs:List V)(H:Hp)(Q:VK):Prop
 |mk (d:Nc) (es:List Ent) (x:Str) (h0:vs=[.ref d,.str x]) (h1:GAt b H d es) (h2:es.length≤60) (h3:∀z y,y∈row (rsOf es) z→y∈es.map (·.1)) (h4:x∈es.map (·.1)) (h5:∀(l:Nc) (zs:Ni) (H':Hp),H' l=some (.lst (zs.map V.str))→zs.Nodup→zs.Pairwise leS→(∀y,y∈zs↔Conn (row (rsOf es)) x y)→H l=none→Keep [] H H'→Q (.ref l) H'):IspPieceG b vs H Q
def spPieceG(b:Bool):Sp:=λvs H Q _=>IspPieceG b vs H Q
section
variable{P:Nj}{w:Nl}{K:Nb}{mg:Nf}{base:Nn}
def zgg:zas ["rounds", "start", "reached", "waiting", "place", "other"] ["rounds", "start"] (zag sPiece):=fsk
def ok_pieceG(b:Bool){f:Nc}{fd:Nt}(F:Fun K "piece_from" "piece_from" sPiece f fd)(aD:mg "sorted" = none):FnOk P w K mg base CX0 1 f fd ["rounds", "start"] (spPieceG b):=by
 refine F.okL zgg (λcdv A outer s H vs Q E hr h=>?_)
 obtain⟨d,es,x,rfl,T,aF,gE,hx,k⟩:=h
 have hu:=zct hr
 have aP  := sizeLine_eq
 refine⟨_,zae (zaw 2 zgg.nd (pe_disp (pps_cons (pv 1) pe_bl pps_nil) rfl rfl (by decide) (by decide)))
  (zae (zaw 3 zgg.nd (zbi (zaa (pv 1) zad)))
  (zae (zdy Zm (zf8 (pv 3) (by intro _;rfl))
   (zae (zaw 4 zgg.nd (pe_bm0 Qy PySem.F.slot_list_pop PySem.F.type_list_pop mt_pop (pv 3)))
   (zah (zbm Zm rfl (pi_b b (zgn hu (pv 0) (pv 4))) (za8 5 zgg.nd)
    (zah (zc2 (pt_cmp (zgo hu (pv 5) (pv 2)))
     (zae (zih hu (pv 2) (pv 5) pe_bl rfl)
     (zah (zay (zb7 Qy Zq Zp za1 (pv 3) (zaa (pv 5) zad))))) zbk))))))
  (zah (zbh (zaj (zbu rfl) (by rfl) aD Yu (zaa (pv 2) zad)))))),?_⟩
 have ai:∀e∈es,row (rsOf es) e.1=e.2.1:=λe he=>zb6 T.nd he
 refine λre gS=>⟨_,rfl,zac,[(Sum.inr x,.bl true)],rfl,(by show 1≤15;decide),?_⟩
 have eO:(zhs [] [((Sum.inr x:Key),V.bl true)])=marks [x]:=rfl
 rw[eO]
 have kre:Keep [] H (upd (upd H re (.dK [])) re (.dK (marks [x]))):=by rw[upd_upd];exact Keep.new gS
 have dm:(upd (upd H re (.dK [])) re (.dK (marks [x]))) re=some (.dK (marks [x])):=zac
 generalize upd (upd H re (.dK [])) re (.dK (marks [x]))=H1 at kre dm
 refine⟨_,rfl,(by show 1≤sizeLine;decide),λwa pB=>?_⟩
 have k2:Keep [] H (upd H1 wa (.lst [.str x])):=kre.trans (Keep.new pB)
 have iF:H wa=none:=zaq (xs:=[]) kre pB (by simp)
 have lj:(upd H1 wa (.lst [.str x])) wa=some (.lst ([x].map V.str)):=zac
 have ni:re≠wa:=zab dm pB
 have eF:(upd H1 wa (.lst [.str x])) re=some (.dK (marks [x])):=by rw[zaf ni];exact dm
 generalize upd H1 wa (.lst [.str x])=H2 at k2 lj eF
 have T2:GAt b H2 d es:=T.keep k2 (by simp) (λ_ _=>by simp)
 have oS:d≠re:=zab T.dc gS
 have ndw:d≠wa:=zab T.dc iF
 have rowne:∀e∈es,e.2.2≠re∧e.2.2≠wa:=λe he=>⟨zab (T.ro e he) gS,zab (T.ro e he) iF⟩
 refine⟨λm σ H'=>Aj3 (Ex2 λx4 x5=>σ=[some (.ref d),some (.str x),some (.ref re),some (.ref wa),x4,x5]) (Keep [re,wa] H2 H') (Ex2 λ(ks wl:Ni)=>Aj9 (H' re=some (.dK (marks ks))) (H' wa=some (.lst (wl.map V.str))) ks.Nodup wl.Nodup (∀z∈wl,z∈ks) (∀z∈ks,z∈es.map (·.1)∧Conn (row (rsOf es)) x z) (x∈ks) (∀z∈ks,z∉wl→∀y∈row (rsOf es) z,y∈ks) (m=es.length+wl.length-ks.length)),
  ⟨_,⟨none,none,rfl⟩,Keep.refl,[x],[x],eF,lj,Za.mpr ⟨by simp,Yb⟩,Za.mpr ⟨by simp,Yb⟩,λz h=>h,λz h=>(by rw[Qb.mp h];exact⟨hx,.refl⟩),Qd,λz h h'=>absurd h h',rfl⟩,?_⟩
 rintro m σ H3 ⟨⟨x4,x5,rfl⟩,k3,ks,wl,cn,iH,fR,lg,nI,je,hxk,jw,rfl⟩
 have hkle:ks.length≤es.length:=by
  have:=zcf fR (m:=es.map (·.1)) λz hz=>(je z hz).1
  rwa[Qa]at this
 have lh:wl.length≤ks.length:=zcf lg nI
 refine⟨_,rfl,_,.inl ⟨_,SqL.of iH,rfl⟩,?_⟩
 rcases List.eq_nil_or_concat wl with dk | ⟨ini,z,dk⟩
 ·-- all are reached
  subst dk
  refine zbs rfl ?_
  refine⟨_,rfl,re,_,ks,rfl,.inl cn,mkeys ks,λl zs hl ae aj=>?_⟩
  have kf:Keep [] H H3:=λc u ec _=>k3 c u (k2 c u ec (by simp)) (by simp[zab ec gS,zab ec iF])
  refine k l zs _ zac (ae.nodup_iff.mpr fR) (aj (by omega)) (λy=>?_) (zaq kf hl (by simp)) (kf.trans (Keep.new hl))
  rw[ae.mem_iff]
  constructor
  ·exact λh=>(je y h).2
  ·intro hc
   induction hc with
   |refl=>exact hxk
   |step _ hz ih=>exact jw _ ih (by simp) _ hz
 ·rw [List.concat_eq_append] at dk
  subst dk
  refine zb2 (by rw[Qs];cases ini<;>rfl) ?_
  refine⟨_,λ σ' H' zz=>zz,?_⟩
  have dH:z∈ks:=nI z (Qp _ Qd)
  obtain⟨en,bz,cC⟩:=Qk.mp (je z dH).1
  have l0:en.1=z:=cC
  rw[Ze]at lg
  obtain⟨aA,_,rK⟩:=lg
  have hzi:z∉ini:=λq=>rK z q z Qd rfl
  have cv:((ini++[z]).map V.str)[((ini++[z]).map V.str).length-1]?=some (.str z):=by
   rw[Qs,Ql,Uo (by simp)]
   simp
  have kl:((ini++[z]).map V.str).dropLast=ini.map V.str:=by rw[Qs];exact List.dropLast_concat
  refine⟨_,rfl,.inl ⟨rfl,_,SqL.of iH⟩,wa,_,_,rfl,rfl,iH,cv,?_⟩
  rw[kl]
  have k4:Keep [re,wa] H2 (upd H3 wa (.lst (ini.map V.str))):=k3.trans (Keep.wr (by simp))
  have li:(upd H3 wa (.lst (ini.map V.str))) wa=some (.lst (ini.map V.str)):=zac
  have eD:(upd H3 wa (.lst (ini.map V.str))) re=some (.dK (marks ks)):=by rw[zaf ni];exact cn
  generalize upd H3 wa (.lst (ini.map V.str))=H4 at k4 li eD
  have T4:GAt b H4 d es:=T2.keep k4 (by simp[oS,ndw]) λe he=>by simp[(rowne e he).1,(rowne e he).2]
  have dg:DGet H4 d (.str z) (some (.ref en.2.2)):=by
   have:=DGet.k (k:=Sum.inr en.1) T4.dc
   rw[zhl T4.nd bz,l0]at this
   exact this
  have hrz:row (rsOf es) z=en.2.1:=by rw[←l0];exact ai en bz
  refine⟨_,rfl,_,rfl,d,_,rfl,dg,en.2.2,rfl,⟨_,GAt.sq T4 bz⟩,for_b b (xs:=en.2.1.map V.str) (λj σ H'=>Aj3 (Ex1 λx5=>σ=[some (.ref d),some (.str x),some (.ref re),some (.ref wa),some (.str z),x5]) (Keep [re,wa] H2 H') (Ex1 λ(nw:Ni)=>Aj5 (H' re=some (.dK (marks (ks++nw)))) (H' wa=some (.lst ((ini++nw).map V.str))) ((ks++nw).Nodup) (∀y∈nw,y∈es.map (·.1)∧Conn (row (rsOf es)) x y) (∀y∈en.2.1.take j,y∈ks++nw)))
   ⟨⟨_,rfl⟩,k4,[],by rw[Zy];exact eD,by rw[Zy];exact li,by rw[Zy];exact fR,λy hy=>(by cases hy),λy hy=>(by cases hy)⟩
   (λj σ H' _ hh=>(SqB.of (hh.2 _ _ (T2.ro en bz) (by simp[(rowne en bz).1,(rowne en bz).2])))) ?_ ?_⟩
  ·rintro j y σ H5 hy ⟨⟨y5,rfl⟩,k5,nw,ca,gf,cR,dw,dU⟩
   have hj:j<en.2.1.length:=by
    have:=(Zg.mp hy).1
    rwa[Qa]at this
   have fM:y=.str en.2.1[j]:=by
    rw[Qu,Qc hj]at hy
    exact(Qt hy).symm
   subst fM
   have ga:en.2.1[j]∈row (rsOf es) z:=by rw[hrz];exact Qn hj
   have bq:en.2.1.take (j+1)=en.2.1.take j++[en.2.1[j]]:=Qo hj
   have hsz:(ks++nw).length≤es.length:=by
    have:=zcf cR (m:=es.map (·.1)) λq hq=>by
     rcases Qe.mp hq with h | h
     ·exact(je q h).1
     ·exact(dw q h).1
    rwa[Qa]at this
   have ox:=DGet.k (k:=Sum.inr en.2.1[j]) ca
   by_cases aA:en.2.1[j]∈ks++nw
   ·rw [valM_in aA] at ox
    refine⟨_,rfl,_,rfl,re,_,rfl,ox,_,rfl,zbs rfl ?_⟩
    refine⟨⟨_,rfl⟩,k5,nw,ca,gf,cR,dw,λq hq=>?_⟩
    rw[bq]at hq
    rcases Qe.mp hq with h | h
    ·exact dU q h
    ·rw[Qb.mp h];exact aA
   ·rw [zh4 aA] at ox
    refine⟨_,rfl,_,rfl,re,_,rfl,ox,_,rfl,zb2 rfl ?_⟩
    refine⟨_,rfl,_,rfl,re,_,rfl,DPut.k (k:=Sum.inr en.2.1[j]) ca (by unfold marks;rw[List.length_map];lia),?_⟩
    rw[putM_new aA]
    have iG:(upd H5 re (.dK (marks (ks++nw++[en.2.1[j]])))) wa=some (.lst ((ini++nw).map V.str)):=by rw[zaf (Zo ni)];exact gf
    have dl:(upd H5 re (.dK (marks (ks++nw++[en.2.1[j]])))) re=some (.dK (marks (ks++nw++[en.2.1[j]]))):=zac
    have k6:Keep [re,wa] H2 (upd H5 re (.dK (marks (ks++nw++[en.2.1[j]])))):=k5.trans (Keep.wr (by simp))
    generalize upd H5 re (.dK (marks (ks++nw++[en.2.1[j]])))=H6 at iG dl k6
    rw[Ql]at hsz
    rw[Ql,Zb,Jk]at lh
    refine⟨_,rfl,.inl ⟨rfl,_,SqL.of iG⟩,_,rfl,wa,_,_,rfl,rfl,iG,(by rw[Qa,Ql];lia),?_⟩
    refine⟨⟨_,rfl⟩,k6.trans (Keep.wr (by simp)),nw++[en.2.1[j]],by rw[zaf ni,←Qm];exact dl,by rw[zac,←Qm,Qs (l₂:=[en.2.1[j]])];rfl,?_,λq hq=>?_,λq hq=>?_⟩
    ·rw [← Qm,Ze]
     refine⟨cR,Za.mpr ⟨by simp,Yb⟩,λa ha b hb e=>?_⟩
     rw[Qb.mp hb]at e
     exact aA (e▸ha)
    ·rcases Qe.mp hq with h | h
     ·exact dw q h
     ·rw [Qb.mp h]
      exact⟨gE z _ ga,.step (je z dH).2 ga⟩
    ·rw [bq] at hq
     rw[←Qm]
     rcases Qe.mp hq with h | h
     ·exact Qr _ (dU q h)
     ·exact Qp _ h
  ·rintro σ H5 ⟨⟨y5,rfl⟩,k5,nw,ca,gf,cR,dw,dU⟩
   rw[Qa,Qv (Qf _)]at dU
   have hsz:(ks++nw).length≤es.length:=by
    have:=zcf cR (m:=es.map (·.1)) λq hq=>by
     rcases Qe.mp hq with h | h
     ·exact(je q h).1
     ·exact(dw q h).1
    rwa[Qa]at this
   have eJ:=cR
   rw[Ze]at eJ
   refine⟨es.length+(ini++nw).length-(ks++nw).length,?_,⟨_,_,rfl⟩,k5,ks++nw,ini++nw,ca,gf,cR,?_,?_,?_,Qr _ hxk,?_,rfl⟩
   ·rw [Ql] at hsz
    rw[Ql,Ql,Ql,Zb,Jk]
    rw[Ql,Zb,Jk]at lh
    lia
   ·rw [Ze]
    refine⟨aA,eJ.2.1,λa ha b hb e=>eJ.2.2 a (nI a (Qr _ ha)) b hb e⟩
   ·intro q hq
    rcases Qe.mp hq with h | h
    ·exact Qr _ (nI q (Qr _ h))
    ·exact Qp _ h
   ·intro q hq
    rcases Qe.mp hq with h | h
    ·exact je q h
    ·exact dw q h
   ·intro q hq lB y hy
    rw[Qe,not_or]at lB
    rcases Qe.mp hq with h | h
    ·by_cases hqz:q=z
     ·rw[hqz,hrz]at hy;exact dU y hy
     ·exact Qr _ (jw q h (by rw[Qe,not_or,Qb];exact⟨lB.1,hqz⟩) y hy)
    ·exact absurd h lB.2
def ok_piece(F:Fun K "piece_from" "piece_from" sPiece f fd)(aD:mg "sorted" = none):FnOk P w K mg base CX0 1 f fd ["rounds", "start"] spPiece :=
 (ok_pieceG true F aD).imp fun vs H Q E ⟨d,es,cs,a9,x,e,T,aF,C,hx,k⟩=>⟨d,es,x,e,⟨T.dc,T.ro,T.nd⟩,aF,fun z y h=>C.inn' h,hx,fun l zs H' h1 h2 h3 h4=>k l zs H' h1 h2 h3 fun y=>(h4 y).trans ⟨fun h=>by
  induction h with
  |refl=>exact⟨hx,rfl⟩
  |step _ ga ih=>exact⟨C.inn' ga,(C.la _ _ ga).trans ih.2⟩,λh=>C.co x hx y h.1 h.2.symm⟩⟩
end
def zcd(ns:Ni)(a9:Nr)(zs:Ni):Prop:=zs.Nodup∧∃s∈ns,∀y,y∈zs↔y∈ns∧a9 y=a9 s
structure InRow(ns:Ni)(zss:List (List Str)):Prop where
 so:∀zs∈zss,zs.Pairwise leS
 hd:zss.Pairwise λa b=>a≠b∧∀x∈a.head?,∀y∈b.head?,leS x y
 al:∀y∈ns,∃zs∈zss,y∈zs
inductive IspPieces(vs:List V)(H:Hp)(Q:VK):Prop
 |mk (d:Nc) (es:List Ent) (cs:List (List (Str×Str))) (a9:Nr) (h0:vs=[.ref d]) (h1:TAt H d es) (h2:es.length≤60) (h3:Cert (es.map (·.1)) (row (rsOf es)) cs a9) (h4:∀(l:Nc) (as:Nk) (zss:List (List Str)) (H':Hp),H' l=some (.lst (as.map V.ref))→Paired (za5 H') as zss→(∀zs∈zss,zcd (es.map (·.1)) a9 zs)→InRow (es.map (·.1)) zss→H l=none→(∀a∈as,H a=none)→Keep [] H H'→Q (.ref l) H'):IspPieces vs H Q
def zh5:Sp:=λvs H Q _=>IspPieces vs H Q
section
variable{P:Nj}{w:Nl}{K:Nb}{mg:Nf}{base:Nn}
def zdx:zas ["rounds", "found", "reached", "start", "piece", "place"] ["rounds"] (zag zgj):=fsk
def ok_pieces(F:Fun K "pieces_of" "pieces_of" zgj f fd)(FP:Fun K "piece_from" "piece_from" sPiece fp fdp)(bP:Binds K fdp ["rounds", "start"] [])(mP:mg "piece_from" = some (.ref fp))(GP:FnOk P w K mg base CX0 1 fp fdp ["rounds", "start"] spPiece)(aD:mg "sorted" = none):FnOk P w K mg base CX0 2 f fd ["rounds"] zh5:=by
 refine F.okL zdx (λcdv A outer s H vs Q E hr h=>?_)
 obtain⟨d,es,cs,a9,rfl,T,aF,C,k⟩:=h
 have hu:=zct hr
 have aP  := sizeLine_eq
 refine⟨_,zae (zaw 1 zdx.nd (zbi zad))
  (zae (zaw 2 zdx.nd pe_dnewK)
  (zae (zbm Zm rfl (zax (zaj (zbu rfl) (by rfl) aD Yu (zaa (pv 0) zad))) (za8 3 zdx.nd)
   (zah (zc2 (pt_cmp (zgo hu (pv 3) (pv 2)))
    (zae (zaw 4 zdx.nd (zam GP hr rfl mP FP.kp bP .nil za2 (zaa (pv 0) (zaa (pv 3) zad))))
    (zae (zay (zb7 Qy Zq Zp za1 (pv 1) (zaa (pv 4) zad)))
    (zah (zbm Zm rfl (zax (pv 4)) (za8 5 zdx.nd)
     (zah (zih hu (pv 2) (pv 5) pe_bl rfl)))))) zbk)))
  (zah (zbh (pv 1))))),?_⟩
 refine⟨(by show 0≤sizeLine;decide),λfo cJ re gS=>?_⟩
 have eB:H re=none:=zaq (xs:=[]) (Keep.new cJ) gS (by simp)
 have oR:fo≠re:=zab (o:=_) zac gS
 have k1:Keep [] H (upd (upd H fo (.lst [])) re (.dK [])):=(Keep.new cJ).trans (Keep.new gS)
 have fj:(upd (upd H fo (.lst [])) re (.dK [])) fo=some (.lst []):=by rw[zaf oR];exact zac
 have dm:(upd (upd H fo (.lst [])) re (.dK [])) re=some (.dK []):=zac
 generalize upd (upd H fo (.lst [])) re (.dK [])=H1 at k1 fj dm
 have T1:TAt H1 d es:=T.keep k1 (by simp) (λ_ _=>by simp)
 refine⟨_,rfl,d,_,es.map (·.1),rfl,.inl T1.dc,zg3 es,λl ws hl ae aj=>?_⟩
 replace aj:=aj (by rw[Qa];omega)
 have k2:Keep [] H1 (upd H1 l (.lst (ws.map V.str))):=Keep.new hl
 have ak:(upd H1 l (.lst (ws.map V.str))) l=some (.lst (ws.map V.str)):=zac
 have nlf:l≠fo:=Zo (zab fj hl)
 generalize upd H1 l (.lst (ws.map V.str))=H2 at k2 ak
 have jm:=k2 _ _ fj (by simp)
 have eF:=k2 _ _ dm (by simp)
 have nlr:l≠re:=za3 ak eF (by intro z;cases z)
 have T2:TAt H2 d es:=T1.keep k2 (by simp) (λ_ _=>by simp)
 have iw:Keep [] H H2:=k1.trans k2
 have ndf:d≠fo:=zab T.dc cJ
 have oS:d≠re:=zab T.dc eB
 have dk:ws.length=es.length:=by rw[ae.length_eq,Qa]
 refine⟨l,rfl,⟨_,SqL.of ak⟩,zez (zs:=ws) (λi σ H'=>Aj3 (Ex3 λx3 x4 x5=>σ=[some (.ref d),some (.ref fo),some (.ref re),x3,x4,x5]) (Keep [fo,re] H2 H') (Ex3 λ(as:Nk) (zss:List (List Str)) (ks:Ni)=>Aj8 (H' fo=some (.lst (as.map V.ref))) (H' re=some (.dK (marks ks))) (Paired (za5 H') as zss) (∀zs∈zss,zcd (es.map (·.1)) a9 zs) (as.length≤i) ks.Nodup (∀z∈ks,z∈es.map (·.1)) (Aj7 (∀a∈as,a≠fo∧H a=none) (∀y∈ws.take i,y∈ks) (∀y∈ks,∃zs∈zss,y∈zs) (∀zs∈zss,∀y∈zs,y∈ks) (∀zs∈zss,∀x∈zs.head?,x∈ws.take i) (zss.Pairwise λa b=>a≠b∧∀x∈a.head?,∀y∈b.head?,leS x y) (∀zs∈zss,zs.Pairwise leS))))
  ⟨⟨_,_,_,rfl⟩,Keep.refl,[],[],[],jm,eF,.nil,λzs h=>(by cases h),Zn _,Yb,λz h=>(by cases h),λz h=>(by cases h),λz h=>(by cases h),λz h=>(by cases h),λz h=>(by cases h),λz h=>(by cases h),List.Pairwise.nil,λz h=>(by cases h)⟩ (λi σ H' _ hh=>SqL.of (hh.2 _ _ ak (by simp[nlf,nlr]))) ?_ ?_⟩
 ·rintro i hi σ H3 ⟨⟨x3,x4,x5,rfl⟩,k3,as,zss,ks,fh,cn,cO,du,rV,fR,o0,fG,c1,c2,c6,c3,c4,c5⟩
  have dg:=DGet.k (k:=Sum.inr ws[i]) cn
  have T3:TAt H3 d es:=T2.keep k3 (by simp[ndf,oS]) λe he=>by
   have h1:=T.ro e he
   simp[zab h1 cJ,zab h1 eB]
  by_cases aA:ws[i]∈ks
  ·rw [valM_in aA] at dg
   refine⟨_,rfl,_,rfl,re,_,rfl,dg,_,rfl,zbs rfl ?_⟩
   refine⟨⟨_,_,_,rfl⟩,k3,as,zss,ks,fh,cn,cO,du,by exact zh2 ‹_›,fR,o0,fG,λy hy=>?_,c2,c6,λzs h x hx=>Wd (i:=i) (by rw[List.take_take,Nat.min_eq_left (Kh i)];exact c3 zs h x hx),c4,c5⟩
   rw[Qo hi]at hy
   rcases Qe.mp hy with h | h
   ·exact c1 y h
   ·rw[Qb.mp h];exact aA
  ·rw [zh4 aA] at dg
   refine⟨_,rfl,_,rfl,re,_,rfl,dg,_,rfl,zb2 rfl ?_⟩
   have c8:=ae.mem_iff.mp (Qn hi)
   refine⟨_,rfl,_,rfl,d,es,cs,a9,ws[i],rfl,T3,aF,C,c8,λp zs H4 cb cC iA bG gl k4=>?_⟩
   obtain⟨iq,qC⟩:∃iq,iq=ks:=⟨_,rfl⟩
   rw[←qC]at cn fR o0 aA c1 c2 c6
   have cx:=k4 _ _ fh (by simp)
   have eD:=k4 _ _ cn (by simp)
   have npf:p≠fo:=Zo (zab fh gl)
   have npr:p≠re:=za3 cb eD (by intro z;cases z)
   refine⟨_,rfl,.inl ⟨rfl,_,SqL.of cx⟩,_,rfl,fo,_,_,rfl,rfl,cx,(by rw[Qa];lia),?_⟩
   have k5:Keep [fo,re] H2 (upd H4 fo (.lst (as.map V.ref++[.ref p]))):=(k3.trans (k4.sub (by simp))).trans (Keep.wr (by simp))
   have lZ:(upd H4 fo (.lst (as.map V.ref++[.ref p]))) fo=some (.lst ((as++[p]).map V.ref)):=by rw[zac,Qs];rfl
   have ca:(upd H4 fo (.lst (as.map V.ref++[.ref p]))) re=some (.dK (marks iq)):=by rw[zaf (Zo oR)];exact eD
   have aT:(upd H4 fo (.lst (as.map V.ref++[.ref p]))) p=some (.lst (zs.map V.str)):=by rw[zaf npf];exact cb
   have cq:Paired (za5 (upd H4 fo (.lst (as.map V.ref++[.ref p])))) (as++[p]) (zss++[zs]):=by
    refine zao ?_ (.cons aT .nil)
    have:∀{as:Nk} {zss:List (List Str)},Paired (za5 H3) as zss→(∀a∈as,a≠fo)→Paired (za5 (upd H4 fo (.lst (as.map V.ref++[.ref p])))) as zss:=λ{as zss} r ha=>by
     have h2:∀(L:List V),Paired (za5 (upd H4 fo (.lst L))) as zss:=λL=>by
      induction r with
      |nil=>exact .nil
      |cons h t ih=>exact .cons (by unfold za5;rw[zaf (ha _ List.mem_cons_self)];exact k4 _ _ h (by simp)) (ih λa h=>ha a (List.mem_cons_of_mem _ h))
     exact h2 _
    exact this cO λa ha=>(fG a ha).1
   have mj:∀a∈as++[p],a≠fo∧H a=none:=λa ha=>by
    rcases Qe.mp ha with h | h
    ·exact fG a h
    ·rw [Qb.mp h]
     refine⟨npf,zaq iw (zaq k3 gl ?_) (by simp)⟩
     simp[npf,npr]
   generalize upd H4 fo (.lst (as.map V.ref++[.ref p]))=H5 at k5 lZ ca aT cq
   refine⟨_,rfl,p,rfl,⟨_,SqL.of aT⟩,zbq (xs:=zs.map V.str) (λj σ H'=>Aj3 (Ex1 λx5=>σ=[some (.ref d),some (.ref fo),some (.ref re),some (.str ws[i]),some (.ref p),x5]) (Keep [re] H5 H') (Ex1 λ(ks:Ni)=>Aj4 (H' re=some (.dK (marks ks))) ks.Nodup (∀z∈ks,z∈es.map (·.1)) (∀z,z∈ks↔z∈iq∨z∈zs.take j)))
    ⟨⟨_,rfl⟩,Keep.refl,iq,ca,fR,o0,λz=>⟨.inl,λh=>h.elim id λh=>(by cases h)⟩⟩ (λj σ H' _ hh=>SqL.of (hh.2 _ _ aT (by simpa using npr))) ?_ ?_⟩
   ·rintro j y σ H6 hy ⟨⟨y5,rfl⟩,k6,im,dl,eT,eU,cu⟩
    have hj:j<zs.length:=by
     have:=(Zg.mp hy).1
     rwa[Qa]at this
    obtain⟨z,hz,rfl,ez⟩:∃z,z∈zs∧y=V.str z∧z=zs[j]:=by
     rw[Qu,Qc hj]at hy
     exact⟨zs[j],Qn hj,(Qt hy).symm,rfl⟩
    have step:∀q,(q∈im∨q=z)↔q∈iq∨q∈zs.take (j+1):=λq=>by
     rw[cu,Qo hj,Qe,Qb,ez,or_assoc]
    have hsz:im.length≤es.length:=by
     have:=zcf eT eU
     rwa[Qa]at this
    refine⟨_,rfl,_,rfl,re,_,rfl,DPut.k (k:=Sum.inr z) dl (by unfold marks;rw[List.length_map];lia),⟨_,rfl⟩,k6.trans (Keep.wr (by simp)),?_⟩
    by_cases dH:z∈im
    ·exact⟨im,by rw[zac,putM_old dH],eT,eU,λq=>by rw[←step q];exact⟨.inl,λh=>h.elim id λe=>e▸dH⟩⟩
    ·refine ⟨im++[z],by rw [zac,putM_new dH],?_,fun q hq=>?_,fun q=>by rw [← step q,Qe,Qb]⟩
     ·rw [Ze]
      refine⟨eT,Za.mpr ⟨by simp,Yb⟩,λa ha b hb e=>?_⟩
      rw[Qb.mp hb]at e
      exact dH (e▸ha)
     ·rcases Qe.mp hq with h | h
      ·exact eU q h
      ·rw[Qb.mp h];exact((bG z).mp hz).1
   ·rintro σ H6 ⟨⟨y5,rfl⟩,k6,im,dl,eT,eU,cu⟩
    rw[Qa,Qv (Qf _)]at cu
    have dj:ws[i]∈zs:=(bG _).mpr ⟨c8,rfl⟩
    have cw:zs.head?=some ws[i]:=by
     cases iz:zs with
     |nil=>rw[iz]at dj;cases dj
     | cons m t =>
      have qr:m∈zs:=by rw[iz];exact Qd
      obtain⟨iZ,fQ⟩:=(bG m).mp qr
      obtain⟨j,hj,ej⟩:=Qx (ae.mem_iff.mpr iZ)
      have h1:leS m ws[i]:=by
       rw[iz]at dj iA
       rcases Qh.mp dj with q | q
       ·rw[q];exact λz=>Wn _ z
       ·exact(Uc.mp iA).1 _ q
      have aX:i≤j:=Nat.le_of_not_lt λad=>by
       have eO:m∈iq:=c1 m (by rw[←ej,←Ww (j:=i) (h:=by rw[Zf];omega)];exact Qn _)
       obtain⟨cA,g9,iY⟩:=c2 m eO
       obtain⟨_,s,_,hs⟩:=du cA g9
       exact aA (c6 cA g9 _ ((hs _).mpr ⟨c8,fQ.symm.trans ((hs m).mp iY).2⟩))
      have h2:leS ws[i] m:=by
       rcases Nat.lt_or_eq_of_le aX with q | q
       ·rw[←ej];exact Wr.mp aj i j hi hj q
       ·subst q;rw[ej];exact λz=>Wn _ z
      rw[zf9 _ _ h1 h2];rfl
    have tk:ws.take (i+1)=ws.take i++[ws[i]]:=Qo hi
    refine⟨⟨_,_,_,rfl⟩,k5.trans (k6.sub (by simp)),as++[p],zss++[zs],im,k6 _ _ lZ (by simpa using oR),dl,Paired.imp' (λa zs h=>k6 _ _ h (by simpa using za3 h ca (by intro z;cases z))) cq,λq hq=>?_,by rw[Ql];show _+1≤_;exact zar4 ‹_›,eT,eU,mj,λy hy=>?_,λy hy=>?_,λq hq y hy=>?_,λq hq x hx=>?_,?_,λq hq=>?_⟩
    ·rcases Qe.mp hq with h | h
     ·exact du q h
     ·rw[Qb.mp h];exact⟨cC,ws[i],c8,bG⟩
    ·rw [tk] at hy
     rcases Qe.mp hy with h | h
     ·exact(cu y).mpr (.inl (c1 y h))
     ·rw[Qb.mp h];exact(cu _).mpr (.inr dj)
    ·rcases (cu y).mp hy with h | h
     ·obtain ⟨z,hz,fM⟩:=c2 y h
      exact⟨z,Qr _ hz,fM⟩
     ·exact⟨zs,Qp _ Qd,h⟩
    ·rcases Qe.mp hq with h | h
     ·exact(cu y).mpr (.inl (c6 q h y hy))
     ·rw[Qb.mp h]at hy;exact(cu y).mpr (.inr hy)
    ·rw [tk]
     rcases Qe.mp hq with h | h
     ·exact Qr _ (c3 q h x hx)
     ·rw [Qb.mp h,cw] at hx
      rw[←Qt hx];exact Qp _ Qd
    ·rw [Ya]
     refine⟨c4,Ki _ _,λa ha b hb=>⟨?_,λx hx y hy=>?_⟩⟩
     ·rintro rfl
      rw[Qb.mp hb]at ha
      exact aA (c6 zs ha _ dj)
     rw[Qb.mp hb,cw]at hy
     rw[←Qt hy]
     obtain⟨j,hj,ej⟩:=Qx (c3 a ha x hx)
     rw[Zf]at hj
     rw[←ej,Ww]
     exact Wr.mp aj j i (by omega) hi (by omega)
    ·rcases Qe.mp hq with h | h
     ·exact c5 q h
     ·rw[Qb.mp h];exact iA
 ·rintro σ H3 ⟨⟨x3,x4,x5,rfl⟩,k3,as,zss,ks,fh,cn,cO,du,rV,fR,o0,fG,c1,c2,c6,c3,c4,c5⟩
  rw[Qa,Qv (Qf _)]at c1
  refine⟨_,rfl,k fo as zss H3 fh cO du ⟨c5,c4,λy hy=>c2 y (c1 y (ae.mem_iff.mpr hy))⟩ cJ (λa ha=>(fG a ha).2) λc u ec _=>k3 c u (iw c u ec (by simp)) (by simp[zab ec cJ,zab ec eB])⟩
end
end K21
end
section
namespace L2
open PySem
def lc_filt(T:St→Prop)(q:V→Bool)(ha:SqL K H a xs)(hn:xs.length≤sizeLine)(h0:T τ)(hs:∀x∈xs,∀τ,T τ→∀(k1:V→St→Hp→Prop) (k0:St→Hp→Prop),(q x=true→∀τ2,T τ2→k1 x τ2 H)→(q x=false→∀τ2,T τ2→k0 τ2 H)→g x τ H λ τ2 H2=>tc τ2 H2 λb H3=>if b=true then te τ2 H3 λy H4=>k1 y τ2 H4 else k0 τ2 H3)(hq:∀D,H D=none→Q (.ref D) (upd H D (.lst (xs.filter q)))):rLC g tc te Q (Itl K a) τ H:=by
 refine⟨λi m ys τ H1=>Aj5 (H1=H) (T τ) (m=xs.length-i) (i≤xs.length) (ys=(xs.take i).filter q),⟨_,rfl,h0,rfl,Zn _,rfl⟩,?_⟩
 rintro i m ys τ H1 ⟨rfl,ht,rfl,hi,rfl⟩
 by_cases ad:i<xs.length
 ·have gA:((xs.take i).filter q).length≤i:=Zj (Ko _ _) (by rw [Zf];lia)
  refine .inr ⟨⟨xs,xs[i],ha,Qc ad⟩,by lia,?_⟩
  rintro x H' ⟨rfl,hx⟩
  have cg:=hx xs ha
  rw[Qc ad]at cg
  have iE:xs[i]=x:=Qt cg
  have bq:xs.take (i+1)=xs.take i++[x]:=by rw[Qo ad,iE]
  refine hs x (iE▸Qn ad) τ ht (λy τ2 H4=>∃m',m'<xs.length-i∧Aj5 (H4=H') (T τ2) (m'=xs.length-(i+1)) (i+1≤xs.length) ((xs.take i).filter q++[y]=(xs.take (i+1)).filter q))
   (λ τ2 H4=>∃m',m'<xs.length-i∧Aj5 (H4=H') (T τ2) (m'=xs.length-(i+1)) (i+1≤xs.length) ((xs.take i).filter q=(xs.take (i+1)).filter q)) (λqd τ2 h2=>?_) λqd τ2 h2=>?_
  ·exact⟨_,by exact zar1 ‹_›,rfl,h2,rfl,ad,by rw[bq,Uq,Yx qd,Ka]⟩
  ·exact⟨_,by exact zar1 ‹_›,rfl,h2,rfl,ad,by rw[bq,Uq,Yy (by rw[qd];decide),Ka,Zy]⟩
 ·have e:i=xs.length:=by exact zar3 ‹_› ‹_›
  subst e
  refine .inl ⟨⟨xs,ha,Qf _⟩,λD hD=>?_⟩
  rw[Qv (Qf _)]
  exact hq D hD
end L2
namespace K21
open PySem L2 Wb
def sum_filter{α:Type}{p:α→Bool}{f:α→Int}:∀l:List α,(l.map λx=>if p x=true then f x else 0).sum=((l.filter p).map f).sum:=by
 intro l
 induction l with
 |nil=>rfl
 |cons a t ih =>
  rw[Qj,Yv,ih]
  by_cases h:p a=true
  ·rw[if_pos h,Yx h,Qj,Yv]
  ·rw[if_neg h,Yy h];lia
def sum_parts{α:Type}{f:α→List Str}:∀l:List α,(l.map λx=>(2:Int)+(if f x=[] then 2 else 0)-((f x).length:Int)).sum=2*(l.length:Int)+2*((l.filter λx=>(f x).isEmpty).length:Int)-(((l.map λx=>(f x).length).sum:Nat):Int):=by
 intro l
 induction l with
 |nil=>rfl
 |cons a t ih =>
  rw[Qj,Yv,ih,Qj,Yv,Zb]
  by_cases h:f a=[]
  ·rw[Yx (by rw[h];rfl),Zb,if_pos h];lia
  ·rw[Yy (by rw[List.isEmpty_iff];exact h),if_neg h];lia
def sum_twos{α:Type}{p:α→Bool}:∀l:List α,(l.map λx=>if p x=true then(2:Int) else 0).sum=2*((l.filter p).length:Int):=by
 intro l
 induction l with
 |nil=>rfl
 |cons a t ih =>
  rw[Qj,Yv,ih]
  by_cases h:p a=true
  ·rw[if_pos h,Yx h,Zb];lia
  ·rw[if_neg h,Yy h];lia
def iso_eq{es:List Ent}(nd:(es.map (·.1)).Nodup):zcp es=(es.map (·.1)).filter λx=>(row (rsOf es) x).isEmpty:=by
 unfold zcp
 rw[List.filter_map]
 congr 1
 exact List.filter_congr λe he=>by
  show e.2.1.isEmpty=(row (rsOf es) e.1).isEmpty
  rw[zb6 nd he]
def zgm{es:List Ent}{cs aG:List (List (Str×Str))}{a9:Nr}(C:Cert (es.map (·.1)) (row (rsOf es)) cs a9){zs hd hc:Ni}(hz:zcd (es.map (·.1)) a9 zs)(hh:hd.Perm (zcp es++hc))(jv:aG.Perm cs)(hp:Paired (fun h c=>∃ s∈c,s.1=h) hc aG) :
  2*zs.length+2*(hd.filter λh=>decide (h∈zs)).length=(zs.map λx=>(row (rsOf es) x).length).sum+4:=by
 obtain⟨cC,s,hs,bG⟩:=hz
 have heu:=C.eu s hs
 have p1:((es.map (·.1)).filter λx=>decide (a9 x=a9 s)).Perm zs:=(Wv (Ur Uh C.nd) cC).mpr λy=>by
  rw[Uf,decide_eq_true_iff,bG]
 have e1:wt (es.map (·.1)) (row (rsOf es)) a9 (a9 s)=2*(zs.length:Int)+2*((zs.filter λx=>(row (rsOf es) x).isEmpty).length:Int)-(((zs.map λx=>(row (rsOf es) x).length).sum:Nat):Int):=by
  unfold wt
  have:=sum_filter (p:=λx=>decide (a9 x=a9 s)) (f:=λx=>(2:Int)+(if row (rsOf es) x=[] then 2 else 0)-((row (rsOf es) x).length:Int)) (es.map (·.1))
  simp only[decide_eq_true_eq]at this
  rw[this,zij (p1.map _),sum_parts]
 have e2:ct cs a9 (a9 s)=2*((cs.filter λc=>c.any λu=>decide (a9 u.1=a9 s)).length:Int):=sum_twos _
 have e3:(hd.filter λh=>decide (h∈zs)).length=((zcp es).filter λh=>decide (h∈zs)).length+(hc.filter λh=>decide (h∈zs)).length:=by
  rw[(hh.filter _).length_eq,Uq,Ql]
 have e4:((zcp es).filter λh=>decide (h∈zs)).length=(zs.filter λx=>(row (rsOf es) x).isEmpty).length:=by
  refine List.Perm.length_eq ((Wv ?_ (Ur Uh cC)).mpr λy=>?_)
  ·rw [iso_eq C.nd]
   exact Ur Uh (Ur Uh C.nd)
  ·rw [iso_eq C.nd,Uf,Uf,Uf,decide_eq_true_iff]
   exact⟨λ⟨⟨_,a⟩,b⟩=>⟨b,a⟩,λ⟨a,b⟩=>⟨⟨((bG y).mp a).1,b⟩,a⟩⟩
 have e5:(hc.filter λh=>decide (h∈zs)).length=(aG.filter λc=>c.any λu=>decide (a9 u.1=a9 s)).length:=by
  have aA:∀c∈aG,c∈cs:=λc h=>jv.mem_iff.mp h
  clear jv e3 e4 hh
  induction hp with
  |nil=>rfl
  | cons h t ih =>
   rename_i h0 c0 _ _
   have iht:=ih λc hc=>aA c (Qg _ hc)
   obtain⟨u,hu,rfl⟩:=h
   have i5:=aA c0 Qd
   have hun:u.1∈es.map (·.1):=C.inn' (C.inc i5 hu)
   by_cases hz:u.1∈zs
   ·have hl:=((bG _).mp hz).2
    have jB:(c0.any λu=>decide (a9 u.1=a9 s))=true:=Wa.mpr ⟨u,hu,decide_eq_true hl⟩
    rw[Yx (by simpa using hz),Yx (p:=λc:List (Str×Str)=>c.any λu=>decide (a9 u.1=a9 s)) jB,Zb,Zb,iht]
   ·rw [Yy (by simpa using hz),Yy,iht]
    intro q
    obtain⟨v,hv,e⟩:=Wa.mp q
    exact hz ((bG _).mpr ⟨hun,(C.one_lab i5 hv hu).trans (of_decide_eq_true e)⟩)
 have e6:=(jv.filter λc=>c.any λu=>decide (a9 u.1=a9 s)).length_eq
 lia
def zis(hK:X.K=K):IxR X (rIxL K):=hK▸zau
def zfh(hK:X.K=K):OpR X (compareOp .In) (rIn K false):=hK▸op_in_seq
def ze5(hK:X.K=K):zce X (.builtin "len") (λxs H Q=>Ex2 λp ys=>Aj3 (xs=[.ref p]) (SqL K H p ys∨SqT K H p ys) (Q (.int ys.length) H)):=hK▸zan
abbrev zhg:Stmt:=top 20
inductive IspFlat(vs:List V)(H:Hp)(Q:VK):Prop
 |mk (d:Nc) (es:List Ent) (cs:List (List (Str×Str))) (a9:Nr) (h0:vs=[.ref d]) (h1:TAt H d es) (h2:es.length≤60) (h3:(∀e∈es,e.2.1.length≤100)) (h4:Cert (es.map (·.1)) (row (rsOf es)) cs a9) (h5:∀H',Keep [] H H'→Q .non H'):IspFlat vs H Q
def spFlat:Sp:=λvs H Q _=>IspFlat vs H Q
abbrev csFlA:Scope:=scOf (aOf 0 (aOf 0 (eOf (bAt (sAt zhg 1) 1))))
abbrev csFlB:Scope:=scOf (aOf 0 (eOf (bAt (sAt zhg 1) 2)))
def csFlA_k:csFlA.kind=.function:=by rfl
def csFlA_c:∀y∈csFlA.names,y.2≠.cell:=by decide +kernel
def csFlA_n:∀y∈csFlA.names,y.2=.local→csFlA.names.lookup y.1=some .local:=by decide +kernel
def csFlA_f:∀y∈csFlA.names,y.2=.free→(zag zhg).names.lookup y.1=some .cell∨(zag zhg).names.lookup y.1=some .free:=by decide +kernel
def csFlA_l:csFlA.names.lookup ("rounds" : Str)=some NameKind.free:=by decide +kernel
def csFlB_k:csFlB.kind=.function:=by rfl
def csFlB_c:∀y∈csFlB.names,y.2≠.cell:=by decide +kernel
def csFlB_n:∀y∈csFlB.names,y.2=.local→csFlB.names.lookup y.1=some .local:=by decide +kernel
def csFlB_f:∀y∈csFlB.names,y.2=.free→(zag zhg).names.lookup y.1=some .cell∨(zag zhg).names.lookup y.1=some .free:=by decide +kernel
def csFlB_l:csFlB.names.lookup ("piece" : Str)=some NameKind.free:=by decide +kernel
def ndFB:(["face", "piece"]:List Str).Nodup:=by decide +kernel
def inPc(H:Hp)(zs:Ni):V→Bool
 |.ref a=>match H a with
  |some (.lst (.str h::_))=>decide (h∈zs)
  |_=>false
 |_=>false
def zit(e:zd6 H a h):inPc H zs (.ref a)=decide (h∈zs):=by
 obtain⟨t,e⟩:=e
 show(match H a with | some (.lst (.str h::_))=>decide (h∈zs) | _=>false)=_
 rw[e];rfl
def filt_len(r:Paired (zd6 H) as hd):((as.map V.ref).filter (inPc H zs)).length=(hd.filter λh=>decide (h∈zs)).length:=by
 induction r with
 |nil=>rfl
 |cons h t ih =>
  rename_i a b _ _
  rw[Qj]
  have e:=zit (zs:=zs) h
  by_cases hz:b∈zs
  ·rw[Yx (by rw[e];simpa using hz),Yx (by simpa using hz),Zb,Zb,ih]
  ·rw[Yy (by rw[e];simpa using hz),Yy (by simpa using hz),ih]
def sum_cast(ns:List Nat):(ns.map λn:Nat=>(n:Int)).sum=((ns.sum:Nat):Int):=by
 induction ns with
 |nil=>rfl
 |cons a t ih=>rw[Qj,Yv,Yv,ih];lia
section
variable{P:Nj}{w:Nl}{K:Nb}{mg:Nf}{base:Nn}
def zho:zas ["rounds", "found", "piece", "many_places", "many_ties", "many_faces"] ["rounds"] (zag zhg):=fsk
def ok_flat(F:Fun K "refuse_not_flat" "refuse_not_flat" zhg f fd)(FF:Fun K "faces_of" "faces_of" zeo ff fdf)(bF:Binds K fdf ["rounds"] [])(mF:mg "faces_of" = some (.ref ff))(GF:FnOk P w K mg base CX0 2 ff fdf ["rounds"] spFaces)(FP:Fun K "pieces_of" "pieces_of" zgj fp fdp)(bP:Binds K fdp ["rounds"] [])(mP:mg "pieces_of" = some (.ref fp))(GP:FnOk P w K mg base CX0 2 fp fdp ["rounds"] zh5)(aa:mg "len" = none)(iL:mg "sum" = none):FnOk P w K mg base CX0 3 f fd ["rounds"] spFlat:=by
 refine F.okL zho (λcdv A outer s H vs Q E hr h=>?_)
 obtain⟨d,es,cs,a9,rfl,T,aF,bi,C,k⟩:=h
 have hu:=zct hr
 have aP  := sizeLine_eq
 refine⟨_,zae (zaw 1 zho.nd (zam GF hr rfl mF FF.kp bF .nil za2 (zaa (pv 0) zad)))
  (zah (zbm Zm rfl (zax (zam GP hr rfl mP FP.kp bP .nil za2 (zaa (pv 0) zad))) (pg_name (i:=2) zho.nd rfl (Or.inr rfl))
   (zae (zaw 3 zho.nd (zaj zan (by rfl) aa Zu (zaa (pv 2) zad)))
   (zae (zaw 4 zho.nd (zat zfi (zaj (call_sum rfl) (by rfl) iL PyProof.Rows.boot_sum (zaa (zfx (M:=["place", "rounds"]) (ix:=[none,some 0]) ⟨csFlA_k,csFlA_c,csFlA_n,csFlA_f,rfl,by decide +kernel,λj i x h1 h2=>by
      match j,h1,h2 with
      |0,_,h2=>cases h2
      |1,h1,h2=>cases h1;cases h2;exact⟨rfl,csFlA_l⟩
      |n+2,h1,_=>cases h1⟩ rfl (zax (pv 2)) (λC a6 ex s H=>za8 0 ndF) (λC a6 ex s H=>zca)
      (λC a6 ex s H=>zaj (ze5 (K:=K) rfl) (by rfl) (by exact aa) Zu (zaa (zgn (by exact hu) (pv 1) (pv 0)) zad))) zad)) zai))
   (zae (zaw 5 zho.nd (zaj zan (by rfl) aa Zu (zaa (zfx (M:=["face", "piece"]) (ix:=[none,some 2]) ⟨csFlB_k,csFlB_c,csFlB_n,csFlB_f,rfl,by decide +kernel,λj i x h1 h2=>by
      match j,h1,h2 with
      |0,_,h2=>cases h2
      |1,h1,h2=>cases h1;cases h2;exact⟨rfl,csFlB_l⟩
      |n+2,h1,_=>cases h1⟩ rfl (zax (pv 1)) (λC a6 ex s H=>za8 0 ndFB)
      (λC a6 ex s H=>zig (za4 (zfh (K:=K) rfl) (za7 (zis (K:=K) rfl) (pv 0) zai (λ_ _=>rfl)) (pv 1) rfl)) (λC a6 ex s H=>pv 0)) zad)))
   (zah (zc2 (za4 op_ne (zat zbo (pv 3) (pv 5)) (zat zbo (pv 4) zai) (zb8 _)) (zah ps_no) zbk)))))))  ,?_⟩
 refine⟨_,rfl,d,es,cs,a9,rfl,T,aF,bi,C,λfo fas hd hc aG H1 fj hfal o6 hhp jv cT k1=>?_⟩
 have T1:TAt H1 d es:=T.keep k1 (by simp) (λ_ _=>by simp)
 refine⟨_,rfl,d,es,cs,a9,rfl,T1,aF,C,λl as zss H2 ak bv du _ _ _ k2=>?_⟩
 have T2:TAt H2 d es:=T1.keep k2 (by simp) (λ_ _=>by simp)
 have jm:=k2 _ _ fj (by simp)
 have qU:Paired (zd6 H2) fas hd:=zfl (D:=d) (g:=d) k2 o6 (λ_ _ _ _=>by simp)
 refine⟨l,rfl,⟨_,SqL.of ak⟩,zbq (xs:=as.map V.ref) (λi σ H'=>Aj2 (Keep [] H2 H') (Ex4 λx2 x3 x4 x5=>σ=[some (.ref d),some (.ref fo),x2,x3,x4,x5])) ⟨Keep.refl,_,_,_,_,rfl⟩ (λi σ H' _ hh=>SqL.of (hh.1 _ _ ak (by simp))) ?_ ?_⟩
 ·rintro i y σ H3 hx ⟨k3,x2,x3,x4,x5,rfl⟩
  have hi:i<as.length:=by
   have:=(Zg.mp hx).1
   rwa[Qa]at this
  have iD:y=.ref as[i]:=by
   rw[Qu,Qc hi]at hx
   exact(Qt hx).symm
  subst iD
  obtain⟨aE,cX⟩:=zap bv hi
  have gT:=du _ (Qn aE)
  have cU:=zgm C gT hhp jv cT
  generalize zss[i]=zs at cX gT cU
  have gG:H3 as[i]=some (.lst (zs.map V.str)):=k3 _ _ cX (by simp)
  have dh:∀z∈zs,∃e∈es,e.1=z:=λz hz=>by
   obtain⟨_,s,_,hm⟩:=gT
   exact Qk.mp ((hm z).mp hz).1
  have dS:zs.length≤100:=by
   have:=zcf gT.1 (m:=es.map (·.1)) λz hz=>by
    obtain⟨e,he,rfl⟩:=dh z hz
    exact Qk.mpr ⟨e,he,rfl⟩
   rw[Qa]at this
   omega
  refine⟨_,rfl,as[i],_,rfl,.inl (SqL.of gG),?_⟩
  have T3:TAt H3 d es:=T2.keep k3 (by simp) (λ_ _=>by simp)
  refine⟨_,rfl,as[i],rfl,⟨_,SqL.of gG⟩,lc_at (xs:=zs.map V.str) (λ τ=>∃x0,τ=[x0,some (.ref d)]) ((zs.map λx=>((row (rsOf es) x).length:Int)).map V.int) (by rw[Qa,Qa,Qa]) (SqL.of gG) (by rw[Qa];lia) ⟨none,rfl⟩ ?_ (λD hD=>?_)⟩
  ·rintro j hj jl τ ⟨x0,rfl⟩ kk hk
   rw[Qa]at hj
   rw[Zi]
   obtain⟨en,bz,bK⟩:=dh _ (Qn hj)
   have dg:DGet H3 d (.str zs[j]) (some (.ref en.2.2)):=by
    have:=DGet.k (k:=Sum.inr en.1) T3.dc
    rw[zhl T3.nd bz,bK]at this
    exact this
   refine⟨_,rfl,_,rfl,d,_,rfl,dg,en.2.2,_,rfl,.inr (SqT.of (T3.ro en bz)),?_⟩
   have e:((zs.map λx=>((row (rsOf es) x).length:Int)).map V.int)[j]=V.int ((en.2.1.map V.str).length:Int):=by
    rw[Zi,Zi,←bK,zb6 T3.nd bz,Qa]
   rw[e]at hk
   exact hk _ ⟨_,rfl⟩
  ·have k4:Keep [] H3 (upd H3 D (.lst ((zs.map fun x=>((row (rsOf es) x).length:Int)).map V.int))):=Keep.new hD
   have mE:(upd H3 D (.lst ((zs.map λx=>((row (rsOf es) x).length:Int)).map V.int))) D=some (.lst ((zs.map λx=>((row (rsOf es) x).length:Int)).map V.int)):=zac
   generalize upd H3 D (.lst ((zs.map λx=>((row (rsOf es) x).length:Int)).map V.int))=H4 at k4 mE
   refine⟨D,_,rfl,SqL.of mE,by rw[Qa];lia,λn hn=>?_,?_⟩
   ·obtain ⟨z,hz,rfl⟩:=Qk.mp hn
    obtain⟨en,bz,bK⟩:=dh z hz
    have h1:=bi en bz
    rw[←bK,zb6 T3.nd bz]
    lia
   ·have dX:(zs.map fun x=>((row (rsOf es) x).length:Int)).sum=(((zs.map fun x=>(row (rsOf es) x).length).sum:Nat):Int):=by
     rw[←sum_cast,Zk];rfl
    rw[dX]
    refine⟨_,_,rfl,rfl,⟨by decide,by decide⟩,?_⟩
    have cx:=k4 _ _ (k3 _ _ jm (by simp)) (by simp)
    have rZ:=k4 _ _ gG (by simp)
    have eZ:Paired (zd6 H4) fas hd:=zfl (D:=d) (g:=d) (k3.trans k4) qU (λ_ _ _ _=>by simp)
    refine⟨_,rfl,fo,rfl,⟨_,SqL.of cx⟩,lc_filt (xs:=fas.map V.ref) (λ τ=>∃x0,τ=[x0,some (.ref as[i])]) (inPc H4 zs) (SqL.of cx) (by rw[Qa];lia) ⟨none,rfl⟩ ?_ (λD2 mG=>?_)⟩
    ·rintro x hx τ ⟨x0,rfl⟩ kk1 kk0 lN lO
     obtain⟨a,ha,rfl⟩:=Qk.mp hx
     obtain⟨j,hj,rfl⟩:=Qx ha
     obtain⟨cc,da⟩:=zap eZ hj
     have aA:=zit (zs:=zs) da
     obtain⟨t,et⟩:=da
     refine⟨_,rfl,fas[j],_,_,_,rfl,rfl,SqL.of et,zav (j:=0) rfl,_,rfl,as[i],_,rfl,.inl (SqL.of rZ),rfl,zcq zs,_,rfl,?_⟩
     cases hb:decide (hd[j]∈zs) with
     |true=>exact zb2 (show inV _ _=true by rw[zef];exact hb) ⟨_,rfl,lN (aA.trans hb) _ ⟨_,rfl⟩⟩
     |false=>exact zbs (show inV _ _=false by rw[zef];exact hb) (lO (aA.trans hb) _ ⟨_,rfl⟩)
    ·have k5:Keep [] H4 (upd H4 D2 (.lst ((fas.map V.ref).filter (inPc H4 zs)))):=Keep.new mG
     refine⟨D2,_,rfl,.inl (SqL.of zac),?_⟩
     rw[filt_len eZ]
     refine⟨_,rfl,_,rfl,_,_,rfl,rfl,_,rfl,_,_,rfl,rfl,rfl,_,rfl,zbs ?_ ?_⟩
     ·rw [Kf,decide_eq_true_iff]
      refine congrArg V.int ?_
      rw[Qa]
      lia
     ·exact⟨(k3.trans k4).trans k5,_,_,_,_,rfl⟩
 ·rintro σ H3 ⟨k3,x2,x3,x4,x5,rfl⟩
  exact k H3 ((k1.trans k2).trans k3)
end
end K21
end
section
namespace K21
open PySem L2 Wb
abbrev sInit:Stmt:=inClass sWeb 0
abbrev Turned:List Ent→List Ent→Prop:=Paired λt e=>t.1=e.1∧∃k,t.2.1=e.2.1.drop k++e.2.1.take k
inductive IspInit(C:Nc)(vs:List V)(H:Hp)(Q:VK):Prop
 |mk (x dx l:Nc) (as:Nk) (es:List Ent) (cs:List (List (Str×Str))) (a9:Nr) (h0:vs=[.ref x,.ref l]) (h1:H x=some (.ins C dx [])) (h2:RwAt H l as es) (h3:es.length≤40) (h4:(∀e∈es,zdo e.1)) (h5:Cert (es.map (·.1)) (row (rsOf es)) cs a9) (h6:∀(d:Addr) (ts es2:List Ent) (H':Hp),WAt H' C x dx d ts→es2.Perm es→Turned ts es2→Keep [x] H H'→Q .non H'):IspInit C vs H Q
def spInit(C:Nc):Sp:=λvs H Q _=>IspInit C vs H Q
def zb5(h:Turned ts es):ts.map (·.1)=es.map (·.1):=by
 induction h with
 |nil=>rfl
 |cons h t ih=>rw[Qj,Qj,h.1,ih]
def zhm(h:Turned ts es)(ht:t∈ts):∃e∈es,t.1=e.1∧∃k,t.2.1=e.2.1.drop k++e.2.1.take k:=by
 induction h with
 |nil=>cases ht
 | cons h _ ih =>
  rcases Qh.mp ht with z | z
  ·subst z;exact⟨_,Qd,h⟩
  ·obtain ⟨e,he,r⟩:=ih z
   exact⟨e,Qg _ he,r⟩
def zfb(h:Turned ts es2)(hp:es2.Perm es)(nd:(es.map (·.1)).Nodup):∀x,∃k,row (rsOf ts) x=(row (rsOf es) x).drop k++(row (rsOf es) x).take k:=λx=>by
 have fI:(ts.map (·.1)).Nodup:=by rw[zb5 h];exact(hp.map _).nodup_iff.mpr nd
 by_cases hx:x∈ts.map (·.1)
 ·obtain ⟨t,ht,rfl⟩:=Qk.mp hx
  obtain⟨e,he,e1,k,e2⟩:=zhm h ht
  refine⟨k,?_⟩
  rw[zb6 fI ht,e1,zb6 nd (hp.mem_iff.mp he),e2]
 ·refine ⟨0,?_⟩
  have gd:x∉es.map (·.1):=λz=>hx (by rw[zb5 h];exact(hp.map _).mem_iff.mpr z)
  have n1:x∉(rsOf ts).map (·.1):=by unfold rsOf;rw[List.map_map];exact hx
  have n2:x∉(rsOf es).map (·.1):=by unfold rsOf;rw[List.map_map];exact gd
  rw[zfg n1,zfg n2];rfl
abbrev csInit:Scope:=scOf (eOf (sAt sInit 3))
def csInit_k:csInit.kind=.function:=by rfl
def csInit_c:∀y∈csInit.names,y.2≠.cell:=by decide +kernel
def csInit_n:∀y∈csInit.names,y.2=.local→csInit.names.lookup y.1=some .local:=by decide +kernel
def csInit_f:∀y∈csInit.names,y.2=.free→(zag sInit).names.lookup y.1=some .cell∨(zag sInit).names.lookup y.1=some .free:=by decide +kernel
section
variable{P:Nj}{w:Nl}{K:Nb}{mg:Nf}{base:Nn}
def scInit:zas ["self", "rows", "rounds"] ["self", "rows"] (zag sInit):=fsk
def ok_init(F:Fun K "__init__" "Web.__init__" sInit f fd)(cW:Cls K C)(nW:ze7 K C "rounds")(FN:Fun K "refuse_no_names" "refuse_no_names" zf5 fn fdn)(bN:Binds K fdn ["rows"] [])(mN:mg "refuse_no_names" = some (.ref fn))(GN:FnOk P w K mg base CX0 2 fn fdn ["rows"] spNoNames)(FT:Fun K "refuse_twice" "refuse_twice" zd2 ft fdt)(bT:Binds K fdt ["rows"] [])(mT:mg "refuse_twice" = some (.ref ft))(GT:FnOk P w K mg base CX0 1 ft fdt ["rows"] spTwice)(FO:Fun K "refuse_one_way" "refuse_one_way" zic fo fdo)(bO:Binds K fdo ["rows"] [])(mO:mg "refuse_one_way" = some (.ref fo))(GO:FnOk P w K mg base CX0 1 fo fdo ["rows"] spOneWay)(FL:Fun K "from_least" "from_least" sLeast fl fdl)(bL:Binds K fdl ["around"] [])(mL:mg "from_least" = some (.ref fl))(GL:FnOk P w K mg base CX0 1 fl fdl ["around"] spLeast)(FF:Fun K "refuse_not_flat" "refuse_not_flat" zhg ff fdf)(bF:Binds K fdf ["rounds"] [])(mF:mg "refuse_not_flat" = some (.ref ff))(GF:FnOk P w K mg base CX0 3 ff fdf ["rounds"] spFlat)(aD:mg "sorted" = none):FnOk P w K mg base CX0 4 f fd ["self", "rows"] (spInit C):=by
 refine F.okL scInit (λcdv A outer s H vs Q E hr h=>?_)
 obtain⟨x,dx,l,as,es,cs,a9,rfl,hx,R,aF,hok,Ct,k⟩:=h
 have hu:=zct hr
 have aW:Room 1 _:=hr.mono (by decide)
 have dM:Room 2 _:=hr.mono (by decide)
 have aP  := sizeLine_eq
 refine⟨_,zae (zay (zam GN dM rfl mN FN.kp bN .nil za2 (zaa (pv 1) zad)))
  (zae (zay (zam GT aW rfl mT FT.kp bT .nil za2 (zaa (pv 1) zad)))
  (zae (zay (zam GO aW rfl mO FO.kp bO .nil za2 (zaa (pv 1) zad)))
  (zae (ps_dc (i:=2) (M:=["place", "around"]) (ix:=[none,none]) scInit.nd rfl rfl (noB (n:=2) csInit_k csInit_c csInit_n csInit_f rfl ndPA) rfl
    (zax (zaj zfy (by rfl) aD Yu (zaa (pv 1) zad)))
    (λC a6 ex s H=>zii (K:=K) (n:=2) rfl rfl (zbb (za8 0 ndPA) (zbb (za8 1 ndPA) zdf)))
    (λC a6 ex s H=>zca) (λC a6 ex s H=>pv 0) (λC a6 ex s H=>zam GL (by exact aW) rfl (by exact mL) FL.kp bL .nil za2 (zaa (pv 1) zad)) rfl)
  (zae (zay (zam GF hr rfl mF FF.kp bF .nil za2 (zaa (pv 2) zad)))
  (zah (ps_fld (pv 0) (pv 2) rfl)))))),?_⟩
 have aZ:(es.map (·.1)).Nodup:=Ct.nd
 have ai:∀e∈es,row (rsOf es) e.1=e.2.1:=λe he=>zb6 aZ he
 have hrn:∀e∈es,e.2.1.Nodup:=λe he=>ai e he▸Ct.rn e.1
 have dY:∀e∈es,∀y∈e.2.1,y∈es.map (·.1):=λe he y hy=>Ct.inn' (x:=e.1) (by rw[ai e he];exact hy)
 have bi:∀e∈es,e.2.1.length≤40:=λe he=>by
  have:=zcf (hrn e he) (dY e he)
  rw[Qa]at this
  exact Zj ‹_› ‹_›
 refine⟨_,rfl,l,as,es,rfl,R,λe he=>⟨Zj (bi e he) (by decide),hok e he,λy hy=>?_⟩,λH1 k1=>?_⟩
 ·obtain ⟨e',cS,rfl⟩:=Qk.mp (dY e he y hy)
  exact hok e' cS
 have R1:=R.keep k1
 refine⟨_,rfl,l,as,es,rfl,R1,by lia,aZ,λe he=>⟨Zj (bi e he) (by decide),hrn e he⟩,λH2 k2=>?_⟩
 have R2:=R1.keep k2
 refine⟨_,rfl,l,as,es,rfl,R2,aZ,λe he=>⟨?_,λy hy=>?_⟩,λH3 k3=>?_⟩
 ·rw[←ai e he];exact Ct.ir e.1
 ·obtain ⟨e',cS,d0⟩:=Qk.mp (dY e he y hy)
  have l8:e'.1=y:=d0
  refine⟨e',cS,l8,?_⟩
  rw[←ai e' cS,l8]
  exact Ct.sy e.1 y (by rw[ai e he];exact hy)
 have R3:=R2.keep k3
 have k03:Keep [] H H3:=(k1.trans k2).trans k3
 have bY:as.length=es.length:=Zx R3.ts
 refine⟨_,rfl,l,_,rfl,SqL.of R3.ls,λv hv=>?_,λv hv u hu e=>?_,λl2 wsV ak ae aj=>?_⟩
 ·obtain ⟨a,ha,rfl⟩:=Qk.mp hv
  obtain⟨i,hi,rfl⟩:=Qx ha
  obtain⟨aE,h⟩:=zap R3.ts hi
  exact⟨_,_,_,rfl,h⟩
 ·obtain ⟨a,ha,rfl⟩:=Qk.mp hv
  obtain⟨b,hb,rfl⟩:=Qk.mp hu
  obtain⟨i,hi,rfl⟩:=Qx ha
  obtain⟨j,hj,rfl⟩:=Qx hb
  obtain⟨aE,h1⟩:=zap R3.ts hi
  obtain⟨cc,h2⟩:=zap R3.ts hj
  rw[zep h1,zep h2]at e
  have e':es[i].1=es[j].1:=by
   have q:es[i].1.cps.toList=es[j].1.cps.toList:=e
   generalize es[i].1=a1 at q ⊢
   generalize es[j].1=a2 at q ⊢
   cases a1;cases a2
   congr 1
   exact Xv.mp q
  have e2:(es.map (·.1))[i]'(by rw[Qa];exact aE)=(es.map (·.1))[j]'(by rw[Qa];exact cc):=by rw[Zi,Zi];exact e'
  have:=(Wq aZ).mp e2
  subst this
  rfl
 ·obtain ⟨aK,rfl,aL⟩:=zgk ae
  obtain⟨es2,dr,pI⟩:=zcm aL R3.ts
  have k4:Keep [] H3 (upd H3 l2 (.lst (aK.map V.ref))):=Keep.new ak
  have gr:(upd H3 l2 (.lst (aK.map V.ref))) l2=some (.lst (aK.map V.ref)):=zac
  generalize upd H3 l2 (.lst (aK.map V.ref))=H4 at k4 gr
  have lm:Paired (λa (e:Ent)=>H4 a=some (.tup [.str e.1,.ref e.2.2])) aK es2:=Paired.imp' (λ_ _ h=>k4 _ _ h (by simp)) pI
  have pZ:∀e∈es2,H4 e.2.2=some (.lst (e.2.1.map V.str)):=λe he=>k4 _ _ (R3.ro e (dr.mem_iff.mp he)) (by simp)
  have lI:(es2.map (·.1)).Nodup:=(dr.map _).nodup_iff.mpr aZ
  have jC:aK.length=es2.length:=Zx lm
  have hel2:es2.length=es.length:=dr.length_eq
  refine⟨l2,rfl,⟨_,SqL.of gr⟩,λi m ys τ H'=>Aj5 (m=es2.length-i) (i≤es2.length) (Ex2 λx0 x1=>τ=[x0,x1]) (Keep [] H4 H') (Ex1 λ(ts:List Ent)=>Aj3 (ys=(ts.map λe=>((Sum.inr e.1:Key),V.ref e.2.2))) (∀e∈ts,H' e.2.2=some (.tup (e.2.1.map V.str))) (Turned ts (es2.take i))),
   ⟨es2.length,rfl,Zn _,⟨none,none,rfl⟩,Keep.refl,[],rfl,λe he=>(by cases he),.nil⟩,?_⟩
  rintro i m ys τ H5 ⟨rfl,hi,⟨x0,x1,rfl⟩,k5,ts,rfl,lp,iJ⟩
  by_cases ad:i<es2.length
  ·have jV:=zb5 iJ
   have jU:ts.length≤i:=by
    have:=congrArg List.length jV
    rw[Qa,Qa,Zf]at this
    lia
   refine .inr ⟨⟨_,.ref aK[i],SqL.of (k5 _ _ gr (by simp)),by rw[Qu,Qc (by exact zar6 ‹_› ‹_›)];rfl⟩,by rw[Qa];lia,?_⟩
   rintro v H6 ⟨rfl,hv⟩
   have dI:=hv _ (SqL.of (k5 _ _ gr (by simp)))
   rw[Qu,Qc (by exact zar6 ‹_› ‹_›)]at dI
   obtain rfl:V.ref aK[i]=v:=Qt dI
   obtain⟨aE,cX⟩:=zap lm (by exact zar6 ‹_› ‹_›:i<aK.length)
   have dB:es2[i]∈es2:=Qn ad
   have cL:=k5 _ _ (pZ _ dB) (by simp)
   have lH:es2[i].1∉ts.map (·.1):=by
    rw[jV]
    have h1:(es2.map (·.1)).take (i+1)=(es2.map (·.1)).take i++[es2[i].1]:=by
     rw[Qo (by rw[Qa];exact ad),Zi]
    have h2:((es2.map (·.1)).take (i+1)).Nodup:=Ur (Jp _ _) lI
    rw[h1,Ze,←Uw]at h2
    exact λz=>h2.2.2 _ z _ (Qb.mpr rfl) rfl
   refine⟨aK[i],_,rfl,SqT.of (k5 _ _ cX (by simp)),rfl,_,_,rfl,_,_,rfl,rfl,_,rfl,_,rfl,es2[i].2.2,es2[i].2.1,rfl,cL,Zj (bi _ (dr.mem_iff.mp dB)) (by decide),λt j H7 hj nK htfr k7=>?_⟩
   refine⟨Sum.inr es2[i].1,rfl,es2.length-(i+1),by exact zar1 ‹_›,rfl,ad,⟨_,_,rfl⟩,k5.trans k7,ts++[(es2[i].1,es2[i].2.1.drop j++es2[i].2.1.take j,t)],put_new (r:=es2[i].2.1.drop j++es2[i].2.1.take j) lH,λe he=>?_,?_⟩
   ·rcases Qe.mp he with z | z
    ·exact k7 _ _ (lp e z) (by simp)
    ·rw[Qb.mp z];exact nK
   ·rw [Qo ad]
    exact zao iJ (.cons ⟨rfl,j,rfl⟩ .nil)
  ·have lR:i=es2.length:=by exact zar3 ‹_› ‹_›
   subst lR
   rw[Qv (Qf _)]at iJ
   refine .inl ⟨⟨_,SqL.of (k5 _ _ gr (by simp)),by rw[Qa,jC];exact Qf _⟩,λd hd=>?_⟩
   have k6:Keep [] H5 (upd H5 d (.dK (ts.map λe=>((Sum.inr e.1:Key),V.ref e.2.2)))):=Keep.new hd
   have hd6:(upd H5 d (.dK (ts.map λe=>((Sum.inr e.1:Key),V.ref e.2.2)))) d=some (.dK (ts.map λe=>((Sum.inr e.1:Key),V.ref e.2.2))):=zac
   generalize upd H5 d (.dK (ts.map λe=>((Sum.inr e.1:Key),V.ref e.2.2)))=H6 at k6 hd6
   have jV:=zb5 iJ
   have T6:TAt H6 d ts:=⟨hd6,λe he=>k6 _ _ (lp e he) (by simp),by rw[jV];exact lI⟩
   have jU:ts.length=es.length:=by
    have:=congrArg List.length jV
    rw[Qa,Qa,dr.length_eq]at this
    exact this
   have C6:Cert (ts.map (·.1)) (row (rsOf ts)) cs a9:=ze4 Ct (by rw[jV];exact dr.map _) (zfb iJ dr aZ)
   refine⟨_,rfl,d,ts,cs,a9,rfl,T6,by lia,λe he=>?_,C6,λH7 k7=>?_⟩
   ·obtain ⟨e',cS,_,kk,e2⟩:=zhm iJ he
    rw[e2,(zie _ kk).length_eq]
    exact Zj (bi e' (dr.mem_iff.mp cS)) (by decide)
   ·have k07:Keep [] H H7:=(((k03.trans k4).trans k5).trans k6).trans k7
    have px:=k07 _ _ hx (by simp)
    have T7:TAt H7 d ts:=T6.keep k7 (by simp) (λ_ _=>by simp)
    have nxd:d≠x:=za3 T7.dc px (by intro z;cases z)
    refine⟨_,rfl,_,rfl,x,C,dx,[],rfl,px,cW,nW,(by decide),?_⟩
    refine k d ts es2 _ ⟨zac,T7.keep (xs:=[x]) (Keep.wr (by simp)) (by simpa using nxd) λe he=>by simpa using za3 (T7.ro e he) px (by intro z;cases z)⟩ dr iJ ((k07.sub (by simp)).trans (Keep.wr (by simp)))
end
def zgp:∀{as:List α} {bs:List β} (n:Nat),Paired R as bs→Paired R (as.take n) (bs.take n):=by
 intro as bs n r
 induction r generalizing n with
 |nil=>rw[List.take_nil,List.take_nil];exact .nil
 |cons h t ih =>
  cases n with
  |zero=>exact .nil
  |succ k=>exact .cons h (ih k)
def zgq:∀{as:List α} {bs:List β} (n:Nat),Paired R as bs→Paired R (as.drop n) (bs.drop n):=by
 intro as bs n r
 induction r generalizing n with
 |nil=>rw[List.drop_nil,List.drop_nil];exact .nil
 |cons h t ih =>
  cases n with
  |zero=>exact .cons h t
  |succ k=>exact ih k
section
variable{P:Nj}{w:Nl}{K:Nb}{mg:Nf}{base:Nn}
end
end K21
end
section
namespace L2
open PySem PySem.Spec PyProof.Rows
section
variable{X:Cx}
end
end L2
end
section
namespace Wb
section
variable{α:Type}[DecidableEq α]
variable{ns:List α}{r r':α→List α}{cs:List (List (α×α))}
end
section
variable{α:Type}[DecidableEq α]{ns:List α}{r r':α→List α}{cs:List (List (α×α))}
end
section
variable{α:Type}[DecidableEq α]{ns:List α}{r r':α→List α}{cs:List (List (α×α))}
end
section
variable{α:Type}[DecidableEq α]{ns:List α}{r r':α→List α}{cs:List (List (α×α))}
end
section
variable{α:Type}[DecidableEq α]{ns:List α}{r r':α→List α}{cs:List (List (α×α))}{a9:α→α}
end
end Wb
end
section
namespace HT
open PySem PyProof.Rows
section
open PySem.SeqAt
open PySem.AutoSeq1 (wpAny_loadPart')
open PySem.MeetsSeq PySem.MeetsSeq2 PySem.MeetsSeq3
end
section
variable{prog:Nj}{w:Nl}{A:Nm}{E:Na}{s:Ng}
end
end HT
namespace PySem
section
variable{prog:Nj}{w:Nl}{A:Nm}{R:Nv}{I:Nc}{fp wr:Nk}{n:Nat}{P:Nat→Value→Prop}{St:Nat→Heap→Prop}
end
section
variable{prog:Nj}{w:Nl}{A:Nm}{E:Na}{s:Ng}
end
end PySem
end
section
namespace L2
open PySem PySem.Spec PyProof.Rows
section
variable{X:Cx}
end
section
variable{X:Cx}{a6:Nd}{σ:St}{H:Hp}{s:Ng}
end
end L2
end
section
namespace Wb
section
variable{α β:Type}[DecidableEq α][DecidableEq β]{ns:List α}{r:α→List α}{cs:List (List (α×α))}{f:α→β}
theorem idx_map(hf:∀x y,f x=f y→x=y)(w:α):∀zs:List α,(zs.map f).idxOf (f w)=zs.idxOf w
 |[]=>rfl
 |a::t=>by
  rw[Qj,Xz,Xz,idx_map hf w t]
  by_cases h:a=w
  ·rw[h,beq_self_eq_true,beq_self_eq_true]
  ·rw[beq_eq_false_iff_ne.mpr h,beq_eq_false_iff_ne.mpr λe=>h (hf _ _ e)]
def nxt_map(hf:∀x y,f x=f y→x=y)(zs:List α)(w:α):nxt (zs.map f) (f w)=f (nxt zs w):=by
 unfold nxt
 rw[idx_map hf,Qa,Qw,Qw,Qu]
 cases zs[(zs.idxOf w+1)%zs.length]?<;>rfl
def lk_map{γ δ:Type}{F:γ→γ}{G:δ→δ}{g:γ→δ}{e:γ}:∀{t:List γ} {s:γ},(∀y,y=s∨y∈t→G (g y)=g (F y))→Lk F s t e→Lk G (g s) (t.map g) (g e):=by
 intro t
 induction t with
 |nil=>intro s h k;exact(h s (.inl rfl)).trans (congrArg g k)
 |cons a t ih =>
  intro s h k
  exact⟨(h s (.inl rfl)).trans (congrArg g k.1),ih (λy hy=>h y (.inr (Qh.mpr hy))) k.2⟩
end
end Wb
end
section
namespace L2
open PySem PySem.Spec PyProof.Rows
section
variable{M:Model}{A:Nm}{E:Na}{s:Ng}{B:Nn}{env:Env}{outer:List Env}{L e:Nc}{cls a0:Value}{R:Obj→Prop}{Q:Unit→Shared→Prop}
end
section
variable{P:Nj}{w:Nl}{K:Nb}{mg:Nf}{base:Nn}{N ps:Ni}{qual:Str}{scope:Scope}{f:Nc}{cd:Value}{A:Nm}{outer:List Env}{s:Ng}{H:Hp}{E:XK}
end
section
variable{P:Nj}{w:Nl}{K:Nb}{mg:Nf}{base:Nn}{N ps:Ni}{qual:Str}{scope:Scope}{f:Nc}{cd:Value}{A:Nm}{outer:List Env}{s:Ng}{H:Hp}{E:XK}
end
section
variable{X:Cx}{CX:CXT}{k:Nat}{f C:Nc}{fd:Nt}{ps:Ni}{sp:Sp}{dvs:List V}{ds:Nh}{E:St→XK}{x m:Str}{p pos apos:Pos}{e o:Expr}{es:Nq}{ta:TE}{t:TA}
end
section
variable{X:Cx}{a6:Nd}{σ:St}{H:Hp}{s:Ng}{E:Na}{a:Nc}
end
end L2
end
section
namespace L2
open PySem PySem.Spec PyProof.Rows PySem.W PySem.Builtin PySem.Builtin.ObjectAttr PySem.Builtin.Getset_descriptor
section
variable{prog:Nj}{w:Nl}{A:Nm}{E:Na}{s:Ng}{K:Nb}{x D:Nc}
end
section
variable{X:Cx}
end
section
variable{X:Cx}{k:Nat}{f:Nc}{fd:Nt}{ps:Ni}{sp:Sp}{dvs:List V}{ds:Nh}{x:Str}{p pos:Pos}{e:Expr}{es:Nq}{t:TA}
end
end L2
end
section
namespace L2
open PySem PySem.Spec PyProof.Rows
section
variable{X:Cx}
end
section
variable{X:Cx}
def ze6:zce X (.builtin "isinstance") (λxs H Q=>Ex2 λ(a:Nc) (ys:List V)=>Aj3 (xs=[.ref a,.ty "list"]) (SqL X.K H a ys) (Q (.bl true) H)):=by
 intro a6 s σ H xs us Q I r h
 obtain⟨a,ys,rfl,hq,q⟩:=h
 obtain⟨u,w',rfl,e1,e⟩:=vals2 r
 have e':w'=Value.type "list" := e
 subst e'
 cases e1
 obtain⟨a8,rv,pl,_⟩:=I.list hq
 obtain⟨o,ho,hc,_⟩:=pl.isList
 exact IsiPair.list_list ho hc ⟨.bl true,H,I,rfl,q⟩
end
section
variable{X:Cx}{K:Nb}{o e tg l:Expr}{es:Nq}{to tl:TE}{t:TA}{name:Str}{apos cpos:Pos}{T id:String}{r:V→List V→Hp→VK→Prop}
end
section
variable{X:Cx}{CX:CXT}{k:Nat}{f C:Nc}{fd:Nt}{ps:Ni}{sp:Sp}{dvs:List V}{ds:Nh}{E:St→XK}{m:Str}{pos apos:Pos}{e o:Expr}{es:Nq}{ta:TE}{t:TA}
end
def SameN(H:Hp):Nat→V→V→Prop
 |0,x,y=>zdp x=true∧x=y
 |n+1,x,y=>(zdp x=true∧x=y)∨∃a b xs ys,x=.ref a∧y=.ref b∧a≠b∧((H a=some (.lst xs)∧H b=some (.lst ys))∨(H a=some (.tup xs)∧H b=some (.tup ys)))∧Paired (SameN H n) xs ys
def paired_get{α β:Type}{R:α→β→Prop}{as:List α}{bs:List β}(r:Paired R as bs):∀(j:Nat) (h1:j<as.length) (h2:j<bs.length),R as[j] bs[j]:=by
 induction r with
 |nil=>intro j h1;cases h1
 |cons h t ih =>
  intro j h1 h2
  cases j with
  |zero=>exact h
  |succ j=>exact ih j (Nat.lt_of_succ_lt_succ h1) (Nat.lt_of_succ_lt_succ h2)
section
variable{X:Cx}{a6:Nd}{σ:St}{H:Hp}{s:Ng}
def zfk{R:V→V→Prop}{A:Nm}{xs ys:List V}{a8 ax:Nh}(r:Vals xs a8)(r2:Vals ys ax)(pr:Paired R xs ys)(h:∀x y u v,R x y→RelV x u→RelV y v→SeqAt.EqAt A s u v true) :
  ∀j (h1:j<a8.toArray.size) (h2:j<ax.toArray.size),SeqAt.EqAt A s a8.toArray[j] ax.toArray[j] true:=by
 intro j h1 h2
 rw[Qq]at h1 h2
 have a1:j<xs.length:=by rw[r.length];exact h1
 have a2:j<ys.length:=by rw[r2.length];exact h2
 obtain⟨u1,e1,q1⟩:=r.get (Qc a1)
 obtain⟨u2,e2,q2⟩:=r2.get (Qc a2)
 rw[Kv,Kv,(Zg.mp e1).2,(Zg.mp e2).2]
 exact h _ _ _ _ (paired_get pr j a1 a2) q1 q2
def same_at(I:Inv X a6 σ H s):∀ (n:Nat) (A:Nm) (x y:V) (u v:Value),SameN H n x y→RelV x u→RelV y v→A.units+n < cLine→SeqAt.EqAt A s u v true:=by
 have fl:∀(A:Nm) (x y:V) (u v:Value),zdp x=true∧x=y→RelV x u→RelV y v→SeqAt.EqAt A s u v true:=λA x y u v ⟨f,e⟩ rx ry=>by
  subst e
  have:=eqAt_V (A:=A) (s:=s) rx ry f f
  rw[eqV_self f]at this
  exact this
 intro n
 induction n with
 |zero=>intro A x y u v h rx ry _;exact fl A x y u v h rx ry
 | succ n ih =>
  intro A x y u v h rx ry hu
  rcases h with h | ⟨a,b,xs,ys,rfl,rfl,ne,hc,pr⟩
  ·exact fl A x y u v h rx ry
  ·cases rx;cases ry
   have dJ:A.in1.units+n<cLine:=by
    have:A.in1.units=A.units+1:=rfl
    omega
   have hu0:A.units<cLine:=by omega
   have hl:=Zx pr
   refine SeqAt.EqAt.of_refs ne ?_
   rcases hc with⟨h1,h2⟩ | ⟨h1,h2⟩
   ·obtain ⟨a8,r,pl,_⟩:=I.list (X:=X) (SqL.of h1)
    obtain⟨ax,r2,gK,_⟩:=I.list (X:=X) (SqL.of h2)
    have l1:=r.length
    have l2:=r2.length
    have:=SeqAt.RcAt.lists (A:=A) (s:=s) (e:=λ_=>true) pl.isList gK.isList (by rw[Qq,Qq];omega) hu0 (zfk r r2 pr λx y u v q1 q2 q3=>ih A.in1 x y u v q1 q2 q3 dJ)
    rw[show(List.range a8.toArray.size).all (λ_=>true)=true by simp]at this
    exact this
   ·obtain ⟨a8,r,pl,_⟩:=I.tuple (X:=X) (SqT.of h1)
    obtain⟨ax,r2,gK,_⟩:=I.tuple (X:=X) (SqT.of h2)
    have l1:=r.length
    have l2:=r2.length
    have:=SeqAt.RcAt.tuples (A:=A) (s:=s) (e:=λ_=>true) pl gK hu0 (zfk r r2 pr λx y u v q1 q2 q3=>ih A.in1 x y u v q1 q2 q3 dJ)
    rw[show((List.range (min a8.toArray.size ax.toArray.size)).all (λ_=>true)&&a8.toArray.size==ax.toArray.size)=true by simp;omega]at this
    exact this
def op_ne_deep(hu:X.A.units+4<cLine):OpR X (compareOp .NotEq) (λx y H Q=>Ex4 λa b xs ys=>Aj6 (x=.ref a) (y=.ref b) (H a=some (.lst xs)) (H b=some (.lst ys)) (Paired (SameN H 3) xs ys) (Q (.bl false) H)):=by
 intro a6 s σ H x y v u Q I rx ry h
 obtain⟨a,b,xs,ys,rfl,rfl,h1,h2,pr,q⟩:=h
 cases rx;cases ry
 obtain⟨a8,r,pl,_⟩:=I.list (X:=X) (SqL.of h1)
 obtain⟨ax,r2,gK,_⟩:=I.list (X:=X) (SqL.of h2)
 have l1:=r.length
 have l2:=r2.length
 have hl:=Zx pr
 have dJ:X.A.in1.units+3<cLine:=by
  have:X.A.in1.units=X.A.units+1:=rfl
  omega
 refine SeqAt.RcNeAt.lists (e:=λ_=>true) pl.isList gK.isList (by rw[Qq,Qq];omega) (by omega) (zfk r r2 pr λx y u v q1 q2 q3=>same_at I 3 X.A.in1 x y u v q1 q2 q3 dJ) _ _ _ _ ⟨.bl false,H,I,?_,q⟩
 show Value.bool _=Value.bool false
 simp
end
end L2
end
section
namespace K21
open PySem L2 Wb
abbrev sPot:Stmt:=top 24
abbrev zfs:Stmt:=top 25
abbrev qG:Str := "_law_digit"
inductive IspPot(K:Nb)(vs:List V)(H:Hp)(Q:VK):Prop
 |mk (a:Nc) (ns:List Int) (j:Nat) (h0:vs=[.ref a,.int j]) (h1:SqL K H a (ns.map V.int)) (h2:j≤1000) (h2':ns.length≤1000) (h3:∀(l:Nc) (b m:Int) (H':Hp),H l=none→Pot H' l b m→Keep [] H H'→Q (.ref l) H'):IspPot K vs H Q
def spPot(K:Nb):Sp:=λvs H Q _=>IspPot K vs H Q
def sq_keep(h:SqL K H a xs)(k:Keep [] H H'):SqL K H' a xs:=h.imp (λr=>r.imp (λe=>k _ _ e (by simp)) λ⟨o,e⟩=>⟨o,k _ _ e (by simp)⟩) id
section
variable{P:Nj}{w:Nl}{K:Nb}{mg:Nf}{base:Nn}
def scDigit:zas [qP,qM, "_law_digit_here"] [qP,qM] (zag zfs):=fsk
def ok_digit(F:Fun K qG qG zfs f fd):FnOk P w K mg base CX0 1 f fd [qP,qM] zhn:=by
 refine F.okL scDigit (λcdv A outer s H vs Q E hr h=>?_)
 obtain⟨p,b,m,n,rfl,⟨hp,hb,hm,bg⟩,hn,bd,k⟩:=h
 have i0:atI [V.int b,V.int m] ((0:Nat):Int)=some (.int b):=zav rfl
 have i1:atI [V.int b,V.int m] ((1:Nat):Int)=some (.int m):=zav rfl
 refine⟨_,zae (zc2 (za4 op_gt (za7 zau (pv 0) zai (λ_ _=>rfl)) zai (zb8 _))
  (zae (zaw 2 scDigit.nd (zat zco (za7 zau (pv 0) zai (λ_ _=>rfl)) (pv 1)))
  (zae (ps_asg (zat zfi (za7 zau (pv 0) zai (fun _ _=>rfl)) (pv 1)) (pg_sub (pv 0) zai set_list))
   (zah (zbh (pv 2))))) zbk)
  (zae (ps_asg (zat zco (zat zbo (zat zgr (za7 zau (pv 0) zai (λ_ _=>rfl)) zai) zai) zai) (pg_sub (pv 0) zai set_list))
  (zah (zbh (zat zco (zat zfi (zat zco (zat zgr (za7 zau (pv 0) zai (λ_ _=>rfl)) (za7 zau (pv 0) zai (λ_ _=>rfl))) zai) zai) (pv 1))))),?_⟩
 refine⟨_,rfl,p,_,_,_,rfl,rfl,SqL.of hp,i0,_,_,rfl,rfl,_,rfl,?_⟩
 refine ite2 (λcM=>?_) (λhneg=>?_)
 ·have kr:0 < b:=of_decide_eq_true cM
  refine⟨_,rfl,p,_,_,_,rfl,rfl,SqL.of hp,i0,_,rfl,_,_,rfl,rfl,hn,?_⟩
  refine⟨_,rfl,p,_,_,_,rfl,rfl,SqL.of hp,i0,_,rfl,_,_,rfl,rfl,⟨hn,bd⟩,_,rfl,p,_,0,0,rfl,rfl,hp,rfl,_,rfl,?_⟩
  refine k (b%n) (b/n) m _ (Kz _ (by lia)) (Ke _ hn) ⟨zac,Int.ediv_nonneg hb (by lia),hm,bg⟩ λc o e hc=>?_
  rw[zaf hc]
  exact e
 ·have i1':∀ x:Int,atI [V.int b,V.int x] ((1:Nat):Int)=some (.int x):=fun x=>zav rfl
  have r0:0≤(m*48271+12289)%2147483629:=Kz _ (by decide)
  have r1:(m*48271+12289)%2147483629<2147483629:=Ke _ (by decide)
  refine⟨_,rfl,p,_,_,_,rfl,rfl,SqL.of hp,i1,_,_,rfl,rfl,.inl ⟨by lia,by lia⟩,_,_,rfl,rfl,_,_,rfl,rfl,(by show(0:Int)<2147483629;decide),_,rfl,p,_,1,1,rfl,rfl,hp,rfl,?_⟩
  refine⟨_,rfl,p,_,_,_,rfl,rfl,SqL.of zac,i1' _,_,rfl,p,_,_,_,rfl,rfl,SqL.of zac,i1' _,_,_,rfl,rfl,.inl ⟨by lia,by lia⟩,_,_,rfl,rfl,(by show(0:Int)<2147483587;decide),_,_,rfl,rfl,⟨by decide,by decide⟩,_,rfl,_,_,rfl,rfl,hn,?_⟩
  refine k _ b ((m*48271+12289)%2147483629) _ (Kz _ (by lia)) (Ke _ hn) ⟨zac,hb,r0,by lia⟩ λc o e hc=>?_
  rw[zaf hc]
  exact e
def scPot:zas [qS, "_law_k", "_law_cell"] [qS, "_law_k"] (zag sPot):=fsk
def ok_pot(F:Fun K "_law_pot" "_law_pot" sPot f fd)(aa:mg "len" = none)(eM:mg "min" = none)(ja:mg "max" = none)(bQ:mg "list" = none):FnOk P w K mg base CX0 1 f fd [qS, "_law_k"] (spPot K):=by
 refine F.okL scPot (λcdv A outer s H vs Q E hr h=>?_)
 obtain⟨a,ns,j,rfl,hS,hj,nV,k⟩:=h
 have aP  := sizeLine_eq
 refine⟨_,zae (zaw 2 scPot.nd (za7 zau (zat zd4 (zc6 zfw (by rfl) bQ Kj (zaa (pv 0) zad)) (zbi (zaa zai zad)))
   (zaj (call_min2 rfl) (by rfl) eM Bb (zaa (pv 1) (zaa (zaj zan (by rfl) aa Zu (zaa (pv 0) zad)) zad))) (λ_ _=>rfl)))
  (zah (zbh (zbi (zaa (zaj (call_max2 rfl) (by rfl) ja PyProof.Rows.boot_max (zaa zai (zaa (zat op_sub (pv 2) (zat op_pow zai zai)) zad)))
   (zaa (zat zco (zat zbo (zat zbo (zat zgr (zat zco (pv 2) zai) zai) (zat zgr zai (pv 1))) zai) zai) zad))))),?_⟩
 refine⟨_,rfl,a,_,rfl,.inl hS,λp1 h1=>?_⟩
 refine⟨(by show 1≤sizeLine;decide),λp2 h2=>?_⟩
 have g7:p1≠p2:=zab (o:=_) zac h2
 refine⟨p1,p2,_,_,rfl,rfl,(by rw[zaf g7];exact zac),zac,by rw[Qa];show _+1≤_;omega,λp3 h3=>?_⟩
 have k3:Keep [] H (upd (upd (upd H p1 (.lst (ns.map V.int))) p2 (.lst [.int 0])) p3 (.lst (ns.map V.int++[.int 0]))):=((Keep.new h1).trans (Keep.new h2)).trans (Keep.new h3)
 have S3:=sq_keep hS k3
 have l3:(upd (upd (upd H p1 (.lst (ns.map V.int))) p2 (.lst [.int 0])) p3 (.lst (ns.map V.int++[.int 0]))) p3=some (.lst ((ns++[0]).map V.int)):=by rw[zac,Qs];rfl
 refine⟨_,rfl,_,rfl,a,_,rfl,.inl S3,j,ns.length,by rw[Qa],?_⟩
 generalize upd (upd (upd H p1 (.lst (ns.map V.int))) p2 (.lst [.int 0])) p3 (.lst (ns.map V.int++[.int 0]))=H3 at S3 k3 l3
 obtain⟨i,hi,e⟩:∃i:Nat,i<(ns++[0]).length∧(if(ns.length:Int)<(j:Int) then(ns.length:Int) else(j:Int))=(i:Int):=by
  rw[Ql]
  split
  ·exact⟨ns.length,Wg _,rfl⟩
  ·exact⟨j,by show j<ns.length+1;omega,rfl⟩
 rw[e]
 have g:((ns++[0]).map V.int)[i]?=some (.int (ns++[0])[i]):=by rw[Qu,Qc hi];rfl
 refine⟨p3,_,_,_,rfl,rfl,SqL.of l3,zav g,?_⟩
 generalize(ns++[0])[i]=c
 have q0:0≤c%2147483629:=Kz _ (by decide)
 have q1:c%2147483629<2147483629:=Ke _ (by decide)
 refine⟨_,rfl,_,_,rfl,rfl,⟨by decide,by decide,by decide⟩,_,_,rfl,rfl,_,_,rfl,?_⟩
 refine⟨_,rfl,_,_,rfl,rfl,(by show(0:Int)<2147483629;decide),_,_,rfl,rfl,.inl ⟨by lia,by lia⟩,_,rfl,_,_,rfl,rfl,.inl ⟨by decide,by decide⟩,_,_,rfl,rfl,_,_,rfl,rfl,_,_,rfl,rfl,(by show(0:Int)<2147483629;decide),(by show 2≤sizeLine;decide),λl hl=>?_⟩
 refine k l _ _ _ (zaq k3 hl (by simp)) ⟨zac,?_,Kz _ (by decide),Int.lt_trans (Ke _ (by decide)) (by decide)⟩ (k3.trans (Keep.new hl))
 split
 ·omega
 ·decide
end
end K21
end
section
namespace L2
open PySem PySem.Spec PyProof.Rows
abbrev iV(n:Nat):V:=.int (n:Int)
section
variable{X:Cx}
def op_ne_pairsN(hu:X.A.units<cLine):OpR X (compareOp .NotEq) (λx y H Q=>Ex4 λ(a b:Nc) (q r:Nat×Nat)=>Aj5 (x=.ref a) (y=.ref b) (H a=some (.tup [iV q.1,iV q.2])) (H b=some (.tup [iV r.1,iV r.2])) (Q (.bl (!decide (q=r))) H)):=by
 intro a6 s σ H x y v u Q I rx ry h
 obtain⟨a,b,q,r,rfl,rfl,ha,hb,k⟩:=h
 cases rx;cases ry
 obtain⟨_,a8,r1,p⟩:=I.hok a _ ha
 obtain⟨_,ax,r2,p2⟩:=I.hok b _ hb
 obtain⟨u1,u2,rfl,⟨t1,rfl⟩,⟨t2,rfl⟩⟩:=vals2 r1
 obtain⟨w1,w2,rfl,⟨t3,rfl⟩,⟨t4,rfl⟩⟩:=vals2 r2
 refine SeqAt.RcNeAt.tuples (e:=λj=>if j=0 then(q.1:Int)==(r.1:Int) else(q.2:Int)==(r.2:Int)) p p2 hu (λj j1 j2=>?_) _ _ _ _ ⟨.bl (!decide (q=r)),H,I,?_,k⟩
 ·have iy:j < 2:=by simpa using j1
  match j,iy with
  |0,_=>exact SeqAt.EqAt.int_int (q.1:Int) t1 (r.1:Int) t3
  |1,_=>exact SeqAt.EqAt.int_int (q.2:Int) t2 (r.2:Int) t4
 ·show Value.bool _=Value.bool _
  congr 1
  have:decide (q=r)=(((q.1:Int)==(r.1:Int))&&((q.2:Int)==(r.2:Int))):=by
   rw[Yr]
   simp[Prod.ext_iff]
   omega
  rw[this]
  show(!((List.range 2).all (λj=>if j=0 then(q.1:Int)==(r.1:Int) else(q.2:Int)==(r.2:Int))&&true))=_
  rw[show List.range 2=[0,1] from rfl]
  simp
end
end L2
namespace Wb
section
variable{α:Type}[DecidableEq α]
theorem zg5(rs:Rs α)(s:α×α):∀n,itr rs s (n+1)=itr rs (stp rs s) n
 |0=>rfl
 |n+1=>congrArg (stp rs) (zg5 rs s n)
theorem lk_itr:∀{t:List (α×α)} {s:α×α},Lk (st (row rs)) s t e→run rs s (t.length+1)=s::t∧itr rs s (t.length+1)=e
 |[],s,k=>⟨rfl,k⟩
 |y::t,s,k=>by
  obtain⟨h1,h2⟩:=lk_itr k.2
  have hs:stp rs s=y:=k.1
  refine⟨?_,by rw[Zb,zg5,hs];exact h2⟩
  unfold run at h1 ⊢
  rw[Zb,List.range_succ_eq_map,Qj,Zk,←h1]
  refine congrArg (s::·) (Wz λn _=>?_)
  show itr rs s (n+1)=_
  rw[zg5,hs]
def good_round{rs:Rs α}(h:Good rs){s:α×α}(hs:IsSt rs s):∃L,itr rs s (L+1)=s∧(run rs s (L+1)).Nodup:=by
 obtain⟨cs,a9,C⟩:=h
 obtain⟨c,hc,h⟩:=Yf.mp ((C.cm s).mpr ((zdh C.nd).mp hs))
 obtain⟨A,B,e⟩:=Wf h
 have k:=C.cy c hc
 rw[e]at k
 obtain⟨h1,h2⟩:=lk_itr (zc3 k)
 refine⟨_,h2,?_⟩
 rw[h1]
 have hn:c.Nodup:=(List.pairwise_flatten.mp C.cf).1 c hc
 rw[e]at hn
 have:=(Yw (l₁:=A) (l₂:=s::B)).nodup_iff.mp hn
 exact this
def round_ne{rs:Rs α}{s:α×α}{L n:Nat}(nd:(run rs s (L+1)).Nodup)(h0:0<n)(h:n≤L):itr rs s n≠s:=λe=>by
 unfold run at nd
 have:=(Wq (i:=n) (j:=0) (h₀:=by rw[Qa,Wl];omega) (h₁:=by rw[Qa,Wl];omega) nd).mp (by
  rw[Zi,Zi,Kd,Kd];exact e)
 omega
end
def rsN(rr:List (List Nat)):Rs Nat:=(List.range rr.length).map λk=>(k,rr.getD k [])
def zdu(rr:List (List Nat)):(rsN rr).map (·.1)=List.range rr.length:=by
 unfold rsN
 rw[Zk]
 exact(Wz λ_ _=>rfl).trans (List.map_id _)
def nd_N(rr:List (List Nat)):((rsN rr).map (·.1)).Nodup:=by rw[zdu];exact Xr
def zhi{rr:List (List Nat)}{k:Nat}(h:k<rr.length):(k,rr[k])∈rsN rr:=by
 unfold rsN
 exact Qk.mpr ⟨k,Yp.mpr h,by rw[Qw,Qc h];rfl⟩
def row_N{rr:List (List Nat)}{k:Nat}(h:k<rr.length):row (rsN rr) k=rr[k]:=zft (nd_N rr) (zhi h)
def row_No{rr:List (List Nat)}{k:Nat}(h:¬k<rr.length):row (rsN rr) k=[]:=zfg (by rw[zdu];exact λz=>h (Yp.mp z))
def set_N(rr:List (List Nat))(k:Nat)(r:List Nat):zbg (rsN rr) k r=rsN (rr.set k r):=by
 unfold zbg rsN
 rw[Zk,Ut]
 refine Wz λj hj=>?_
 have jl:=Yp.mp hj
 show(if j=k then(j,r) else(j,rr.getD j []))=(j,(rr.set k r).getD j [])
 rw[Qw,Qw,List.getElem?_set]
 by_cases e:j=k
 ·subst e
  rw[if_pos rfl,if_pos rfl,if_pos jl];rfl
 ·rw[if_neg e,if_neg (Zo e)]
def snoc_N(rr:List (List Nat)):rsN (rr++[[]])=rsN rr++[(rr.length,[])]:=by
 unfold rsN
 rw[Ql,Zb,Jk,Xy,Qs]
 congr 1
 ·refine Wz fun j hj=>?_
  rw[Qw,Qw,Xf (Yp.mp hj)]
 ·show [(rr.length,(rr++[[]]).getD rr.length [])]=_
  rw[Qw,Uo (Qf _),Xw];rfl
end Wb
namespace K21
open PySem L2 Wb
abbrev zff:Stmt:=top 28
abbrev zfe:Stmt:=top 29
structure NAt(H:Hp)(l:Nc)(as:Nk)(rr:List (List Nat)):Prop where
 ls:H l=some (.lst (as.map V.ref))
 ro:Paired (λa r=>H a=some (.lst (r.map iV))) as rr
 nd:as.Nodup
def NAt.len(R:NAt H l as rr):as.length=rr.length:=Zx R.ro
def NAt.row(R:NAt H l as rr){k:Nat}(h:k<as.length)(h':k<rr.length):H as[k]=some (.lst (rr[k].map iV)):=let⟨_,z⟩:=zap R.ro h;z
def NAt.keep(R:NAt H l as rr)(k:Keep xs H H')(hl:l∉xs)(ha:∀a∈as,a∉xs):NAt H' l as rr:=by
 refine⟨k _ _ R.ls hl,?_,R.nd⟩
 have:=R.ro
 clear R
 induction this with
 |nil=>exact .nil
 |cons r t ih=>exact .cons (k _ _ r (ha _ Qd)) (ih λa h=>ha a (Qg _ h))
def NAt.k0(R:NAt H l as rr)(k:Keep [] H H'):NAt H' l as rr:=R.keep k (by simp) λ_ _=>by simp
def NAt.apart(R:NAt H l as rr):l∉as:=λh=>by
 obtain⟨k,hk,e⟩:=Qx h
 have h1:=R.row hk (by rw[←R.len];exact hk)
 rw[e,R.ls]at h1
 have h2:as.map V.ref=(rr[k]'(by rw[←R.len];exact hk)).map iV:=by injection h1 with z;injection z
 cases as with
 |nil=>simp at hk
 |cons a t =>
  generalize(rr[k]'(by rw[←R.len];exact hk))=r at h2
  cases r with
  |nil=>cases h2
  |cons y s=>rw[Qj,Qj]at h2;injection h2 with z1 _;cases z1
def zg9{zs:List Nat}{x:Nat}(h:x∈zs):(∃ z,(zs.map iV)[zs.idxOf x]?=some z∧eqV z (iV x)=true)∧∀ m z,m < zs.idxOf x→(zs.map iV)[m]?=some z→eqV z (iV x)=false:=by
 have ad:zs.idxOf x<zs.length:=Ux.mpr h
 refine⟨⟨iV x,?_,beq_self_eq_true (x:Int)⟩,λm z hm e=>?_⟩
 ·rw[Qu,Qc ad,Xe];rfl
 ·rw [Qu] at e
  have bg:m<zs.length:=Wu hm ad
  rw[Qc bg]at e
  cases e
  show((zs[m]:Int)==(x:Int))=false
  refine beq_eq_false_iff_ne.mpr λq=>?_
  have q:zs[m]=x:=Int.ofNat.inj q
  have aH:∀(l:List Nat) (j:Nat) (hj:j<l.length),l[j]=x→l.idxOf x≤j:=by
   intro l
   induction l with
   |nil=>intro j hj;simp at hj
   | cons a t ih =>
    intro j hj e
    rw[Xz]
    cases j with
    |zero =>
     have e':a=x:=e
     rw[e'];simp
    | succ i =>
     have:=ih i (by simpa using hj) (by simpa using e)
     by_cases h:a=x
     ·rw[h];simp
     ·have hb:(a == x)=false:=beq_eq_false_iff_ne.mpr h
      rw[hb];simp;assumption
  have:=aH zs m bg q
  omega
def ze0(zs:List Nat):(zs.map iV).all zdp=true:=by
 rw[Jv];intro v hv;obtain⟨x,_,rfl⟩:=Qk.mp hv;rfl
inductive IspBehind(vs:List V)(H:Hp)(Q:VK):Prop
 |mk (a:Nc) (zs:List Nat) (x:Nat) (h0:vs=[.ref a,iV x]) (h1:H a=some (.lst (zs.map iV))) (h2:x∈zs) (h3:zs.length≤900) (h4:Q (iV (nxt zs x)) H):IspBehind vs H Q
def spBehind:Sp:=λvs H Q _=>IspBehind vs H Q
abbrev zb0(H:Hp)(as:Nk)(qs:List (Nat×Nat)):Prop:=Paired (λa q=>H a=some (.tup [iV q.1,iV q.2])) as qs
def zb0.keep(r:zb0 H as qs)(k:∀b x y,H b=some (.tup [x,y])→H' b=some (.tup [x,y])):zb0 H' as qs:=Paired.imp' (λa q h=>k _ _ _ h) r
def zb0.snoc(r:zb0 H as qs)(h:H a=some (.tup [iV q.1,iV q.2])):zb0 H (as++[a]) (qs++[q]):=by
 induction r with
 |nil=>exact .cons h .nil
 |cons r t ih=>exact .cons r ih
inductive IspSteps0(vs:List V)(H:Hp)(Q:VK):Prop
 |mk (l:Nc) (as:Nk) (rr:List (List Nat)) (s:Nat×Nat) (h0:vs=[.ref l,iV s.1,iV s.2]) (h1:NAt H l as rr) (h2:IsSt (rsN rr) s) (h3:Good (rsN rr)) (h4:rr.length≤40)
  (h6:∀(t:Nc) (ps:Nk) (n:Nat) (H':Hp),H t=none→H' t=some (.lst (ps.map V.ref))→zb0 H' ps (run (rsN rr) s (n+1))→(run (rsN rr) s (n+1)).Nodup→n+1≤1600→Keep [] H H'→Q (.ref t) H'):IspSteps0 vs H Q
def spSteps0:Sp:=λvs H Q _=>IspSteps0 vs H Q
section
variable{P:Nj}{w:Nl}{K:Nb}{mg:Nf}{base:Nn}
def scBehind:zas ["_law_around", "_law_one"] ["_law_around", "_law_one"] (zag zff):=fsk
def ok_behind(F:Fun K "_law_behind" "_law_behind" zff f fd)(aa:mg "len" = none):FnOk P w K mg base CX0 1 f fd ["_law_around", "_law_one"] spBehind:=by
 refine F.okL scBehind (λcdv A outer s H vs Q E hr h=>?_)
 obtain⟨a,zs,x,rfl,ha,hx,hz,k⟩:=h
 have hu:=zct hr
 refine⟨_,zah (zbh (za7 zau (pv 0) (zat zco (zat zbo (zb7 Qy Ja Uz zeq (pv 0) (zaa (pv 1) zad)) zai)
  (zaj zan (by rfl) aa Zu (zaa (pv 0) zad))) (λ_ _=>rfl))),?_⟩
 obtain⟨i1,i2⟩:=zg9 hx
 have cM:0<zs.length:=Kl hx
 have hm:(zs.idxOf x+1)%zs.length<zs.length:=Ue _ cM
 have g:(zs.map iV)[(zs.idxOf x+1)%zs.length]?=some (iV (nxt zs x)):=by
  rw[Qu,Qc hm]
  unfold nxt
  simp[List.getD,hm]
 have e1:((zs.idxOf x:Nat):Int)+1=((zs.idxOf x+1:Nat):Int):=by lia
 have g2:atI (zs.map iV) ((((zs.idxOf x:Nat):Int)+1)%((zs.map iV).length:Int))=some (iV (nxt zs x)):=by
  rw[e1,Qa,←Int.natCast_emod]
  exact zav g
 refine⟨_,rfl,_,rfl,.inl ⟨rfl,_,SqL.of ha⟩,_,rfl,a,_,_,_,rfl,rfl,ha,rfl,ze0 zs,i1,i2,_,_,rfl,rfl,_,rfl,a,_,rfl,.inl (SqL.of ha),_,_,rfl,rfl,?_,a,_,_,_,rfl,rfl,SqL.of ha,g2,k⟩
 rw[Qa];exact zar9 ‹_›
def zcu:zas [qR, "_law_p", "_law_q", "_law_found", "_law_here"] [qR, "_law_p", "_law_q"] (zag zfe):=fsk
def ok_steps0(F:Fun K "_law_steps" "_law_steps" zfe f fd)(FB:Fun K "_law_behind" "_law_behind" zff fb fdb)(bB:Binds K fdb ["_law_around", "_law_one"] [])(mB:mg "_law_behind" = some (.ref fb))(GB:FnOk P w K mg base CX0 1 fb fdb ["_law_around", "_law_one"] spBehind) :
  FnOk P w K mg base CX0 2 f fd [qR, "_law_p", "_law_q"] spSteps0:=by
 refine F.okL zcu (λcdv A outer s H vs Q E hr h=>?_)
 obtain⟨d,ra,rr,st,rfl,R,aO,hG,aF,k⟩:=h
 have hu:=zct hr
 refine⟨_,zae (zaw 3 zcu.nd (zbi (zaa (zdl (zaa (pv 1) (zaa (pv 2) zad))) zad)))
  (zae (zaw 4 zcu.nd (zdl (zaa (pv 2) (zaa (zam GB hr rfl mB FB.kp bB .nil za2 (zaa (za7 zau (pv 0) (pv 2) (λ_ _=>rfl)) (zaa (pv 1) zad))) zad))))
  (zae (zdy Zm (za4 (op_ne_pairsN (Wu (Wg _) hu)) (pv 4) (za7 zau (pv 3) zai (fun _ _=>rfl)) rfl)
   (zae (zay (zb7 Qy Zq Zp za1 (pv 3) (zaa (pv 4) zad)))
   (zah (zaw 4 zcu.nd (zdl (zaa (za7 zex (pv 4) zai (λ_ _=>rfl)) (zaa (zam GB hr rfl mB FB.kp bB .nil za2 (zaa (za7 zau (pv 0) (za7 zex (pv 4) zai (λ_ _=>rfl)) (λ_ _=>rfl)) (zaa (za7 zex (pv 4) zai (λ_ _=>rfl)) zad))) zad)))))))
  (zah (zbh (pv 3))))),?_⟩
 obtain⟨L,hL,nd⟩:=good_round hG aO
 have gE:=zbn.clo _ hG
 have jd:(rsN rr).length=rr.length:=by unfold rsN;rw[List.length_map,List.length_range]
 have sh:L+1≤1600:=by
  have:=zgx nd (m:=allSt (rsN rr)) λx hx=>by
   obtain⟨i,_,rfl⟩:=Qk.mp hx
   exact mem_allSt.mpr (itr_st gE aO i)
  unfold Wb.run at this
  rw[Qa,Wl]at this
  exact Zj this (zbn.steps hG (by rw[jd];exact aF))
 have bp:∀q:Nat×Nat,IsSt (rsN rr) q→∃(h:q.2<rr.length) (h':q.2<ra.length),q.1∈rr[q.2]∧rr[q.2].length≤900∧stp (rsN rr) q=(q.2,nxt rr[q.2] q.1):=λq hq=>by
  have h1:=(zdh (nd_N rr)).mp hq
  by_cases h:q.2<rr.length
  ·rw [row_N h] at h1
   refine⟨h,by rw[R.len];exact h,h1,?_,by unfold stp;rw[row_N h]⟩
   have:=zbn.rows hG _ (zhi h)
   rw[jd]at this
   exact Zj this (by omega)
  ·rw[row_No h]at h1;cases h1
 have i0:∀x y:V,atI [x,y] ((0:Nat):Int)=some x:=λx y=>zav rfl
 have i1:∀x y:V,atI [x,y] ((1:Nat):Int)=some y:=λx y=>zav rfl
 have aP  := sizeLine_eq
 refine⟨_,rfl,_,rfl,(by show 2≤sizeLine;decide),λt0 jY=>⟨(by show 1≤sizeLine;decide),λl hl=>?_⟩⟩
 have k1:Keep [] H (upd (upd H t0 (.tup [iV st.1,iV st.2])) l (.lst [.ref t0])):=(Keep.new jY).trans (Keep.new hl)
 have ntl:t0≠l:=zab (o:=_) zac hl
 have dL:(upd (upd H t0 (.tup [iV st.1,iV st.2])) l (.lst [.ref t0])) t0=some (.tup [iV st.1,iV st.2]):=by rw[zaf ntl];exact zac
 have bx:(upd (upd H t0 (.tup [iV st.1,iV st.2])) l (.lst [.ref t0])) l=some (.lst [.ref t0]):=zac
 have fl:H l=none:=zaq (xs:=[]) (Keep.new jY) hl (by simp)
 generalize upd (upd H t0 (.tup [iV st.1,iV st.2])) l (.lst [.ref t0])=H1 at k1 dL bx
 have R1:=R.k0 k1
 obtain⟨g1,g2,g3,g4,g5⟩:=bp st aO
 refine⟨_,rfl,_,rfl,_,rfl,d,_,_,_,rfl,rfl,SqL.of R1.ls,zav (by rw[Qu,Qc g2];rfl),_,rfl,_,rr[st.2],st.1,rfl,R1.row g2 g1,g3,g4,(by show 2≤sizeLine;decide),λt ht=>?_⟩
 have e5:[iV st.2,iV (nxt rr[st.2] st.1)]=[iV (itr (rsN rr) st 1).1,iV (itr (rsN rr) st 1).2]:=by show _=[iV (stp (rsN rr) st).1,iV (stp (rsN rr) st).2];rw[g5]
 rw[e5]
 have nlt:l≠t:=zab bx ht
 refine⟨λm σ H2=>Ex3 λ(n:Nat) (t:Nc) (as:Nk)=>Aj8 (m=L-n) (n≤L) (σ=[some (.ref d),some (iV st.1),some (iV st.2),some (.ref l),some (.ref t)]) (Keep [l] H1 H2) (H2 l=some (.lst ((t0::as).map V.ref))) (zb0 H2 (t0::as) (run (rsN rr) st (n+1))) (H2 t=some (.tup [iV (itr (rsN rr) st (n+1)).1,iV (itr (rsN rr) st (n+1)).2])) (as.length=n),
  ⟨_,0,t,[],rfl,Zn _,rfl,Keep.new ht,by rw[zaf nlt];exact bx,.cons (by rw[zaf (zab dL ht)];exact dL) .nil,zac,rfl⟩,?_⟩
 rintro m σ H2 ⟨n,t,as,rfl,hn,rfl,k2,ak,pa,gQ,bY⟩
 have iK:=k2 _ _ dL (by simpa using ntl)
 refine⟨_,rfl,_,rfl,l,_,_,_,rfl,rfl,SqL.of ak,(show atI ((t0::as).map V.ref) ((0:Nat):Int)=some (.ref t0) from zav rfl),t,t0,itr (rsN rr) st (n+1),st,rfl,rfl,gQ,iK,_,rfl,?_⟩
 by_cases he:n=L
 ·subst he
  refine zbs (by rw[decide_eq_true hL];rfl) ?_
  exact⟨_,rfl,k l (t0::as) n H2 fl ak pa nd sh λc o ec _=>k2 c o (k1 _ _ ec (by simp)) (by simpa using zab ec fl)⟩
 ·refine zb2 (by rw [decide_eq_false (round_ne nd (Nat.succ_pos n) (by omega))];rfl) ?_
  have il:t≠l:=za3 gQ ak (by intro z;cases z)
  refine⟨_,λ σ' H' z=>z,?_⟩
  refine⟨_,rfl,.inl ⟨rfl,_,SqL.of ak⟩,_,rfl,l,_,_,rfl,rfl,ak,by rw[Qa,Zb];omega,?_⟩
  have k3:Keep [l] H1 (upd H2 l (.lst ((t0::as).map V.ref++[V.ref t]))):=k2.trans (Keep.wr Qd)
  have dW:(upd H2 l (.lst ((t0::as).map V.ref++[V.ref t]))) t=some (.tup [iV (itr (rsN rr) st (n+1)).1,iV (itr (rsN rr) st (n+1)).2]):=by rw[zaf il];exact gQ
  have gu:(upd H2 l (.lst ((t0::as).map V.ref++[V.ref t]))) l=some (.lst ((t0::(as++[t])).map V.ref)):=by rw[zac,←Yo,Qs];rfl
  have kQ:zb0 (upd H2 l (.lst ((t0::as).map V.ref++[V.ref t]))) (t0::(as++[t])) (run (rsN rr) st (n+1+1)):=by
   rw[run_succ,←Yo]
   refine zb0.snoc (zb0.keep pa λb x y eb=>?_) dW
   rw[zaf (za3 eb ak (by intro z;cases z))];exact eb
  generalize upd H2 l (.lst ((t0::as).map V.ref++[V.ref t]))=H3 at k3 dW gu kQ
  have nra:∀a∈ra,a≠l:=λa ha=>by
   obtain⟨j,hj,rfl⟩:=Qx ha
   exact zab (R.row hj (by rw[←R.len];exact hj)) fl
  have R3:NAt H3 d ra rr:=R1.keep k3 (by simpa using zab R.ls fl) λa ha=>by simpa using nra a ha
  obtain⟨g1,g2,g3,g4,g5⟩:=bp (itr (rsN rr) st (n+1)) (itr_st gE aO _)
  refine⟨_,rfl,t,_,_,_,rfl,rfl,SqT.of dW,i1 _ _,_,rfl,_,rfl,t,_,_,_,rfl,rfl,SqT.of dW,i1 _ _,d,_,_,_,rfl,rfl,SqL.of R3.ls,zav (by rw[Qu,Qc g2];rfl),_,rfl,t,_,_,_,rfl,rfl,SqT.of dW,i0 _ _,_,rr[(itr (rsN rr) st (n+1)).2],(itr (rsN rr) st (n+1)).1,rfl,R3.row g2 g1,g3,g4,(by show 2≤sizeLine;decide),λt' gR=>?_⟩
  have e6:[iV (itr (rsN rr) st (n+1)).2,iV (nxt rr[(itr (rsN rr) st (n+1)).2] (itr (rsN rr) st (n+1)).1)]=[iV (itr (rsN rr) st (n+1+1)).1,iV (itr (rsN rr) st (n+1+1)).2]:=by show _=[iV (stp (rsN rr) (itr (rsN rr) st (n+1))).1,iV (stp (rsN rr) (itr (rsN rr) st (n+1))).2];rw[g5]
  rw[e6]
  have nj:l≠t':=zab gu gR
  exact⟨L-(n+1),by omega,n+1,t',as++[t],rfl,by omega,rfl,k3.trans (Keep.new gR),by rw[zaf nj];exact gu,zb0.keep kQ λb x y eb=>by rw[zaf (zab eb gR)];exact eb,zac,by rw[Ql,bY];rfl⟩
end
end K21
end
section
namespace K21
open PySem L2 Wb
abbrev sTie:Stmt:=top 30
def inV_nat{x:Nat}{zs:List Nat}:inV (iV x) (zs.map iV)=decide (x∈zs):=by
 unfold inV
 rw[Yr,Wa,decide_eq_true_iff]
 constructor
 ·rintro ⟨v,hv,e⟩
  obtain⟨z,hz,rfl⟩:=Qk.mp hv
  have e:((z:Int)==(x:Int))=true:=e
  have:z=x:=Int.ofNat.inj (eq_of_beq e)
  rw[←this];exact hz
 ·intro h
  exact⟨_,Qk.mpr ⟨x,h,rfl⟩,beq_self_eq_true (x:Int)⟩
def NAt.mem(R:NAt H l as rr)(ha:a∈as):∃r:List Nat,H a=some (.lst (r.map iV)):=by
 obtain⟨j,hj,rfl⟩:=Qx ha
 exact⟨_,R.row hj (by rw[←R.len];exact hj)⟩
def NAt.set(R:NAt H l as rr){k:Nat}(h:k < as.length)(r:List Nat):NAt (upd H as[k] (.lst (r.map iV))) l as (rr.set k r):=by
 have hl:l≠as[k]:=λz=>R.apart (z▸Qn h)
 refine⟨by rw[zaf hl];exact R.ls,?_,R.nd⟩
 have aZ:=R.nd
 have hr:=R.ro
 clear R hl
 induction hr generalizing k with
 |nil=>simp at h
 | cons r1 t ih =>
  rename_i a r0 bZ de
  rw[Za]at aZ
  cases k with
  | zero =>
   refine .cons zac ?_
   show Paired _ bZ de
   refine Paired.imp' (λb r' hb=>hb) ?_
   clear ih
   have key:∀{xs:Nk} {ys:List (List Nat)},Paired (λa r=>H a=some (.lst (r.map iV))) xs ys→a∉xs→Paired (λb r'=>(upd H a (.lst (r.map iV))) b=some (.lst (r'.map iV))) xs ys:=by
    intro xs ys hp
    induction hp with
    |nil=>intro _;exact .nil
    |cons q t' ih' =>
     intro hn
     rw[Qh,not_or]at hn
     exact .cons (by rw[zaf (Zo hn.1)];exact q) (ih' hn.2)
   exact key t aZ.1
  |succ j =>
   have hj:j<bZ.length:=by simpa using h
   refine .cons ?_ (ih (k:=j) hj aZ.2)
   show(upd H bZ[j] _) a=_
   rw[zaf (λz=>aZ.1 (by rw[z];exact Qn hj))];exact r1
def pot_l(h:Pot H p b m)(R:NAt H l as rr):l≠p:=za3 R.ls h.1 (by
 intro z
 have z':as.map V.ref=[.int b,.int m]:=by injection z
 cases as with
 |nil=>cases z'
 |cons x t=>rw[Qj]at z';injection z' with z1 _;cases z1)
def zb0.mem(r:zb0 H as qs)(ha:a∈as):∃q∈qs,H a=some (.tup [iV q.1,iV q.2]):=by
 induction r with
 |nil=>cases ha
 | cons r t ih =>
  rcases Qh.mp ha with e | e
  ·exact⟨_,Qd,e▸r⟩
  ·obtain ⟨q,h1,h2⟩:=ih e
   exact⟨q,Qg _ h1,h2⟩
inductive IspTieD(vs:List V)(H:Hp)(Q:VK):Prop
 |mk (p l:Nc) (b m:Int) (as:Nk) (rr:List (List Nat)) (h0:vs=[.ref p,.ref l]) (h1:Pot H p b m) (h2:NAt H l as rr) (h3:Good (rsN rr)) (h4:0<rr.length) (h5:rr.length≤40) (bv:p∉as)
  (h6:∀(b' m':Int) (de:List (List Nat)) (H':Hp),de.length=rr.length→Good (rsN de)→Pot H' p b' m'→NAt H' l as de→Keep (p::as) H H'→Q .non H'):IspTieD vs H Q
def spTieD:Sp:=λvs H Q _=>IspTieD vs H Q
section
variable{P:Nj}{w:Nl}{K:Nb}{mg:Nf}{base:Nn}
def scTie:zas [qP,qR, "_law_one", "_law_ahead", "_law_steps_here", "_law_first", "_law_p", "_law_q"] [qP,qR] (zag sTie):=fsk
def ok_tie(F:Fun K "_law_tie" "_law_tie" sTie f fd)(FT:Fun K qG qG zfs ft fdt)(bT:Binds K fdt [qP,qM] [])(mT:mg qG=some (.ref ft))(GT:FnOk P w K mg base CX0 1 ft fdt [qP,qM] zhn)(FS:Fun K "_law_steps" "_law_steps" zfe fs fds)(bS:Binds K fds [qR, "_law_p", "_law_q"] [])(mS:mg "_law_steps" = some (.ref fs))(GS:FnOk P w K mg base CX0 2 fs fds [qR, "_law_p", "_law_q"] spSteps0)(aa:mg "len" = none):FnOk P w K mg base CX0 3 f fd [qP,qR] spTieD:=by
 refine F.okL scTie (λcdv A outer s H vs Q E hr h=>?_)
 obtain⟨p,l,b,m,as,rr,rfl,hp,R,hG,cM,bi,bv,k⟩:=h
 have hu:=zct hr
 have dJ:=Nat.lt_of_succ_lt hu
 have aW:Room 1 _:=hr.mono (by decide)
 have aP  := sizeLine_eq
 refine⟨_,zae (zaw 2 scTie.nd (zam GT aW rfl mT FT.kp bT .nil za2 (zaa (pv 0) (zaa (zaj zan (by rfl) aa Zu (zaa (pv 1) zad)) zad))))
  (zae (zc2 (za4 (op_eq_nil dJ) (za7 zau (pv 1) (pv 2) (λ_ _=>rfl)) (zbi zad) (zb8 _)) (zah ps_retN) zbk)
  (zae (zaw 3 scTie.nd (za7 zau (za7 zau (pv 1) (pv 2) (λ_ _=>rfl)) (zam GT aW rfl mT FT.kp bT .nil za2 (zaa (pv 0) (zaa (zaj zan (by rfl) aa Zu (zaa (za7 zau (pv 1) (pv 2) (λ_ _=>rfl)) zad)) zad))) (λ_ _=>rfl)))
  (zae (zaw 4 scTie.nd (zam GS hr rfl mS FS.kp bS .nil za2 (zaa (pv 1) (zaa (pv 3) (zaa (pv 2) zad)))))
  (zae (zaw 5 scTie.nd (zam GT aW rfl mT FT.kp bT .nil za2 (zaa (pv 0) (zaa (zaj zan (by rfl) aa Zu (zaa (pv 4) zad)) zad))))
  (zah (zbm Zm rfl (zax (zat zd4 (zby zdd (pv 4) (zcb (pv 5)) zb1) (zby zdd (pv 4) zb1 (zcb (pv 5))))) (zhp rfl (zbb (za8 6 scTie.nd) (zbb (za8 7 scTie.nd) zdf)))
   (zah (zc2 (PW.pt (pw_and (za4 op_ne (pv 7) (pv 2) (zb8 _)) (pw_and1 (za4 zdt (pv 7) (za7 zau (pv 1) (pv 2) (fun _ _=>rfl)) rfl))))
    (zae (zay (zb7 Qy Xo Xn zgy (za7 zau (pv 1) (pv 2) (λ_ _=>rfl)) (zaa (zat zbo (zb7 Qy Ja Uz zeq (za7 zau (pv 1) (pv 2) (λ_ _=>rfl)) (zaa (pv 3) zad)) zai) (zaa (pv 7) zad))))
    (zae (zay (zb7 Qy Xo Xn zgy (za7 zau (pv 1) (pv 7) (λ_ _=>rfl)) (zaa (zat zbo (zb7 Qy Ja Uz zeq (za7 zau (pv 1) (pv 7) (λ_ _=>rfl)) (zaa (pv 6) zad)) zai) (zaa (pv 2) zad))))
    (zah ps_retN))) zbk)))))))),?_⟩
 have jd:(rsN rr).length=rr.length:=by unfold rsN;rw[List.length_map,List.length_range]
 have bY:=R.len
 have nlp:=pot_l hp R
 have nap:∀a∈as,a≠p:=λa ha z=>bv (z▸ha)
 have fQ:(as.map V.ref).length=rr.length:=by rw[Qa];exact bY
 refine⟨_,rfl,_,rfl,l,_,rfl,.inl (SqL.of R.ls),p,b,m,_,rfl,hp,by omega,by omega,λj1 b1 m1 H1 qQ hj1 cP oZ=>?_⟩
 have k1:Keep [p] H H1:=zbe oZ
 have R1:NAt H1 l as rr:=R.keep k1 (by simpa using nlp) λa ha=>by simpa using nap a ha
 obtain⟨one,rfl⟩:=Zw qQ
 have ho:one<rr.length:=by omega
 have aU:one<as.length:=by omega
 have a1:∀{c:Nat} (h:c<as.length),atI (as.map V.ref) (c:Int)=some (.ref as[c]):=λh=>zav (by rw[Qu,Qc h];rfl)
 refine⟨_,rfl,_,rfl,l,_,_,_,rfl,rfl,SqL.of R1.ls,a1 aU,(by show 0≤sizeLine;decide),λq hq=>?_⟩
 have k2:Keep [p] H (upd H1 q (.lst [])):=k1.trans (Keep.new hq)
 have aL:Pot (upd H1 q (.lst [])) p b1 m1:=cP.keep (xs:=[]) (Keep.new hq) (by simp)
 have R2:NAt (upd H1 q (.lst [])) l as rr:=R1.k0 (Keep.new hq)
 refine⟨as[one],q,_,rfl,rfl,SqL.of (R2.row aU ho),SqL.of zac,_,rfl,?_⟩
 generalize upd H1 q (.lst [])=H2 at k2 aL R2
 have ai:=R2.row aU ho
 have mJ:∀(b' m':Int) (H':Hp),Pot H' p b' m'→Keep [p] H H'→Q .non H':=λb' m' H' dv k'=>k b' m' rr H' rfl hG dv (R.keep k' (by simpa using nlp) λa ha=>by simpa using nap a ha) (k'.sub (by simp))
 by_cases he:rr[one]=[]
 ·exact zb2 (by rw[he];rfl) (mJ b1 m1 H2 aL k2)
 refine zbs (by cases z:rr[one] with | nil=>exact absurd z he | cons _ _=>rfl) ?_
 have dS:rr[one].length≤900:=by
  have:=zbn.rows hG _ (zhi ho)
  rw[jd]at this
  exact Zj this (by omega)
 have hzp:0<rr[one].length:=Ug.mpr he
 have hml1:(rr[one].map iV).length=rr[one].length:=Qa ..
 refine⟨_,rfl,_,rfl,l,_,_,_,rfl,rfl,SqL.of R2.ls,a1 aU,_,rfl,_,rfl,_,rfl,l,_,_,_,rfl,rfl,SqL.of R2.ls,a1 aU,as[one],_,rfl,.inl (SqL.of ai),p,b1,m1,_,rfl,aL,by omega,by omega,λj2 b3 m3 H3 jk qL bJ nz=>?_⟩
 obtain⟨jn,rfl⟩:=Zw jk
 have o4:jn<rr[one].length:=by omega
 have k3:Keep [p] H H3:=k2.trans (zbe nz)
 have R3:NAt H3 l as rr:=R.keep k3 (by simpa using nlp) λa ha=>by simpa using nap a ha
 refine⟨as[one],_,_,iV rr[one][jn],rfl,rfl,SqL.of (R3.row aU ho),zav (by rw[Qu,Qc o4];rfl),?_⟩
 have mt:rr[one][jn]∈rr[one]:=Qn o4
 generalize rr[one][jn]=ah at mt
 have aO:IsSt (rsN rr) (ah,one):=(zdh (nd_N rr)).mpr (by show ah∈row (rsN rr) one;rw[row_N ho];exact mt)
 refine⟨_,rfl,_,rfl,_,rfl,l,as,rr,(ah,one),rfl,R3,aO,hG,bi,λt ps n H4 ft ht pa nd hn k4=>?_⟩
 have c7:Keep [p] H H4:=k3.trans (k4.sub (by simp))
 have cb:=bJ.keep k4 (by simp)
 have cp:ps.length=n+1:=by
  have:=Zx pa
  unfold Wb.run at this
  rwa[Qa,Wl]at this
 have hml2:(ps.map V.ref).length=n+1:=by rw[Qa];exact cp
 have ntp:t≠p:=λz=>by rw[z,bJ.1]at ft;cases ft
 refine⟨_,rfl,_,rfl,t,_,rfl,.inl (SqL.of ht),p,b3,m3,_,rfl,cb,by omega,by omega,λj5 b5 m5 H5 ji qI aT gM=>?_⟩
 obtain⟨jf,rfl⟩:=Zw ji
 have hjf:jf≤(ps.map V.ref).length:=by omega
 have k5:Keep [p] H H5:=c7.trans (zbe gM)
 have jX:=gM _ _ ht ntp
 have dR:zb0 H5 ps (run (rsN rr) (ah,one) (n+1)):=zb0.keep pa λb' x' y' eb=>gM _ _ eb (za3 eb cb.1 (by intro z;cases z))
 refine⟨_,rfl,_,rfl,_,rfl,t,_,rfl,SqL.of jX,λs1 br=>?_⟩
 rw[ze2 hjf]
 have ht6:(upd H5 s1 (.lst ((ps.map V.ref).drop jf))) t=some (.lst (ps.map V.ref)):=by rw[zaf (zab jX br)];exact jX
 refine⟨_,rfl,_,rfl,_,rfl,t,_,rfl,SqL.of ht6,λs2 cE=>?_⟩
 rw[cut_to hjf]
 have oQ:s1≠s2:=zab (o:=_) zac cE
 refine⟨s1,s2,_,_,rfl,rfl,by rw[zaf oQ];exact zac,zac,by rw[Yz,Zf];omega,λs3 hs3=>?_⟩
 have k6:Keep [] H5 (upd (upd (upd H5 s1 (.lst ((ps.map V.ref).drop jf))) s2 (.lst ((ps.map V.ref).take jf))) s3 (.lst ((ps.map V.ref).drop jf++(ps.map V.ref).take jf))):=((Keep.new br).trans (Keep.new cE)).trans (Keep.new hs3)
 have gh:(upd (upd (upd H5 s1 (.lst ((ps.map V.ref).drop jf))) s2 (.lst ((ps.map V.ref).take jf))) s3 (.lst ((ps.map V.ref).drop jf++(ps.map V.ref).take jf))) s3=some (.lst ((ps.map V.ref).drop jf++(ps.map V.ref).take jf)):=zac
 have hvs:∀v∈(ps.map V.ref).drop jf++(ps.map V.ref).take jf,∃a∈ps,v=.ref a:=λv hv=>by
  rcases Qe.mp hv with z | z
  ·obtain⟨a,ha,rfl⟩:=Qk.mp (Wi z);exact⟨a,ha,rfl⟩
  ·obtain⟨a,ha,rfl⟩:=Qk.mp (Wd z);exact⟨a,ha,rfl⟩
 generalize(ps.map V.ref).drop jf++(ps.map V.ref).take jf=vs at gh hvs k6
 generalize upd (upd (upd H5 s1 (.lst ((ps.map V.ref).drop jf))) s2 (.lst ((ps.map V.ref).take jf))) s3 (.lst vs)=H6 at k6 gh
 have g8:Keep [p] H H6:=k5.trans (k6.sub (by simp))
 have fP:=aT.keep k6 (by simp)
 have R6:NAt H6 l as rr:=R.keep g8 (by simpa using nlp) λa ha=>by simpa using nap a ha
 have pa6:zb0 H6 ps (run (rsN rr) (ah,one) (n+1)):=zb0.keep dR λb' x' y' eb=>k6 _ _ eb (by simp)
 have ck:=R6.row aU ho
 refine⟨s3,rfl,⟨_,SqL.of gh⟩,zbq (xs:=vs) (λi σ H'=>Aj2 (Ex2 λx6 x7=>σ=[some (.ref p),some (.ref l),some (iV one),some (iV ah),some (.ref t),some (iV jf),x6,x7]) (H'=H6)) ⟨⟨_,_,rfl⟩,rfl⟩ (λi σ H' _ hh=>hh.2▸SqL.of gh) ?_ ?_⟩
 ·rintro i v σ H' hv ⟨⟨x6,x7,rfl⟩,rfl⟩
  obtain⟨a,ha,rfl⟩:=hvs v (Yq hv)
  obtain⟨⟨x,y⟩,hxy,hta⟩:=pa6.mem ha
  obtain⟨n',_,e'⟩:=Qk.mp hxy
  refine⟨a,_,rfl,SqT.of hta,rfl,_,_,rfl,_,_,rfl,rfl,?_⟩
  refine⟨_,rfl,_,rfl,rfl,_,rfl,?_⟩
  by_cases cD:y=one
  ·subst cD
   exact zbs (by simp) (iteF ⟨⟨_,_,rfl⟩,rfl⟩)
  refine zb2 (by simpa using λz=>cD (by omega)) ?_
  refine⟨_,rfl,_,rfl,_,rfl,l,_,_,_,rfl,rfl,SqL.of R6.ls,a1 aU,as[one],_,rfl,.inl (SqL.of ck),rfl,ze0 _,_,rfl,?_⟩
  rw[inV_nat]
  by_cases ga:y∈rr[one]
  ·exact zbs (by rw[decide_eq_true ga];rfl) ⟨⟨_,_,rfl⟩,rfl⟩
  refine zb2 (by rw[decide_eq_false ga];rfl) ?_
  obtain⟨i1,i2⟩:=zg9 mt
  have hi1:rr[one].idxOf ah<rr[one].length:=Ux.mpr mt
  refine⟨_,rfl,_,rfl,l,_,_,_,rfl,rfl,SqL.of R6.ls,a1 aU,.inl ⟨rfl,_,SqL.of ck⟩,_,rfl,_,rfl,l,_,_,_,rfl,rfl,SqL.of R6.ls,a1 aU,.inl ⟨rfl,_,SqL.of ck⟩,_,rfl,as[one],_,_,_,rfl,rfl,ck,rfl,ze0 _,i1,i2,_,_,rfl,rfl,_,rfl,as[one],_,_,rr[one].idxOf ah+1,rfl,by rw[show((rr[one].idxOf ah+1:Nat):Int)=(rr[one].idxOf ah:Int)+1 by lia],ck,by rw[Qa];omega,by rw[Qa];omega,?_⟩
  have iM:IsSt (rsN rr) (x,y):=e'▸itr_st (zbn.clo _ hG) aO n'
  have l9:=(zdh (nd_N rr)).mp iM
  have hy:y<rr.length:=Xh λz=>by
   have gb:x∈row (rsN rr) y:=l9
   rw[row_No z]at gb;cases gb
  have d0:y<as.length:=by omega
  have l9:x∈rr[y]:=by
   have gb:x∈row (rsN rr) y:=l9
   rwa[row_N hy]at gb
  have hyl:rr[y].length≤900:=by
   have:=zbn.rows hG _ (zhi hy)
   rw[jd]at this
   exact Zj this (by omega)
  have e1:(rr[one].map iV).take (rr[one].idxOf ah+1)++iV y::(rr[one].map iV).drop (rr[one].idxOf ah+1)=(ins rr[one] (some ah) y).map iV:=by
   rw[←Uw,←Jw,←Qj,←Qs];rfl
  rw[e1]
  have R7:=R6.set aU (ins rr[one] (some ah) y)
  have k7:Keep (p::as) H (upd H' as[one] (.lst ((ins rr[one] (some ah) y).map iV))):=(g8.sub (by simp)).trans (Keep.wr (Qg _ (Qn aU)))
  have aV:Pot (upd H' as[one] (.lst ((ins rr[one] (some ah) y).map iV))) p b5 m5:=fP.keep (xs:=[as[one]]) (Keep.wr (by simp)) (by simpa using Zo (nap _ (Qn aU)))
  generalize upd H' as[one] (.lst ((ins rr[one] (some ah) y).map iV))=H7 at R7 k7 aV
  have hy7:y<(rr.set one (ins rr[one] (some ah) y)).length:=by rw[Ut];exact hy
  have aS:=R7.row d0 hy7
  rw[Xb (Zo cD)]at aS
  obtain⟨i3,i4⟩:=zg9 l9
  have aE:rr[y].idxOf x<rr[y].length:=Ux.mpr l9
  refine⟨_,rfl,_,rfl,l,_,_,_,rfl,rfl,SqL.of R7.ls,a1 d0,.inl ⟨rfl,_,SqL.of aS⟩,_,rfl,_,rfl,l,_,_,_,rfl,rfl,SqL.of R7.ls,a1 d0,.inl ⟨rfl,_,SqL.of aS⟩,_,rfl,as[y],_,_,_,rfl,rfl,aS,rfl,ze0 _,i3,i4,_,_,rfl,rfl,_,rfl,as[y],_,_,rr[y].idxOf x+1,rfl,by rw[show((rr[y].idxOf x+1:Nat):Int)=(rr[y].idxOf x:Int)+1 by lia],aS,by rw[Qa];omega,by rw[Qa];omega,?_⟩
  have e2:(rr[y].map iV).take (rr[y].idxOf x+1)++iV one::(rr[y].map iV).drop (rr[y].idxOf x+1)=(ins rr[y] (some x) one).map iV:=by
   rw[←Uw,←Jw,←Qj,←Qs];rfl
  rw[e2]
  have hg:=zbn.tie (rsN rr) ah (one,rr[one]) n' hG (zhi ho) mt (by rw[e'];exact cD) (by rw[e'];exact ga)
  rw[e']at hg
  have hg:Good (zbg (zbg (rsN rr) one (ins rr[one] (some ah) y)) y (ins (row (rsN rr) y) (some x) one)):=hg
  rw[row_N hy,set_N,set_N]at hg
  exact k b5 m5 _ _ (by rw[Ut,Ut]) hg (aV.keep (xs:=[as[y]]) (Keep.wr (by simp)) (by simpa using Zo (nap _ (Qn d0)))) (R7.set d0 _) (k7.trans (Keep.wr (Qg _ (Qn d0))))
 ·rintro σ H' ⟨⟨x6,x7,rfl⟩,rfl⟩
  exact mJ b5 m5 H' fP g8
end
end K21
end
section
namespace Wb
def good_turn{α:Type}[DecidableEq α]{rs oJ:Rs α}(h:Good rs)(hn:oJ.map (·.1)=rs.map (·.1))(hr:∀x,∃k,row oJ x=(row rs x).drop k++(row rs x).take k):Good oJ:=by
 obtain⟨cs,a9,C⟩:=h
 exact⟨cs,a9,ze4 C (by rw[hn]) hr⟩
def idx_at{zs:List Nat}(nd:zs.Nodup){i:Nat}(h:i<zs.length):zs.idxOf zs[i]=i :=
 (Wq (h₀:=Ux.mpr (Qn h)) (h₁:=h) nd).mp (Xe _)
def leaf_N{rr:List (List Nat)}(hG:Good (rsN rr)){o j:Nat}(ho:o < rr.length)(hj:j≤rr[o].length) :
  Good (rsN (((rr++[[]]).set rr.length [o]).set o (rr[o].take j++rr.length::rr[o].drop j))):=by
 have hx:rr.length∉(rsN rr).map (·.1):=by rw[zdu];exact λz=>Wh _ (Yp.mp z)
 have cG:rr.length≠o:=Wk ho
 have base:∀c,(∀y,c=some y→y∈rr[o])→(c=none→rr[o]=[])→Good (rsN (((rr++[[]]).set rr.length [o]).set o (ins rr[o] c rr.length))):=λc h1 h2=>by
  have:=zbn.leaf (rsN rr) rr.length (o,rr[o]) c hG hx (zhi ho) h1 h2
  have this:Good (zbg (zbg (rsN rr++[(rr.length,[])]) o (ins rr[o] c rr.length)) rr.length [o]):=this
  rw[←snoc_N,set_N,set_N,List.set_comm _ _ (Zo cG)]at this
  exact this
 by_cases hz:rr[o]=[]
 ·have:=base none (fun y z=>by cases z) fun _=>hz
  have e:rr[o].take j++rr.length::rr[o].drop j=ins rr[o] none rr.length:=by
   rw[hz];simp[ins]
  rw[e];exact this
 ·have nd:rr[o].Nodup:=(zbn.sub _ hG _ (zhi ho)).1
  cases j with
  | succ i =>
   have hi:i<rr[o].length:=hj
   have:=base (some rr[o][i]) (λy z=>by cases z;exact Qn hi) λz=>by cases z
   have e:ins rr[o] (some rr[o][i]) rr.length=rr[o].take (i+1)++rr.length::rr[o].drop (i+1):=by
    show rr[o].take (rr[o].idxOf rr[o][i]+1)++rr.length::rr[o].drop (rr[o].idxOf rr[o][i]+1)=_
    rw[idx_at nd hi]
   rw[e]at this;exact this
  | zero =>
   have hp:0<rr[o].length:=Ug.mpr hz
   have hi:rr[o].length-1<rr[o].length:=by omega
   have hg:=base (some rr[o][rr[o].length-1]) (λy z=>by cases z;exact Qn hi) λz=>by cases z
   have e:ins rr[o] (some rr[o][rr[o].length-1]) rr.length=rr[o]++[rr.length]:=by
    show rr[o].take (rr[o].idxOf rr[o][rr[o].length-1]+1)++rr.length::rr[o].drop (rr[o].idxOf rr[o][rr[o].length-1]+1)=_
    rw[idx_at nd hi,show rr[o].length-1+1=rr[o].length by omega,List.take_length,List.drop_length]
   rw[e]at hg
   refine good_turn hg (by rw[zdu,zdu];simp) λx=>?_
   have bx:(((rr++[[]]).set rr.length [o]).set o (rr[o]++[rr.length])).length=rr.length+1:=by simp
   have ak:(((rr++[[]]).set rr.length [o]).set o (rr[o].take 0++rr.length::rr[o].drop 0)).length=rr.length+1:=by simp
   by_cases gc:x<rr.length+1
   ·rw [row_N (by rw [ak];exact gc),row_N (by rw [bx];exact gc)]
    by_cases pj:x=o
    ·subst pj
     rw[List.getElem_set_self,List.getElem_set_self]
     exact⟨rr[x].length,by rw[List.drop_left,List.take_left];rfl⟩
    ·rw [Xb (Zo pj),Xb (Zo pj)]
     exact⟨0,by simp⟩
   ·rw [row_No (by rw [ak];exact gc),row_No (by rw [bx];exact gc)]
    exact⟨0,rfl⟩
def new_N{rr:List (List Nat)}(hG:Good (rsN rr)):Good (rsN (rr++[[]])):=by
 rw[snoc_N]
 exact zbn.new _ _ hG (by rw[zdu];exact λz=>Wh _ (Yp.mp z))
def nil_N:Good (rsN []):=zbn.nil
end Wb
namespace K21
open PySem L2 Wb
abbrev zib:Stmt:=top 31
def NAt.snoc(R:NAt H l as rr)(he:H e=some (.lst []))(aH:e∉as)(jc:l≠e):NAt (upd H l (.lst (as.map V.ref++[.ref e]))) l (as++[e]) (rr++[[]]):=by
 refine⟨by rw[zac,Qs];rfl,?_,?_⟩
 ·have rW:=R.apart
  have hr:=R.ro
  clear R
  induction hr with
  |nil=>exact .cons (by rw[zaf (Zo jc)];exact he) .nil
  | cons r t ih =>
   rw[Qh,not_or]at rW aH
   refine .cons (by rw[zaf (Zo rW.1)];exact r) ?_
   have key:∀{zs:List V} {xs:Nk} {ys:List (List Nat)},Paired (λa r=>H a=some (.lst (r.map iV))) xs ys→l∉xs→Paired (λa r=>(upd H l (.lst zs)) a=some (.lst (r.map iV))) (xs++[e]) (ys++[[]]):=by
    intro zs xs ys hp
    induction hp with
    |nil=>intro _;exact .cons (by rw[zaf (Zo jc)];exact he) .nil
    |cons q t' ih' =>
     intro hn
     rw[Qh,not_or]at hn
     exact .cons (by rw[zaf (Zo hn.1)];exact q) (ih' hn.2)
   exact key t rW.2
 ·rw [Ze]
  exact⟨R.nd,Za.mpr ⟨by simp,Yb⟩,λa ha b hb z=>aH (by rw[←Qb.mp hb,←z];exact ha)⟩
inductive zhx(vs:List V)(H:Hp)(Q:VK):Prop
 |mk (p:Nc) (b m:Int) (n:Nat) (h0:vs=[.ref p,iV n]) (h1:Pot H p b m) (h2:n≤40)
  (h3:∀(l:Nc) (as:Nk) (rr:List (List Nat)) (b' m':Int) (H':Hp),NAt H' l as rr→Good (rsN rr)→rr.length≤40→Pot H' p b' m'→p∉as→H l=none→(∀a∈as,H a=none)→Keep [p] H H'→Q (.ref l) H'):zhx vs H Q
def spRoundsD:Sp:=λvs H Q _=>zhx vs H Q
section
variable{P:Nj}{w:Nl}{K:Nb}{mg:Nf}{base:Nn}
def zel:zas [qP, "_law_most",qR, "_law_k",qO] [qP, "_law_most"] (zag zib):=fsk
def ok_rounds(F:Fun K "_law_rounds" "_law_rounds" zib f fd)(FT:Fun K qG qG zfs ft fdt)(bT:Binds K fdt [qP,qM] [])(mT:mg qG=some (.ref ft))(GT:FnOk P w K mg base CX0 1 ft fdt [qP,qM] zhn)(FI:Fun K "_law_tie" "_law_tie" sTie fi fdi)(bI:Binds K fdi [qP,qR] [])(mI:mg "_law_tie" = some (.ref fi))(GI:FnOk P w K mg base CX0 3 fi fdi [qP,qR] spTieD)(aa:mg "len" = none)(bu:mg "range" = none):FnOk P w K mg base CX0 4 f fd [qP, "_law_most"] spRoundsD:=by
 refine F.okL zel (λcdv A outer s H vs Q E hr h=>?_)
 obtain⟨p,b,m,n,rfl,hp,hn,k⟩:=h
 have hu:=zct hr
 have aW:Room 1 _:=hr.mono (by decide)
 have aP  := sizeLine_eq
 refine⟨_,zae (zaw 2 zel.nd (zbi zad))
  (zae (zbm Zm rfl (zc5 rfl bu (zaa (zam GT aW rfl mT FT.kp bT .nil za2 (zaa (pv 0) (zaa (zat zbo (pv 1) zai) zad))) zad)) (za8 3 zel.nd)
   (zae (zay (zb7 Qy Zq Zp za1 (pv 2) (zaa (zbi zad) zad)))
   (zah (zc2 (PW.pt (pw_and (za4 op_gt (pv 3) zai (zb8 _)) (pw_and1 (za4 op_gt (zam GT aW rfl mT FT.kp bT .nil za2 (zaa (pv 0) (zaa zai zad))) zai (zb8 _)))))
    (zae (zaw 4 zel.nd (zam GT aW rfl mT FT.kp bT .nil za2 (zaa (pv 0) (zaa (pv 3) zad))))
    (zae (zay (zb7 Qy Zq Zp za1 (za7 zau (pv 2) (pv 3) (λ_ _=>rfl)) (zaa (pv 4) zad)))
    (zah (zay (zb7 Qy Xo Xn zgy (za7 zau (pv 2) (pv 4) (λ_ _=>rfl)) (zaa (zam GT aW rfl mT FT.kp bT .nil za2 (zaa (pv 0) (zaa (zat zbo (zaj zan (by rfl) aa Zu (zaa (za7 zau (pv 2) (pv 4) (λ_ _=>rfl)) zad)) zai) zad))) (zaa (pv 3) zad))))))) zbk))))
  (zae (zbm Zm rfl (zc5 rfl bu (zaa (zam GT aW rfl mT FT.kp bT .nil za2 (zaa (pv 0) (zaa (za7 zau (zbi (zaa zai (zaa (zat zbo (zaj zan (by rfl) aa Zu (zaa (pv 2) zad)) zai) (zaa (zat zbo (zat zgr zai (zaj zan (by rfl) aa Zu (zaa (pv 2) zad))) zai) zad))))
     (zam GT aW rfl mT FT.kp bT .nil za2 (zaa (pv 0) (zaa zai zad))) (λ_ _=>rfl)) zad))) zad)) (za8 3 zel.nd)
   (zah (zay (zam GI hr rfl mI FI.kp bI .nil za2 (zaa (pv 0) (zaa (pv 2) zad))))))
  (zah (zbh (pv 2))))),?_⟩
 refine⟨(by show 0≤sizeLine;decide),λl hl=>?_⟩
 have k1:Keep [p] H (upd H l (.lst [])):=Keep.new hl
 have cP:Pot (upd H l (.lst [])) p b m:=hp.keep (xs:=[]) (Keep.new hl) (by simp)
 have nlp:l≠p:=Zo (zab hp.1 hl)
 have R1:NAt (upd H l (.lst [])) l [] []:=⟨zac,.nil,Yb⟩
 generalize upd H l (.lst [])=H1 at k1 cP R1
 refine⟨_,rfl,_,rfl,_,_,rfl,rfl,p,b,m,_,rfl,cP,by omega,by omega,λj2 b2 m2 H2 jk qL aL kY=>?_⟩
 have k2:Keep [p] H H2:=k1.trans (zbe kY)
 have R2:NAt H2 l [] []:=R1.keep (zbe kY) (by simpa using nlp) λa ha=>by cases ha
 obtain⟨many,rfl⟩:=Zw jk
 have hmany:many≤40:=by omega
 refine⟨_,rfl,by omega,by omega,?_⟩
 refine zc9 (lo:=0) (λi σ H'=>Aj3 (Ex2 λx3 x4=>σ=[some (.ref p),some (iV n),some (.ref l),x3,x4]) (Keep [p] H H') (Ex4 λ(as:Nk) (rr:List (List Nat)) (b' m':Int)=>Aj6 (NAt H' l as rr) (Good (rsN rr)) (rr.length=i) (Pot H' p b' m') (p∉as) (∀a∈as,H a=none)))
  ⟨⟨_,_,rfl⟩,k2,[],[],b2,m2,R2,nil_N,rfl,aL,by simp,λa ha=>by cases ha⟩ ?_ ?_
 ·rintro i σ H3 hi ⟨⟨x3,x4,rfl⟩,k3,as,rr,b3,m3,R3,mx,bi,bJ,bv,fg⟩
  have hi40:rr.length<40:=by omega
  refine⟨_,rfl,.inl ⟨rfl,_,SqL.of R3.ls⟩,(by show 0≤sizeLine;decide),λe he=>?_⟩
  have R4:NAt (upd H3 e (.lst [])) l as rr:=R3.k0 (Keep.new he)
  have he4:(upd H3 e (.lst [])) e=some (.lst []):=zac
  have jc:l≠e:=zab R3.ls he
  have aH:e∉as:=λz=>by
   obtain⟨r,hr⟩:=R3.mem z
   rw[he]at hr;cases hr
  have nep:e≠p:=Zo (zab bJ.1 he)
  have feH:H e=none:=zaq k3 he (by simpa using nep)
  have fQ:(as.map V.ref).length=rr.length:=by rw[Qa];exact R3.len
  refine⟨l,_,_,rfl,rfl,R4.ls,by omega,?_⟩
  have R5:=R4.snoc he4 aH jc
  have k5:Keep [p] H (upd (upd H3 e (.lst [])) l (.lst (as.map V.ref++[.ref e]))):=λc u ec hc=>by
   have h1:=k3 c u ec hc
   rw[zaf (λz=>by rw[z,hl]at ec;cases ec),zaf (zab h1 he)];exact h1
  have aT:Pot (upd (upd H3 e (.lst [])) l (.lst (as.map V.ref++[.ref e]))) p b3 m3:=(bJ.keep (xs:=[]) (Keep.new he) (by simp)).keep (xs:=[l]) (Keep.wr (by simp)) (by simpa using Zo nlp)
  generalize upd (upd H3 e (.lst [])) l (.lst (as.map V.ref++[.ref e]))=H5 at R5 k5 aT
  have cq:p∉as++[e]:=λz=>by
   rcases Qe.mp z with y | y
   ·exact bv y
   ·exact nep (Qb.mp y).symm
  have gz:∀a∈as++[e],H a=none:=λa ha=>by
   rcases Qe.mp ha with y | y
   ·exact fg a y
   ·rw[Qb.mp y];exact feH
  have cH:(rr++[[]]).length=i+1:=by rw[Ql,bi];rfl
  have stop:∀(x3 x4:Option V) (b' m':Int) (H':Hp),Pot H' p b' m'→NAt H' l (as++[e]) (rr++[[]])→Keep [p] H H'→Aj3 (Ex2 λy3 y4=>[some (V.ref p),some (iV n),some (.ref l),x3,x4]=[some (V.ref p),some (iV n),some (.ref l),y3,y4]) (Keep [p] H H') (Ex4 λ(as:Nk) (rr:List (List Nat)) (b' m':Int)=>Aj6 (NAt H' l as rr) (Good (rsN rr)) (rr.length=i+1) (Pot H' p b' m') (p∉as) (∀a∈as,H a=none)):=λx3 x4 b' m' H' dv R' k' =>
   ⟨⟨_,_,rfl⟩,k',_,_,b',m',R',new_N mx,cH,dv,cq,gz⟩
  refine⟨_,rfl,_,_,rfl,rfl,_,rfl,?_⟩
  by_cases hi0:i=0
  ·exact zbs (decide_eq_false (by omega)) (iteF (stop _ _ b3 m3 H5 aT R5 k5))
  refine zb2 (decide_eq_true (by omega)) ?_
  refine⟨_,rfl,p,b3,m3,6,rfl,aT,by decide,by decide,λj6 b6 m6 H6 _ _ fP ny=>⟨_,_,rfl,rfl,_,rfl,?_⟩⟩
  have k6:Keep [p] H H6:=k5.trans (zbe ny)
  have df:∀a∈as++[e],a≠p:=λa ha z=>cq (z▸ha)
  have R6:NAt H6 l (as++[e]) (rr++[[]]):=R5.keep (zbe ny) (by simpa using nlp) λa ha=>by simpa using df a ha
  cases decide (j6>0) with
  |false=>exact iteF (stop _ _ b6 m6 H6 fP R6 k6)
  | true =>
   refine iteT ?_
   refine⟨_,rfl,_,rfl,p,b6,m6,_,rfl,fP,by omega,by omega,λj7 b7 m7 H7 qF hj71 aV nv=>?_⟩
   obtain⟨ot,rfl⟩:=Zw qF
   have qj:ot<rr.length:=by omega
   have k7:Keep [p] H H7:=k6.trans (zbe nv)
   have R7:NAt H7 l (as++[e]) (rr++[[]]):=R6.keep (zbe nv) (by simpa using nlp) λa ha=>by simpa using df a ha
   have bY:as.length=rr.length:=R3.len
   have lM:rr.length<(as++[e]).length:=by rw[Ql,bY];exact Wg _
   have hkR:rr.length<(rr++[[]]).length:=by rw[Ql];exact Wg _
   have a1:∀{c:Nat} (h:c<(as++[e]).length),atI ((as++[e]).map V.ref) (c:Int)=some (.ref (as++[e])[c]):=λh=>zav (by rw[Qu,Qc h];rfl)
   have ei:(0:Int)+(i:Int)=((rr.length:Nat):Int):=by omega
   have aS:=R7.row lM hkR
   have e0:(rr++[[]])[rr.length]'hkR=[]:=by simp
   rw[e0]at aS
   refine⟨_,rfl,_,rfl,l,_,_,.ref (as++[e])[rr.length],rfl,rfl,SqL.of R7.ls,(by rw[ei];exact a1 lM),.inl ⟨rfl,_,SqL.of aS⟩,_,rfl,_,_,_,rfl,rfl,aS,by decide,?_⟩
   have k8:Keep [p] H (upd H7 (as++[e])[rr.length] (.lst ([ot].map iV))):=λc u ec hc=>by
    rw[zaf (λz=>by rw[z,gz _ (Qn lM)]at ec;cases ec)];exact k7 c u ec hc
   have R8:=R7.set lM [ot]
   have nU:Pot (upd H7 (as++[e])[rr.length] (.lst ([ot].map iV))) p b7 m7:=aV.keep (xs:=[(as++[e])[rr.length]]) (Keep.wr (by simp)) (by simpa using Zo (df _ (Qn lM)))
   rw[show List.map iV ([]:List Nat)++[V.int (ot:Int)]=[ot].map iV from rfl]
   generalize upd H7 (as++[e])[rr.length] (.lst ([ot].map iV))=H8 at k8 R8 nU
   have cQ:ot<(as++[e]).length:=by omega
   have lF:ot<((rr++[[]]).set rr.length [ot]).length:=by rw[Ut];omega
   have d7:=R8.row cQ lF
   have e8:((rr++[[]]).set rr.length [ot])[ot]'(lF)=rr[ot]:=by
    rw[Xb (by omega),List.getElem_append_left qj]
   rw[e8]at d7
   have ql:rr[ot].length≤900:=by
    have:=zbn.rows mx _ (zhi qj)
    rw[show(rsN rr).length=rr.length by unfold rsN;rw[List.length_map,List.length_range]]at this
    exact Zj this (by omega)
   have hml8:(rr[ot].map iV).length=rr[ot].length:=Qa ..
   refine⟨_,rfl,_,rfl,l,_,_,_,rfl,rfl,SqL.of R8.ls,a1 cQ,.inl ⟨rfl,_,SqL.of d7⟩,_,rfl,_,rfl,_,rfl,l,_,_,_,rfl,rfl,SqL.of R8.ls,a1 cQ,_,_,rfl,.inl (SqL.of d7),_,_,rfl,rfl,p,b7,m7,_,rfl,nU,by omega,by omega,λj9 b9 m9 H9 qE hj91 hp9 oW=>?_⟩
   obtain⟨jn,rfl⟩:=Zw qE
   have o4:jn≤rr[ot].length:=by omega
   have lw:=oW _ _ d7 (df _ (Qn cQ))
   refine⟨_,rfl,_,_,_,jn,rfl,rfl,lw,by omega,by omega,?_⟩
   have R9:NAt H9 l (as++[e]) ((rr++[[]]).set rr.length [ot]):=R8.keep (zbe oW) (by simpa using nlp) λa ha=>by simpa using df a ha
   have e9:(rr[ot].map iV).take jn++V.int (0+(i:Int))::(rr[ot].map iV).drop jn=(rr[ot].take jn++rr.length::rr[ot].drop jn).map iV:=by
    rw[ei,Qs,Qj,Uw,Jw]
   rw[e9]
   refine⟨⟨_,_,rfl⟩,λc u ec hc=>?_,as++[e],_,b9,m9,R9.set cQ _,leaf_N mx qj o4,by rw[Ut,Ut];exact cH,hp9.keep (xs:=[(as++[e])[ot]]) (Keep.wr (by simp)) (by simpa using Zo (df _ (Qn cQ))),cq,gz⟩
   rw[zaf (λz=>by rw[z,gz _ (Qn cQ)]at ec;cases ec)]
   exact(k8.trans (zbe oW)) c u ec hc
 ·rintro σ H3 ⟨⟨x3,x4,rfl⟩,k3,as,rr,b3,m3,R3,mx,bi,bJ,bv,fg⟩
  have fQ:(as.map V.ref).length=rr.length:=by rw[Qa];exact R3.len
  refine⟨_,rfl,_,rfl,l,_,rfl,.inl (SqL.of R3.ls),_,_,rfl,rfl,_,rfl,l,_,rfl,.inl (SqL.of R3.ls),_,_,rfl,rfl,.inl ⟨by decide,by decide⟩,_,_,rfl,rfl,(by show 3≤sizeLine;decide),λq hq=>?_⟩
  have k4:Keep [] H3 (upd H3 q (.lst [.int 1,.int (((as.map V.ref).length:Int)+1),.int (3*((as.map V.ref).length:Int)+1)])):=Keep.new hq
  have nP:(upd H3 q (.lst [.int 1,.int (((as.map V.ref).length:Int)+1),.int (3*((as.map V.ref).length:Int)+1)])) q=some (.lst [.int 1,.int (((as.map V.ref).length:Int)+1),.int (3*((as.map V.ref).length:Int)+1)]):=zac
  have nqp:q≠p:=Zo (zab bJ.1 hq)
  generalize upd H3 q (.lst [.int 1,.int (((as.map V.ref).length:Int)+1),.int (3*((as.map V.ref).length:Int)+1)])=H4 at k4 nP
  have cb:=bJ.keep k4 (by simp)
  refine⟨_,rfl,p,b3,m3,3,rfl,cb,by decide,by decide,λj5 b5 m5 H5 ji qI aT gM=>?_⟩
  have fO:=gM _ _ nP nqp
  obtain⟨v,hv,hv1,hv2,hv3⟩:∃v:Int,atI [V.int 1,V.int (((as.map V.ref).length:Int)+1),V.int (3*((as.map V.ref).length:Int)+1)] j5=some (.int v)∧0<v∧v≤121∧(rr.length=0→v=1):=by
   obtain⟨jn,rfl⟩:=Zw ji
   have:jn=0∨jn=1∨jn=2:=by omega
   rcases this with rfl | rfl | rfl
   ·exact⟨_,zav rfl,by decide,by decide,λ_=>rfl⟩
   ·exact⟨_,zav rfl,by omega,by omega,λz=>by omega⟩
   ·exact⟨_,zav rfl,by omega,by omega,λz=>by omega⟩
  refine⟨q,_,_,.int v,rfl,rfl,SqL.of fO,hv,p,b5,m5,v,rfl,aT,hv1,by omega,λj6 b6 m6 H6 qH hj61 fP ny=>?_⟩
  have k6:Keep [p] H3 H6:=(k4.sub (by simp)).trans ((zbe gM).trans (zbe ny))
  have nap:∀a∈as,a≠p:=λa ha z=>bv (z▸ha)
  have R6:NAt H6 l as rr:=R3.keep k6 (by simpa using nlp) λa ha=>by simpa using nap a ha
  obtain⟨jn,rfl⟩:=Zw qH
  refine⟨_,rfl,by omega,by omega,?_⟩
  refine zc9 (lo:=0) (λi σ H'=>Aj3 (Ex2 λx3 x4=>σ=[some (.ref p),some (iV n),some (.ref l),x3,x4]) (Keep [p] H H') (Ex3 λ(de:List (List Nat)) (b' m':Int)=>Aj4 (NAt H' l as de) (Good (rsN de)) (de.length=rr.length) (Pot H' p b' m')))
   ⟨⟨_,_,rfl⟩,k3.trans k6,rr,b6,m6,R6,mx,rfl,fP⟩ ?_ ?_
  ·rintro i σ H7 hi ⟨⟨y3,y4,rfl⟩,k7,de,b7,m7,R7,sj,aQ,aV⟩
   refine⟨_,rfl,_,rfl,p,l,b7,m7,as,de,rfl,aV,R7,sj,by omega,by omega,bv,λb8 m8 rr8 H8 hl8 hG8 nU R8 k8=>?_⟩
   refine⟨⟨_,_,rfl⟩,λc u ec hc=>k8 c u (k7 c u ec hc) λz=>?_,rr8,b8,m8,R8,hG8,hl8.trans aQ,nU⟩
   rcases Qh.mp z with y | y
   ·exact hc (by rw[y];exact Qb.mpr rfl)
   ·rw[fg c y]at ec;cases ec
  ·rintro σ H7 ⟨⟨y3,y4,rfl⟩,k7,de,b7,m7,R7,sj,aQ,aV⟩
   exact⟨_,rfl,k l as de b7 m7 H7 R7 sj (by omega) aV bv hl fg k7⟩
end
end K21
end
section
namespace L2
open PySem PySem.Spec PyProof.Rows
theorem picks_to(cs:List Nat):∀b:Nat,b≤cs.length→(List.range b).filterMap (cs[·]?)=cs.take b
 |0,_=>by simp
 |b+1,h=>by
  rw[Xy,List.filterMap_append,picks_to cs b (by omega),Qo (by omega)]
  simp[Qc (show b<cs.length by omega)]
def indices_to{b n:Nat}(h:b≤n):PySem.Builtin.Str.strSliceIndices none (some (b:Int)) 1 n=List.range b:=by
 have:=PySem.StrLaws.strSliceIndices_plain (a:=0) (b:=b) (len:=n) (Zn _) h
 have e:PySem.Builtin.Str.strSliceIndices none (some (b:Int)) 1 n=PySem.Builtin.Str.strSliceIndices (some ((0:Nat):Int)) (some (b:Int)) 1 n:=by
  unfold PySem.Builtin.Str.strSliceIndices
  simp
  rw[show max (0:Int) (min 0 (n:Int))=0 by omega]
 rw[e,this]
 simp
section
variable{X:Cx}
def sl_strP:SlR X (λx lo hi H Q=>Ex2 λ(z:Str) (j:Nat)=>Aj6 (x=.str z) (lo=none) (hi=some (j:Int)) (j≤z.length) (z.length≤sizeLine) (∀y:Str,y.cps.toList=z.cps.toList.take j→Q (.str y) H)):=by
 intro a6 s σ H x v vl vu lo hi sl Q I rx hs pl pu h
 obtain⟨z,j,rfl,rfl,rfl,hj,hz,q⟩:=h
 obtain⟨t,rfl⟩:=rx
 cases pl
 cases pu
 rename_i tj
 have hi:=indices_to hj
 have aa:z.cps.toList.length=z.length:=by simp[Str.length]
 refine⟨"str",_,PySem.F.slot_str_getitem.lookup,typeIs_str s z t,wpAny_getItem_str_slice (l:=none) (u:=some ((j:Int),tj)) (st:=none) hs rfl ?_⟩
 have e1:slicePicked z none (some ((j:Int),tj)) none=List.range j:=hi
 unfold sliceMade
 rw[e1]
 split
 ·rename_i hc
  have bE:j=z.length:=by simpa using hc
  exact⟨.str z,H,I,⟨t,rfl⟩,q z (by rw[bE,←aa,List.take_length])⟩
 ·refine ⟨?_,⟨.str _,H,I.tok _,⟨_,rfl⟩,q _ ?_⟩⟩
  ·show ((List.range j).filterMap (z.cps[·]?)).toArray.size≤sizeLine
   rw[Qq]
   exact Zj (List.length_filterMap_le ..) (by rw[Wl];exact Zj hj hz)
  ·show ((List.range j).filterMap (z.cps[·]?)).toArray.toList=_
   rw[List.toList_toArray]
   have:=picks_to z.cps.toList j (by rw[aa];exact hj)
   rw[←this]
   simp
end
end L2
end
section
namespace K21
open PySem L2 Wb
abbrev sCount:Stmt:=top 26
abbrev sNames:Stmt:=top 27
def cntF(ls:List Nat):Nat→Nat→List Nat
 |0,_=>[]
 |f+1,n=>if n=0 then[] else cntF ls f ((n-1)/ls.length)++[ls.getD ((n-1)%ls.length) 0]
theorem cntF_zero(ls:List Nat):∀f,cntF ls f 0=[]
 |0=>rfl
 |_+1=>rfl
inductive IspCount(vs:List V)(H:Hp)(Q:VK):Prop
 |mk (n:Nat) (ls:Str) (h0:vs=[iV n,.str ls]) (h1:n≤1000) (h2:2≤ls.length) (h3:ls.length≤1000) (h4:∀z:Str,z.cps.toList=cntF ls.cps.toList n n→Q (.str z) H):IspCount vs H Q
def spCount:Sp:=λvs H Q _=>IspCount vs H Q
def str_len(z:Str):z.cps.toList.length=z.length:=by simp[Str.length]
def ziu(a b:Str):(a++b).cps.toList=a.cps.toList++b.cps.toList:=by
 show(a.cps++b.cps).toList=_
 simp
def app_len(a b:Str):(a++b).length=a.length+b.length:=by
 rw[←str_len,←str_len,←str_len,ziu,Ql]
section
variable{P:Nj}{w:Nl}{K:Nb}{mg:Nf}{base:Nn}
def zia:zas ["_law_number", "_law_letters", "_law_name"] ["_law_number", "_law_letters"] (zag sCount):=fsk
def ok_count(F:Fun K "_law_counted" "_law_counted" sCount f fd)(aa:mg "len" = none):FnOk P w K mg base CX0 1 f fd ["_law_number", "_law_letters"] spCount:=by
 refine F.okL zia (λcdv A outer s H vs Q E hr h=>?_)
 obtain⟨n,ls,rfl,hn,ak,gu,k⟩:=h
 have aP:=sizeLine_eq
 refine⟨_,zae (zaw 2 zia.nd zd3)
  (zae (zdy Zm (za4 op_gt (pv 0) zai (zb8 _))
   (zae (zaw 2 zia.nd (zat zfj (za7 ix_str (pv 1) (zat zco (zat op_sub (pv 0) zai) (zaj zb9 (by rfl) aa Zu (zaa (pv 1) zad))) (λ_ _=>rfl)) (pv 2)))
   (zah (zaw 0 zia.nd (zat zfi (zat op_sub (pv 0) zai) (zaj zb9 (by rfl) aa Zu (zaa (pv 1) zad)))))))
  (zah (zbh (pv 2)))),?_⟩
 have jb:=str_len ls
 refine⟨λm σ H'=>Ex3 λ(c f:Nat) (z:Str)=>Aj6 (m=c) (σ=[some (iV c),some (.str ls),some (.str z)]) (H'=H) (c≤f) (cntF ls.cps.toList f c++z.cps.toList=cntF ls.cps.toList n n) (z.length+c≤n),
  ⟨n,n,n, "",rfl,rfl,rfl,Qf _,by simp;rfl,by show 0+n≤n;omega⟩,?_⟩
 rintro m σ H' ⟨c,f,z,rfl,rfl,rfl,hcf,he,dS⟩
 refine⟨_,rfl,_,_,rfl,rfl,_,rfl,?_⟩
 by_cases h0:m=0
 ·subst h0
  refine zbs (decide_eq_false (by omega)) ?_
  rw[cntF_zero]at he
  exact⟨_,rfl,k z he⟩
 ·refine zb2 (decide_eq_true (by omega)) ?_
  cases f with
  |zero=>omega
  | succ f =>
   have e1:(m:Int)-1=((m-1:Nat):Int):=by omega
   have qt:(m-1)%ls.length<ls.length:=Ue _ (by omega)
   have da:atI ls.cps.toList (((m:Int)-1)%(ls.length:Int))=some (ls.cps.toList.getD ((m-1)%ls.length) 0):=by
    rw[e1,←Int.natCast_emod]
    refine zav ?_
    rw[Qw,Qc (by rw[jb];exact qt)];rfl
   refine⟨_,λ σ' H' z=>z,?_⟩
   refine⟨_,rfl,_,rfl,_,_,rfl,rfl,_,rfl,_,rfl,by omega,_,_,rfl,rfl,by show(0:Int)<(ls.length:Int);omega,_,_,_,rfl,rfl,by omega,da,_,rfl,_,_,rfl,rfl,by show 1+z.length≤sizeLine;omega,?_⟩
   refine⟨_,rfl,_,_,rfl,rfl,_,rfl,_,rfl,by omega,_,_,rfl,rfl,⟨by omega,by omega⟩,?_⟩
   have e2:((m:Int)-1)/(ls.length:Int)=(((m-1)/ls.length:Nat):Int):=by rw[e1];exact(Int.natCast_ediv ..).symm
   have jc:(m-1)/ls.length≤m-1:=Nat.div_le_self _ _
   rw[e2]
   refine⟨(m-1)/ls.length,by omega,(m-1)/ls.length,f,_,rfl,rfl,rfl,by omega,?_,?_⟩
   ·rw [← he,ziu]
    show cntF _ f _++([_]++_)=(if m=0 then[] else cntF ls.cps.toList f ((m-1)/ls.cps.toList.length)++[ls.cps.toList.getD ((m-1)%ls.cps.toList.length) 0])++_
    rw[if_neg h0,jb,Qm]
   ·rw [app_len]
    show 1+z.length+(m-1)/ls.length≤n
    omega
end
def zcy(j:Nat):Str:=[("ab" : Str), "za", "xyz", "qn"].getD j "ab"
def nmF(way many first mV:Nat)(tl:List Nat)(k:Nat):List Nat :=
 if way=0∧many≤26 then[97+(first+mV*k)%676%26]
 else if way=1 then cntF (zcy (tl.length%4)).cps.toList (1+(first+mV*k)%97) (1+(first+mV*k)%97)
 else[97+(first+mV*k)%676/26,97+(first+mV*k)%676%26]++tl.take ((first+k)%(tl.length+1))
def cnt_nd:∀j<4,((List.range 97).map λi=>cntF (zcy j).cps.toList (1+i) (1+i)).Nodup:=by decide +kernel
def cnt_ok:∀j<4,∀i<97,1≤(cntF (zcy j).cps.toList (1+i) (1+i)).length∧(cntF (zcy j).cps.toList (1+i) (1+i)).length≤8∧∀c∈cntF (zcy j).cps.toList (1+i) (1+i),97≤c∧c≤122:=by decide +kernel
def cnt_inj{j a b:Nat}(hj:j<4)(ha:a<97)(hb:b<97)(h:cntF (zcy j).cps.toList (1+a) (1+a)=cntF (zcy j).cps.toList (1+b) (1+b)):a=b:=by
 refine(Wq (h₀:=by rw[Qa,Wl];exact ha) (h₁:=by rw[Qa,Wl];exact hb) (cnt_nd j hj)).mp ?_
 rw[Zi,Zi,Kd,Kd]
 exact h
def byS:List Nat:=[1,3,5,7,9,25,27,675]
def by_inj{b f a c:Nat}(hb:b∈byS)(ha:a<40)(hc:c<40)(h:(f+b*a)%676=(f+b*c)%676):a=c:=by
 simp[byS]at hb
 rcases hb with rfl | rfl | rfl | rfl | rfl | rfl | rfl | rfl<;>omega
def by_inj97{b f a c:Nat}(hb:b∈byS)(ha:a<40)(hc:c<40)(h:(f+b*a)%97=(f+b*c)%97):a=c:=by
 simp[byS]at hb
 rcases hb with rfl | rfl | rfl | rfl | rfl | rfl | rfl | rfl<;>omega
def by_inj26{b f a c:Nat}(hb:b∈byS)(ha:a<26)(hc:c<26)(h:(f+b*a)%676%26=(f+b*c)%676%26):a=c:=by
 simp[byS]at hb
 rcases hb with rfl | rfl | rfl | rfl | rfl | rfl | rfl | rfl<;>omega
def nm_inj{way many f b a c:Nat}{tl:List Nat}(hb:b∈byS)(hm:many≤40)(ha:a<many)(hc:c<many)(h:nmF way many f b tl a=nmF way many f b tl c):a=c:=by
 unfold nmF at h
 split at h
 ·rename_i z
  have h:97+(f+b*a)%676%26=97+(f+b*c)%676%26:=by injection h
  exact by_inj26 (f:=f) hb (by omega) (by omega) (by omega)
 ·split at h
  ·exact by_inj97 hb (by omega) (by omega) (cnt_inj (Ue _ (by decide)) (Ue _ (by decide)) (Ue _ (by decide)) h)
  ·rw [Yo,Yo,Yo,Yo] at h
   injection h with h1 h2
   injection h2 with h2 _
   exact by_inj (f:=f) hb (by omega) (by omega) (by omega)
def nm_ok{way many f b k:Nat}{tl:List Nat}(ht:tl.length≤6)(hc:∀c∈tl,97≤c∧c≤122):1≤(nmF way many f b tl k).length∧(nmF way many f b tl k).length≤8∧∀c∈nmF way many f b tl k,97≤c∧c≤122:=by
 unfold nmF
 split
 ·refine ⟨Qf _,by show 1≤8;decide,fun c h=>?_⟩
  rw[Qb.mp h];omega
 ·split
  ·exact cnt_ok _ (Ue _ (by decide)) _ (Ue _ (by decide))
  ·refine ⟨by simp,by simp [Zf];omega,fun c h=>?_⟩
   rw[Yo,Yo,Jj,Qh,Qh]at h
   rcases h with h | h | h
   ·omega
   ·omega
   ·exact hc c (Wd h)
def cnt_not:∀j<4,∀i<97,cntF (zcy j).cps.toList (1+i) (1+i)≠("nobody" : Str).cps.toList:=by decide +kernel
def nm_not{way many f b k:Nat}{tl:List Nat}(ht:∀ c t,tl=c::t→c=110):nmF way many f b tl k≠("nobody" : Str).cps.toList:=by
 have e:("nobody" : Str).cps.toList=[110,111,98,111,100,121]:=rfl
 unfold nmF
 split
 ·rw[e];simp
 ·split
  ·exact cnt_not _ (Ue _ (by decide)) _ (Ue _ (by decide))
  ·rw [e]
   intro h
   rw[Yo,Yo,Jj]at h
   injection h with _ h
   injection h with _ h
   cases tl with
   |nil=>simp at h
   | cons c t =>
    have:=ht c t rfl
    cases hk:(f+k)%((c::t).length+1) with
    |zero=>rw[hk]at h;simp at h
    |succ n =>
     rw[hk,List.take_succ_cons]at h
     injection h with h _
     omega
inductive IspNames(vs:List V)(H:Hp)(Q:VK):Prop
 |mk (p:Nc) (b m:Int) (n:Nat) (h0:vs=[.ref p,iV n]) (h1:Pot H p b m) (h2:n≤40) (h3:∀(l:Nc) (zs:Ni) (b' m':Int) (H':Hp),H' l=some (.lst (zs.map V.str))→zs.length=n→zs.Nodup→(∀z∈zs,zdo z∧z ≠ "nobody")→Pot H' p b' m'→H l=none→Keep [p] H H'→Q (.ref l) H'):IspNames vs H Q
def spNames:Sp:=λvs H Q _=>IspNames vs H Q
section
variable{P:Nj}{w:Nl}{K:Nb}{mg:Nf}{base:Nn}
def zc0:zas [qP,qM, "_law_letters", "_law_first", "_law_by", "_law_tail", "_law_way", "_law_found", "_law_k", "_law_at", "_law_name"] [qP,qM] (zag sNames):=fsk
def ok_names(F:Fun K "_law_names" "_law_names" sNames f fd)(FT:Fun K qG qG zfs ft fdt)(bT:Binds K fdt [qP,qM] [])(mT:mg qG=some (.ref ft))(GT:FnOk P w K mg base CX0 1 ft fdt [qP,qM] zhn)(FC:Fun K "_law_counted" "_law_counted" sCount fc fdc)(bC:Binds K fdc ["_law_number", "_law_letters"] [])(mC:mg "_law_counted" = some (.ref fc))(GC:FnOk P w K mg base CX0 1 fc fdc ["_law_number", "_law_letters"] spCount)(aa:mg "len" = none)(bu:mg "range" = none):FnOk P w K mg base CX0 2 f fd [qP,qM] spNames:=by
 refine F.okL zc0 (λcdv A outer s H vs Q E hr h=>?_)
 obtain⟨p,b,m,n,rfl,hp,hn,k⟩:=h
 have aP:=sizeLine_eq
 refine⟨_,zae (zaw 2 zc0.nd zd3)
  (zae (zaw 3 zc0.nd (zam GT hr rfl mT FT.kp bT .nil za2 (zaa (pv 0) (zaa zai zad))))
  (zae (zaw 4 zc0.nd (za7 zau (zbi (zaa zai (zaa zai (zaa zai (zaa zai (zaa zai (zaa zai (zaa zai (zaa zai zad))))))))) (zam GT hr rfl mT FT.kp bT .nil za2 (zaa (pv 0) (zaa zai zad))) (λ_ _=>rfl)))
  (zae (zaw 5 zc0.nd (zby sl_strP zd3 zb1 (zcb (zam GT hr rfl mT FT.kp bT .nil za2 (zaa (pv 0) (zaa zai zad))))))
  (zae (zaw 6 zc0.nd (zam GT hr rfl mT FT.kp bT .nil za2 (zaa (pv 0) (zaa zai zad))))
  (zae (zaw 7 zc0.nd (zbi zad))
  (zae (zbm Zm rfl (zc5 rfl bu (zaa (pv 1) zad)) (za8 8 zc0.nd)
   (zae (zaw 9 zc0.nd (zat zco (zat zbo (pv 3) (zat zgr (pv 4) (pv 8))) zai))
   (zah (zc2 (PW.pt (pw_and (za4 op_eq (pv 6) zai (zb8 _)) (pw_and1 (za4 op_le (pv 1) zai (zb8 _)))))
    (zah (zay (zb7 Qy Zq Zp za1 (pv 7) (zaa (za7 ix_str (pv 2) (zat zco (pv 9) zai) (λ_ _=>rfl)) zad))))
    (zah (zc2 (za4 op_eq (pv 6) zai (zb8 _))
     (zah (zay (zb7 Qy Zq Zp za1 (pv 7) (zaa (zam GC hr rfl mC FC.kp bC .nil za2 (zaa (zat zbo zai (zat zco (zat zbo (pv 3) (zat zgr (pv 4) (pv 8))) zai)) (zaa (za7 zau (zbi (zaa zd3 (zaa zd3 (zaa zd3 (zaa zd3 zad))))) (zat zco (zaj zb9 (by rfl) aa Zu (zaa (pv 5) zad)) zai) (λ_ _=>rfl)) zad))) zad))))
     (zae (zaw 10 zc0.nd (zat zfj (za7 ix_str (pv 2) (zat zfi (pv 9) zai) (λ_ _=>rfl)) (za7 ix_str (pv 2) (zat zco (pv 9) zai) (λ_ _=>rfl))))
     (zah (zay (zb7 Qy Zq Zp za1 (pv 7) (zaa (zat zfj (pv 10) (zby sl_strP (pv 5) zb1 (zcb (zat zco (zat zbo (pv 3) (pv 8)) (zat zbo (zaj zb9 (by rfl) aa Zu (zaa (pv 5) zad)) zai))))) zad)))))))))))
  (zah (zbh (pv 7))))))))),?_⟩
 refine⟨_,rfl,p,b,m,676,rfl,hp,by decide,by decide,λd1 b1 m1 H1 i8 on cP oZ=>?_⟩
 refine⟨(by show 8≤sizeLine;decide),λq hq=>?_⟩
 have k2:Keep [p] H (upd H1 q (.lst [.int 1,.int 3,.int 5,.int 7,.int 9,.int 25,.int 27,.int 675])):=(zbe oZ).trans (Keep.new hq)
 have aL:Pot (upd H1 q (.lst [.int 1,.int 3,.int 5,.int 7,.int 9,.int 25,.int 27,.int 675])) p b1 m1:=cP.keep (xs:=[]) (Keep.new hq) (by simp)
 have cF:(upd H1 q (.lst [.int 1,.int 3,.int 5,.int 7,.int 9,.int 25,.int 27,.int 675])) q=some (.lst [.int 1,.int 3,.int 5,.int 7,.int 9,.int 25,.int 27,.int 675]):=zac
 have nqp:q≠p:=Zo (zab cP.1 hq)
 generalize upd H1 q (.lst [.int 1,.int 3,.int 5,.int 7,.int 9,.int 25,.int 27,.int 675])=H2 at k2 aL cF
 obtain⟨f,rfl⟩:=Zw i8
 refine⟨_,rfl,p,b1,m1,8,rfl,aL,by decide,by decide,λd3 b3 m3 H3 h30 h31 bJ nz=>?_⟩
 have hq3:=nz _ _ cF nqp
 have k3:=k2.trans (zbe nz)
 obtain⟨bb,da,og⟩:∃bb:Nat,atI [V.int 1,V.int 3,V.int 5,V.int 7,V.int 9,V.int 25,V.int 27,V.int 675] d3=some (iV bb)∧bb∈byS:=by
  obtain⟨jn,rfl⟩:=Zw h30
  have hj:jn<8:=by omega
  have:∀j:Fin 8,∃bb∈byS,[V.int 1,V.int 3,V.int 5,V.int 7,V.int 9,V.int 25,V.int 27,V.int 675][j.1]?=some (iV bb):=by decide
  obtain⟨bb,h1,h2⟩:=this ⟨jn,hj⟩
  exact⟨bb,zav h2,h1⟩
 have hbb2:bb≤675:=by
  have:∀x∈byS,x≤675:=by decide
  exact this bb og
 refine⟨q,_,_,iV bb,rfl,rfl,SqL.of hq3,da,?_⟩
 refine⟨_,rfl,p,b3,m3,7,rfl,bJ,by decide,by decide,λd4 b4 m4 H4 h40 h41 cb kX=>?_⟩
 obtain⟨j4,rfl⟩:=Zw h40
 have k4:=k3.trans (zbe kX)
 refine⟨_,rfl,_,j4,rfl,rfl,rfl,by show j4≤6;omega,by decide,λtl jU=>?_⟩
 have pM:tl.cps.toList.length≤6:=by rw[jU,Zf];omega
 have pL:∀c∈tl.cps.toList,97≤c∧c≤122:=λc hc=>by
  rw[jU]at hc
  have:∀x∈("nqxbkw" : Str).cps.toList,97≤x∧x≤122:=by decide +kernel
  exact this c (Wd hc)
 have pN:∀c t,tl.cps.toList=c::t→c=110:=λc t ht=>by
  rw[jU]at ht
  cases j4 with
  |zero=>cases ht
  |succ j =>
   rw[show("nqxbkw" : Str).cps.toList=110::[113,120,98,107,119] from rfl,List.take_succ_cons]at ht
   injection ht with h _
   exact h.symm
 have lq:=str_len tl
 refine⟨_,rfl,p,b4,m4,3,rfl,cb,by decide,by decide,λd5 b5 m5 H5 h50 h51 aT gM=>?_⟩
 obtain⟨wy,rfl⟩:=Zw h50
 have k5:=k4.trans (zbe gM)
 refine⟨(by show 0≤sizeLine;decide),λl hl=>?_⟩
 have k6:Keep [p] H (upd H5 l (.lst [])):=k5.trans (Keep.new hl)
 have nlp:l≠p:=Zo (zab aT.1 hl)
 have flH:H l=none:=zaq k5 hl (by simpa using nlp)
 have fP:Pot (upd H5 l (.lst [])) p b5 m5:=aT.keep (xs:=[]) (Keep.new hl) (by simp)
 have hl6:(upd H5 l (.lst [])) l=some (.lst (([]:List Str).map V.str)):=zac
 generalize upd H5 l (.lst [])=H6 at k6 fP hl6
 refine⟨_,rfl,(n:Int),rfl,by omega,by omega,?_⟩
 rw[Jr]
 refine zc9 (lo:=0) (λi σ H'=>Aj4 (Ex3 λx8 x9 kI=>σ=[some (.ref p),some (iV n),some (.str zdv),some (iV f),some (iV bb),some (.str tl),some (iV wy),some (.ref l),x8,x9,kI]) (Keep [p] H H') (Pot H' p b5 m5) (Ex1 λzs:List Str=>Aj2 (H' l=some (.lst (zs.map V.str))) (zs.map (·.cps.toList)=(List.range i).map (nmF wy n f bb tl.cps.toList))))
  ⟨⟨_,_,_,rfl⟩,k6,fP,[],hl6,rfl⟩ ?_ ?_
 ·rintro i σ H7 hi ⟨⟨x8,x9,kI,rfl⟩,k7,aV,zs,aQ,jP⟩
  have dS:zs.length=i:=by
   have:=congrArg List.length jP
   rwa[Qa,Qa,Wl]at this
  have fin:∀(y8 y9 y10:Option V) (z:Str) (H8:Hp),Keep [] H7 H8→z.cps.toList=nmF wy n f bb tl.cps.toList i→Aj4 (Ex3 λx8 x9 kI=>[some (V.ref p),some (iV n),some (.str zdv),some (iV f),some (iV bb),some (.str tl),some (iV wy),some (.ref l),y8,y9,y10]=[some (V.ref p),some (iV n),some (.str zdv),some (iV f),some (iV bb),some (.str tl),some (iV wy),some (.ref l),x8,x9,kI]) (Keep [p] H (upd H8 l (.lst (zs.map V.str++[.str z])))) (Pot (upd H8 l (.lst (zs.map V.str++[.str z]))) p b5 m5) (Ex1 λcA:List Str=>Aj2 ((upd H8 l (.lst (zs.map V.str++[.str z]))) l=some (.lst (cA.map V.str))) (cA.map (·.cps.toList)=(List.range (i+1)).map (nmF wy n f bb tl.cps.toList))):=λy8 y9 y10 z H8 k8 hz =>
   ⟨⟨_,_,_,rfl⟩,λc u ec hc=>by rw[zaf (zab ec flH)];exact k8 _ _ (k7 c u ec hc) (by simp),(aV.keep k8 (by simp)).keep (xs:=[l]) (Keep.wr (by simp)) (by simpa using Zo nlp),zs++[z],by rw[zac,Qs];rfl,by rw[Qs,jP,Xy,Qs,Qj,Qj,hz];rfl⟩
  have e9:((f:Int)+(bb:Int)*(0+(i:Int)))%676=(((f+bb*i)%676:Nat):Int):=by rw[Xx,←Int.natCast_mul,←Int.natCast_add];rfl
  have e97:((f:Int)+(bb:Int)*(0+(i:Int)))%97=(((f+bb*i)%97:Nat):Int):=by rw[Xx,←Int.natCast_mul,←Int.natCast_add];rfl
  refine⟨_,rfl,_,rfl,_,rfl,_,_,rfl,rfl,.inl ⟨by omega,by omega⟩,_,_,rfl,rfl,_,_,rfl,rfl,by decide,?_⟩
  rw[e9]
  have hat6:(f+bb*i)%676<676:=Ue _ (by decide)
  have qv:(((f+bb*i)%676:Nat):Int)%26=(((f+bb*i)%676%26:Nat):Int):=rfl
  have gW:atI zdv.cps.toList ((((f+bb*i)%676:Nat):Int)%26)=some (97+(f+bb*i)%676%26):=by
   rw[qv];exact letter_at (by omega) (by omega)
  refine⟨_,rfl,rfl,_,rfl,?_⟩
  have bG:(zs.map V.str).length<sizeLine:=by rw[Qa];omega
  by_cases hA:wy=0∧n≤26
  ·refine zb2 (decide_eq_true (by rw [hA.1];rfl)) ⟨_,rfl,_,_,rfl,rfl,_,rfl,zb2 (decide_eq_true (by omega)) ?_⟩
   refine⟨_,rfl,.inl ⟨rfl,_,SqL.of aQ⟩,_,rfl,_,rfl,_,_,rfl,rfl,by decide,_,_,_,rfl,rfl,zed,gW,l,_,_,rfl,rfl,aQ,bG,?_⟩
   exact fin _ _ _ _ H7 Keep.refl (by unfold nmF;rw[if_pos hA])
  have hc:(wy=0∧¬n≤26)∨wy≠0:=by omega
  rcases hc with⟨hw,hn26⟩ | hw
  refine zb2 (decide_eq_true (by rw[hw];rfl)) ⟨_,rfl,_,_,rfl,rfl,_,rfl,zbs (decide_eq_false (by omega)) ?_⟩
  rotate_left
  refine zbs (decide_eq_false (λz=>hw (by injection z;omega))) (iteF ?_)
  all_goals
   refine⟨_,rfl,rfl,_,rfl,?_⟩
   by_cases h1:wy=1
   ·refine zb2 (decide_eq_true (by rw [h1];rfl)) ?_
    refine⟨_,rfl,.inl ⟨rfl,_,SqL.of aQ⟩,_,rfl,_,rfl,_,rfl,_,_,rfl,rfl,.inl ⟨by omega,by omega⟩,_,_,rfl,rfl,_,_,rfl,rfl,by decide,_,_,rfl,rfl,(by show 4≤sizeLine;decide),λq8 lC=>?_⟩
    have qK:tl.length%4<4:=Ue _ (by decide)
    have rT:atI [V.str "ab",V.str "za",V.str "xyz",V.str "qn"] ((tl.length:Int)%4)=some (.str (zcy (tl.length%4))):=by
     rw[show(tl.length:Int)%4=((tl.length%4:Nat):Int) from rfl]
     have:∀j:Fin 4,[V.str "ab",V.str "za",V.str "xyz",V.str "qn"][j.1]?=some (.str (zcy j.1)):=by decide
     exact zav (this ⟨_,qK⟩)
    have gZ:∀j<4,2≤(zcy j).length∧(zcy j).length≤1000:=by decide +kernel
    have k8:Keep [] H7 (upd H7 q8 (.lst [.str "ab",.str "za",.str "xyz",.str "qn"])):=Keep.new lC
    refine⟨_,rfl,tl,rfl,by omega,_,_,rfl,rfl,by decide,q8,_,_,.str (zcy (tl.length%4)),rfl,rfl,SqL.of zac,rT,1+(f+bb*i)%97,zcy (tl.length%4),by rw[e97];rfl,by have:=Ue (f+bb*i) (show 0<97 by decide);omega,(gZ _ qK).1,(gZ _ qK).2,λz hz=>?_⟩
    refine⟨l,_,_,rfl,rfl,k8 _ _ aQ (by simp),bG,?_⟩
    exact fin _ _ _ z _ k8 (by unfold nmF;rw[if_neg hA,if_pos h1,lq];exact hz)
   ·refine zbs (decide_eq_false (fun z=>h1 (by injection z;omega))) ?_
    have qw:atI zdv.cps.toList ((((f+bb*i)%676:Nat):Int)/26)=some (97+(f+bb*i)%676/26):=by
     rw[show(((f+bb*i)%676:Nat):Int)/26=(((f+bb*i)%676/26:Nat):Int) from rfl];exact letter_at (by omega) (by omega)
    refine⟨_,rfl,_,rfl,_,_,rfl,rfl,⟨by decide,by decide⟩,_,_,_,rfl,rfl,zed,qw,_,rfl,_,rfl,_,_,rfl,rfl,by decide,_,_,_,rfl,rfl,zed,gW,_,_,rfl,rfl,by show 1+1≤sizeLine;decide,?_⟩
    have hjm:(f+i)%(tl.length+1)<tl.length+1:=Ue _ (Nat.succ_pos _)
    refine⟨_,rfl,.inl ⟨rfl,_,SqL.of aQ⟩,_,rfl,_,rfl,_,rfl,_,rfl,_,_,rfl,rfl,_,rfl,tl,rfl,by omega,_,_,rfl,rfl,_,_,rfl,rfl,by show(0:Int)<(tl.length:Int)+1;omega,_,rfl,tl,(f+i)%(tl.length+1),rfl,rfl,by rw[Xx];rfl,by omega,by omega,λy hy=>?_⟩
    have hyl:y.length≤6:=by rw[←str_len,hy,Zf];omega
    refine⟨_,_,rfl,rfl,by rw[app_len];show 1+1+y.length≤sizeLine;omega,l,_,_,rfl,rfl,aQ,bG,?_⟩
    exact fin _ _ _ _ H7 Keep.refl (by unfold nmF;rw[if_neg hA,if_neg h1,ziu,ziu,hy,lq];rfl)
 ·rintro σ H7 ⟨⟨x8,x9,kI,rfl⟩,k7,aV,zs,aQ,jP⟩
  have dS:zs.length=n:=by
   have:=congrArg List.length jP
   rwa[Qa,Qa,Wl]at this
  refine⟨_,rfl,k l zs b5 m5 H7 aQ dS ?_ (λz hz=>?_) aV flH k7⟩
  ·refine nodup_of_map (f:=fun z:Str=>z.cps.toList) ?_
   rw[jP]
   exact zgw λa ha c hc h=>nm_inj og hn ha hc h
  ·have:z.cps.toList∈(List.range n).map (nmF wy n f bb tl.cps.toList):=by rw [← jP];exact Qk.mpr ⟨z,hz,rfl⟩
   obtain⟨j,_,e⟩:=Qk.mp this
   have:=nm_ok (way:=wy) (many:=n) (f:=f) (b:=bb) (k:=j) pM pL
   rw[e]at this
   have cG:=nm_not (way:=wy) (many:=n) (f:=f) (b:=bb) (k:=j) pN
   rw[e]at cG
   exact⟨⟨by rw[←str_len];exact this.1,by rw[←str_len];exact this.2.1,this.2.2⟩,λz=>cG (by rw[z])⟩
end
end K21
end
section
namespace Wb
section
variable{α β:Type}[DecidableEq α][DecidableEq β]{ns:List α}{r:α→List α}{cs:List (List (α×α))}{f:α→β}{a9:α→α}{af:β→β}
def cert_mapL(hf:∀ x y,f x=f y→x=y)(C:Cert ns r cs a9){r':β→List β}(hr:∀ x,r' (f x)=(r x).map f)(dq:∀ y,(∀ x,y≠f x)→r' y=[])(hl:∀ x∈ns,af (f x)=f (a9 x)) :
  Cert (ns.map f) r' (cs.map λc=>c.map λs=>(f s.1,f s.2)) af:=by
 have hm:∀{y z},z∈r' y→∃x w,y=f x∧z=f w∧w∈r x:=λ{y z} h=>by
  by_cases hy:∃x,y=f x
  ·obtain ⟨x,rfl⟩:=hy
   rw[hr]at h
   obtain⟨w,hw,rfl⟩:=Qk.mp h
   exact⟨x,w,rfl,rfl,hw⟩
  ·rw [dq y fun x e=>hy ⟨x,e⟩] at h
   cases h
 have hb:∀{x w},w∈r x→f w∈r' (f x):=λh=>by rw[hr];exact Qk.mpr ⟨_,h,rfl⟩
 have hg:∀s t:α×α,(f s.1,f s.2)=(f t.1,f t.2)→s=t:=λs t e=>Ks (hf _ _ (congrArg Prod.fst e)) (hf _ _ (congrArg Prod.snd e))
 have iZ:∀{l:List α},l.Nodup→(l.map f).Nodup:=λnd=>Ws.mpr (nd.imp λh e=>h (hf _ _ e))
 have gA:(cs.map λc=>c.map λs=>(f s.1,f s.2)).flatten=cs.flatten.map λs=>(f s.1,f s.2):=List.map_flatten.symm
 refine⟨iZ C.nd,λy hy=>?_,λy=>?_,λy h=>?_,λx y h=>?_,?_,λs=>?_,λc hc=>?_,λx hx=>?_,λx y h=>?_,λx hx y hy e=>?_,λx hx=>?_⟩
 ·cases e:r' y with
  |nil=>rfl
  |cons z t =>
   obtain⟨x,w,rfl,_,hw⟩:=hm (y:=y) (z:=z) (by rw[e];exact Qd)
   exact absurd (Qk.mpr ⟨x,C.inn hw,rfl⟩) hy
 ·by_cases hy:∃ x,y=f x
  ·obtain ⟨x,rfl⟩:=hy
   rw[hr];exact iZ (C.rn x)
  ·rw[dq y λx e=>hy ⟨x,e⟩];exact Yb
 ·obtain ⟨x,w,e1,e2,hw⟩:=hm h
  have:=hf _ _ (e1.symm.trans e2)
  subst this
  exact C.ir _ hw
 ·obtain ⟨a,w,rfl,rfl,hw⟩:=hm h
  exact hb (C.sy _ _ hw)
 ·rw [gA]
  exact Ws.mpr (C.cf.imp λh e=>h (hg _ _ e))
 ·rw [gA]
  constructor
  ·intro h
   obtain⟨t,ht,rfl⟩:=Qk.mp h
   exact hb ((C.cm t).mp ht)
  ·intro h
   obtain⟨x,w,e1,e2,hw⟩:=hm h
   exact Qk.mpr ⟨(w,x),(C.cm (w,x)).mpr hw,Ks e2.symm e1.symm⟩
 ·obtain ⟨c0,i5,rfl⟩:=Qk.mp hc
  obtain⟨s,t,rfl,k⟩:=C.cy c0 i5
  refine⟨(f s.1,f s.2),_,rfl,lk_map (g:=λs:α×α=>(f s.1,f s.2)) (λy _=>?_) k⟩
  show(f y.2,nxt (r' (f y.2)) (f y.1))=(f y.2,f (nxt (r y.2) y.1))
  rw[hr,nxt_map hf]
 ·obtain ⟨x0,gO,rfl⟩:=Qk.mp hx
  rw[hl x0 gO]
  exact Qk.mpr ⟨_,C.ln x0 gO,rfl⟩
 ·obtain ⟨a,w,rfl,rfl,hw⟩:=hm h
  rw[hl w (C.inn' hw),hl a (C.inn hw),C.la a w hw]
 ·obtain ⟨x0,gO,rfl⟩:=Qk.mp hx
  obtain⟨y0,l6,rfl⟩:=Qk.mp hy
  rw[hl x0 gO,hl y0 l6]at e
  have:=C.co x0 gO y0 l6 (hf _ _ e)
  clear hy l6 e
  induction this with
  |refl=>exact .refl
  |step _ hz ih=>exact .step ih (hb hz)
 ·obtain ⟨x0,gO,rfl⟩:=Qk.mp hx
  rw[hl x0 gO]
  have e1:wt (ns.map f) r' af (f (a9 x0))=wt ns r a9 (a9 x0):=by
   unfold wt
   rw[Zk]
   refine zdw λx hx=>?_
   show(if af (f x)=f (a9 x0) then _ else _)=_
   rw[hl x hx,hr,Qa]
   by_cases h:a9 x=a9 x0
   ·rw [if_pos (congrArg f h),if_pos h]
    simp only[List.map_eq_nil_iff]
   ·rw[if_neg (λe=>h (hf _ _ e)),if_neg h]
  have e2:ct (cs.map λc=>c.map λs=>(f s.1,f s.2)) af (f (a9 x0))=ct cs a9 (a9 x0):=by
   unfold ct
   rw[Zk]
   refine zdw λc hc=>?_
   show(if(List.any (c.map λs=>(f s.1,f s.2)) λs=>decide (af s.1=f (a9 x0)))=true then _ else _)=_
   rw[List.any_map]
   have:(c.any ((λs:β×β=>decide (af s.1=f (a9 x0)))∘λs=>(f s.1,f s.2)))=c.any λs=>decide (a9 s.1=a9 x0):=by
    rw[Yr,Wa,Wa]
    have aA:∀s∈c,s.1∈ns:=λs hs=>C.inn' ((C.cm s).mp (Yf.mpr ⟨c,hc,hs⟩))
    constructor
    ·rintro ⟨s,hs,e⟩
     have e':=of_decide_eq_true e
     have e':af (f s.1)=f (a9 x0):=e'
     rw[hl _ (aA s hs)]at e'
     exact⟨s,hs,decide_eq_true (hf _ _ e')⟩
    ·rintro ⟨s,hs,e⟩
     have e':=of_decide_eq_true e
     exact⟨s,hs,decide_eq_true (by show af (f s.1)=_;rw[hl _ (aA s hs),e'])⟩
   rw[this]
  rw[e1,e2]
  exact C.eu x0 gO
end
end Wb
end
section
namespace L2
open PySem PySem.Spec PyProof.Rows
section
variable{X:Cx}
theorem fm_some{β γ:Type}{f:β→Option γ}{g:β→γ}:∀{l:List β},(∀x∈l,f x=some (g x))→l.filterMap f=l.map g
 |[],_=>rfl
 |a::t,h=>by rw[List.filterMap_cons,h a Qd,Qj,fm_some λx hx=>h x (Qg _ hx)]
def pick_rev(a8:Nh):slicePick a8.toArray none none (some (-1))=a8.reverse.toArray:=by
 unfold slicePick sliceBounds
 simp only[Option.getD_some,show ¬((-1:Int)>0) by decide,if_false,Qq]
 congr 1
 unfold sliceRange
 simp only[show ¬((-1:Int)>0) by decide,if_false]
 have hc:(if((a8.length:Int)-1) > -1 then(((a8.length:Int)-1) - -1 - -1-1)/(- -1) else 0).toNat=a8.length:=by
  split
  ·rw[show(- (-1:Int))=1 from rfl,Int.ediv_one];omega
  ·omega
 rw[hc,List.filterMap_map]
 have hk:∀k∈List.range a8.length,((a8.toArray[·]?)∘λ(k:Nat)=>(((a8.length:Int)-1)+-1*(k:Int)).toNat) k=some (a8.reverse.getD k .none):=λk hk=>by
  have hk:=Yp.mp hk
  have e:(((a8.length:Int)-1)+-1*(k:Int)).toNat=a8.length-1-k:=by omega
  show a8.toArray[(((a8.length:Int)-1)+-1*(k:Int)).toNat]?=_
  rw[e,List.getElem?_toArray,Qw,List.getElem?_reverse hk]
  rw[Qc (by omega)]
  rfl
 rw[fm_some hk]
 apply List.ext_getElem
 ·simp
 ·intro i h1 h2
  have h3:i<a8.reverse.length:=h2
  rw[Zi,Kd,Qw,Qc h3]
  rfl
def pe_rev(he:PE X e te):PE X (.Subscript e (.Slice none none (some (.UnaryOp .USub (.Constant (.int 1) k p4) p3)) p2) pos) (λ σ H Q=>te σ H λx H1=>Ex2 λa xs=>Aj3 (x=.ref a) (SqL X.K H1 a xs) (∀p,H1 p=none→Q (.ref p) (upd H1 p (.lst xs.reverse)))):=by
 intro a6 s σ H Q I h
 refine Subscript_ (thn (he a6 s σ H _ I h) λv s1 ⟨x,H1,I1,r1,a,xs,ex,hx,q⟩=>?_)
 subst ex
 cases r1
 refine wpAny_Slice (thn (zb1 (X:=X) a6 s1 σ H1 (λo H'=>o=none∧H'=H1) I1 ⟨rfl,rfl⟩) λvl s2 ⟨l,H2,I2,pl,el,eh⟩=>?_)
 subst el;subst eh
 refine thn (zb1 (X:=X) a6 s2 σ H2 (λo H'=>o=none∧H'=H2) I2 ⟨rfl,rfl⟩) λvu s3 ⟨l,H3,I3,pu,el,eh⟩=>?_
 subst el;subst eh
 refine thn (zcb (X:=X) (pe_un un_neg (zai (X:=X))) a6 s3 σ H3 (λo H'=>o=some (-1)∧H'=H3) I3 ⟨_,rfl,_,rfl,rfl,rfl⟩) λvs s4 ⟨l,H4,I4,ps,el,eh⟩=>?_
 subst el;subst eh
 have I5:Inv X a6 σ H4 {s4 with heap:=s4.heap.push {cls:=.type "slice",data:=.fields #[vl,vu,vs]}}:=I4.kept (t':=s4.toks) λb ob q=>Qi _ q
 obtain⟨a8,r,ht,hz⟩:=I5.list hx
 have aa:=r.length
 show wpAny (model X.prog X.w) X.A (subscriptTail e (.Slice none none (some (.UnaryOp .USub (.Constant (.int 1) k p4) p3)) p2) (.ref a) (.ref s4.heap.objs.size)) (EP X a6 σ Q) X.xe {s4 with heap:=s4.heap.push {cls:=.type "slice",data:=.fields #[vl,vu,vs]}}
 refine tail_any (ops:=[.ref a,.ref s4.heap.objs.size]) ht.isList.typeIs slot_list_getitem.lookup ?_ (by with_unfolding_all rfl)
 refine wpAny_getItem_list_slice ht.isList (Heap.IsSliceOf.new ..) pl pu ps (by decide) ?_ (by rw[Qq]<;>exact zd1 ‹_› ‹_›)
 rw[pick_rev]
 refine⟨.ref _,_,I5.laid (t':=s4.toks) (o:=.lst xs.reverse) (λb ob q=>Qi _ q) (Qf _) ?_,rfl,q _ (I5.hok.fresh (Qf _))⟩
 exact⟨by rw[List.length_reverse];exact hz,_,0,r.reverse,Zd _ rfl⟩
def any_range(bs:List Bool):(List.range bs.length).any (λi=>bs.getD i true)=bs.any id:=by
 rw[Yr,Wa,Wa]
 constructor
 ·rintro ⟨i,hi,h⟩
  have cI:=Yp.mp hi
  simp[List.getD,cI]at h
  exact⟨_,Qn cI,h⟩
 ·rintro ⟨x,hx,h⟩
  obtain⟨i,hi,e⟩:=Qx hx
  refine⟨i,Yp.mpr hi,?_⟩
  simp[List.getD,hi,e]
  exact h
def call_any(hc:X.calm=true):zce X (.builtin "any") (λxs H Q=>Ex2 λ(p:Nc) (bs:List Bool)=>Aj3 (xs=[.ref p]) (SqL X.K H p (bs.map V.bl)) (Q (.bl (bs.any id)) H)):=by
 intro a6 s σ H xs us Q I r h
 obtain⟨p,bs,rfl,hq,q⟩:=h
 obtain⟨u,rfl,rx⟩:=vals1 r
 cases rx
 refine call_any_walk (zfz hc I hq λa8 It h1 rv W st lt keep=>⟨It,_,_,_,_,_,λi=>bs.getD i true,rfl,W,st,λi v s' Q' E' e q'=>?_,λh' tk k=>⟨.bl (bs.any id),H,keep h' tk k,?_,q⟩⟩)
 ·have e':=zfa rv i v (by simpa using e)
  subst e'
  exact wpAny_truthy_bool q'
 ·have ak:=rv.length
  rw[Qa]at ak
  show Value.bool _=Value.bool _
  rw[Qq,←ak,any_range]
end
def lc_map{K:Nb}{g:TG}{te:TE}{Q:VK}{a:Nc}{τ:St}{H:Hp}{xs:List V}(T:St→Prop)(f:V→V)(ha:SqL K H a xs)(hn:xs.length≤sizeLine)(h0:T τ)(hs:∀x∈xs,∀τ,T τ→∀k:V→St→Hp→Prop,(∀τ2,T τ2→k (f x) τ2 H)→g x τ H λ τ2 H2=>te τ2 H2 λy H4=>k y τ2 H4)(q:∀D,H D=none→Q (.ref D) (upd H D (.lst (xs.map f)))):rLC g tAll te Q (Itl K a) τ H:=by
 refine⟨λi m ys τ H1=>Aj5 (H1=H) (T τ) (m=xs.length-i) (i≤xs.length) (ys=(xs.take i).map f),⟨_,rfl,h0,rfl,Zn _,rfl⟩,?_⟩
 rintro i m ys τ H1 ⟨rfl,ht,rfl,hi,rfl⟩
 by_cases ad:i<xs.length
 ·refine .inr ⟨⟨xs,xs[i],ha,Qc ad⟩,by rw [Qa,Zf];lia,?_⟩
  rintro x H' ⟨rfl,hx⟩
  have cg:=hx xs ha
  rw[Qc ad]at cg
  have iE:xs[i]=x:=Qt cg
  refine hs x (iE▸Qn ad) τ ht (λy τ2 H4=>∃m',m'<xs.length-i∧Aj5 (H4=H') (T τ2) (m'=xs.length-(i+1)) (i+1≤xs.length) ((xs.take i).map f++[y]=(xs.take (i+1)).map f)) λ τ2 h2=>?_
  exact⟨_,by exact zar1 ‹_›,rfl,h2,rfl,ad,by rw[Qo ad,Qs,iE];rfl⟩
 ·have e:i=xs.length:=by exact zar3 ‹_› ‹_›
  subst e
  refine .inl ⟨⟨xs,ha,Qf _⟩,λD hD=>?_⟩
  rw[Qv (Qf _)]
  exact q D hD
end L2
namespace K21
open PySem L2 Wb
def zhq{α β:Type}{R:α→β→Prop}{as:List α}{bs:List β}(h:Paired R as bs):Paired R as.reverse bs.reverse:=by
 induction h with
 |nil=>exact .nil
 |cons h t ih=>rw[Xj,Xj];exact zao ih (.cons h .nil)
end K21
namespace Wb
def zbl(zs:List PySem.Str)(k:Nat):PySem.Str:=zs.getD k ⟨#[200+k]⟩
open K21 in
def nameN_inj{zs:List PySem.Str}(nd:zs.Nodup)(ok:∀ z∈zs,zdo z)(a b:Nat)(h:zbl zs a=zbl zs b):a=b:=by
 unfold zbl at h
 rw[Qw,Qw]at h
 have bad:∀(i j:Nat) (hi:i<zs.length),zs[i]≠(⟨#[200+j]⟩:PySem.Str):=λi j hi e=>by
  have:=(ok _ (Qn hi)).2.2 (200+j) (by rw[e];exact Qd)
  omega
 by_cases ha:a<zs.length
 ·rw [Qc ha] at h
  by_cases hb:b<zs.length
  ·rw [Qc hb] at h
   exact(Wq nd).mp h
  ·rw [Ua (by omega)] at h
   exact absurd h (bad a b ha)
 ·rw [Ua (by omega)] at h
  by_cases hb:b<zs.length
  ·rw [Qc hb] at h
   exact absurd h.symm (bad b a hb)
  ·rw [Ua (by omega)] at h
   have h:(⟨#[200+a]⟩:PySem.Str)=⟨#[200+b]⟩:=h
   have:200+a=200+b:=by
    have:=congrArg (λz:PySem.Str=>z.cps.toList) h
    have:[200+a]=[200+b]:=this
    injection this
   omega
def nameN_lt{zs:List PySem.Str}{k:Nat}(h:k<zs.length):zbl zs k=zs[k]:=by
 unfold zbl
 rw[Qw,Qc h];rfl
def rsZ(rr:List (List Nat))(zs:List PySem.Str):Rs PySem.Str:=(List.range rr.length).map λk=>(zbl zs k,(rr.getD k []).map (zbl zs))
open K21 in
def good_Z{rr:List (List Nat)}{zs:List PySem.Str}(hG:Good (rsN rr))(nd:zs.Nodup)(ok:∀ z∈zs,zdo z):∃ cs a9,Cert ((List.range rr.length).map (zbl zs)) (row (rsZ rr zs)) cs a9:=by
 obtain⟨cs,a9,C⟩:=hG
 rw[zdu]at C
 have inj:=nameN_inj nd ok
 have hn:(rsZ rr zs).map (·.1)=(List.range rr.length).map (zbl zs):=by unfold rsZ;rw[List.map_map];rfl
 have aZ:((rsZ rr zs).map (·.1)).Nodup:=by
  rw[hn]
  exact Ws.mpr (Xr.imp λh e=>h (inj _ _ e))
 refine⟨_,λy=>zbl zs (a9 (((List.range rr.length).find? λk=>decide (zbl zs k=y)).getD 0)),cert_mapL (f:=zbl zs) inj C (λx=>?_) (λy hy=>?_) λx hx=>?_⟩
 ·by_cases hx:x < rr.length
  ·rw [row_N hx]
   refine(zft aZ (p:=(zbl zs x,(rr.getD x []).map (zbl zs))) (Qk.mpr ⟨x,Yp.mpr hx,rfl⟩)).trans ?_
   rw[Qw,Qc hx];rfl
  ·rw [row_No hx]
   refine zfg ?_
   rw[hn]
   intro z
   obtain⟨y,hy,e⟩:=Qk.mp z
   rw[inj _ _ e]at hy
   exact hx (Yp.mp hy)
 ·refine zfg ?_
  rw[hn]
  intro z
  obtain⟨x,_,e⟩:=Qk.mp z
  exact hy x e.symm
 ·show zbl zs (a9 _)=_
  have cg:x∈List.range rr.length:=hx
  have:((List.range rr.length).find? λk=>decide (zbl zs k=zbl zs x))=some x:=by
   cases h:(List.range rr.length).find? λk=>decide (zbl zs k=zbl zs x) with
   |none=>exact absurd (decide_eq_true rfl) (List.find?_eq_none.mp h x cg)
   |some k =>
    have:=List.find?_some h
    rw[inj _ _ (of_decide_eq_true this)]
  rw[this];rfl
end Wb
namespace K21
open PySem L2 Wb
abbrev sRows:Stmt:=top 32
abbrev sDrawn:Stmt:=top 33
inductive IspRowsD(vs:List V)(H:Hp)(Q:VK):Prop
 |mk (p l nl:Nc) (b m:Int) (as:Nk) (rr:List (List Nat)) (zs:Ni) (h0:vs=[.ref p,.ref l,.ref nl]) (h1:Pot H p b m) (h2:NAt H l as rr) (h3:Good (rsN rr)) (h4:rr.length≤40) (h5:H nl=some (.lst (zs.map V.str))) (h5':zs.length=rr.length) (h5n:zs.Nodup) (h5k:∀z∈zs,zdo z∧z ≠ "nobody") (bv:p∉as)
  (h6:∀(t:Nc) (bs:Nk) (es:List Ent) (cs:List (List (Str×Str))) (a9:Nr) (b' m':Int) (H':Hp),RwAt H' t bs es→Cert (es.map (·.1)) (row (rsOf es)) cs a9→es.length≤40→(∀e∈es,zdo e.1∧e.1 ≠ "nobody")→(∀e∈es,H e.2.2=none)→Pot H' p b' m'→Keep [p] H H'→Q (.ref t) H'):IspRowsD vs H Q
def spRowsD:Sp:=λvs H Q _=>IspRowsD vs H Q
abbrev csW:Scope:=scOf (eOf (bAt (sAt sRows 1) 0))
def csW_k:csW.kind=.function:=by rfl
def csW_c:∀y∈csW.names,y.2≠.cell:=by decide +kernel
def csW_n:∀y∈csW.names,y.2=.local→csW.names.lookup y.1=some .local:=by decide +kernel
def csW_f:∀y∈csW.names,y.2=.free→(zag sRows).names.lookup y.1=some .cell∨(zag sRows).names.lookup y.1=some .free:=by decide +kernel
def csW_l:csW.names.lookup (qN:Str)=some NameKind.free:=by decide +kernel
def ndW:([qO,qN]:List Str).Nodup:=by decide +kernel
abbrev TurnZ(rr:List (List Nat))(zs:Ni):List Ent→List Nat→Prop:=Paired λe k=>e.1=zbl zs k∧∃j,e.2.1=((rr.getD k []).map (zbl zs)).drop j++((rr.getD k []).map (zbl zs)).take j
def names_Z(h:TurnZ rr zs es ks):es.map (·.1)=ks.map (zbl zs):=by
 induction h with
 |nil=>rfl
 |cons h _ ih=>rw[Qj,Qj,ih,h.1]
def cert_Z{rr:List (List Nat)}{zs:Ni}{es:List Ent}{ks:List Nat}(hG:Good (rsN rr))(nd:zs.Nodup)(ok:∀z∈zs,zdo z)(h:TurnZ rr zs es ks)(hk:ks.Perm (List.range rr.length)):∃cs a9,Cert (es.map (·.1)) (row (rsOf es)) cs a9:=by
 obtain⟨cs,a9,C⟩:=good_Z hG nd ok
 refine⟨cs,a9,ze4 C (by rw[names_Z h];exact hk.map _) ?_⟩
 have e:rsZ rr zs=rsOf ((List.range rr.length).map λk=>((zbl zs k,(rr.getD k []).map (zbl zs),0):Ent)):=by unfold rsZ rsOf;rw[List.map_map];rfl
 rw[e]
 refine zfb (es2:=ks.map λk=>((zbl zs k,(rr.getD k []).map (zbl zs),0):Ent)) ?_ (hk.map _) ?_
 ·clear hk e
  induction h with
  |nil=>exact .nil
  |cons h _ ih=>exact .cons h ih
 ·rw [Zk]
  exact Ws.mpr (Xr.imp λh e=>h (nameN_inj nd ok _ _ e))
section
variable{P:Nj}{w:Nl}{K:Nb}{mg:Nf}{base:Nn}
def zfr:zas [qP,qR,qN, "_law_rows_here", "_law_k", "_law_around", "_law_far"] [qP,qR,qN] (zag sRows):=fsk
def ok_rows(F:Fun K "_law_rows" "_law_rows" sRows f fd)(FT:Fun K qG qG zfs ft fdt)(bT:Binds K fdt [qP,qM] [])(mT:mg qG=some (.ref ft))(GT:FnOk P w K mg base CX0 1 ft fdt [qP,qM] zhn)(aa:mg "len" = none)(bu:mg "range" = none):FnOk P w K mg base CX0 2 f fd [qP,qR,qN] spRowsD:=by
 refine F.okL zfr (λcdv A outer s H vs Q E hr h=>?_)
 obtain⟨p,l,nl,b,m,as,rr,zs,rfl,hp,R,hG,bi,nY,dS,cC,dH,bv,k⟩:=h
 have hu:=zct hr
 have aP:=sizeLine_eq
 refine⟨_,zae (zaw 3 zfr.nd (zbi zad))
  (zae (zbm Zm rfl (zc5 rfl bu (zaa (zaj zan (by rfl) aa Zu (zaa (pv 1) zad)) zad)) (za8 4 zfr.nd)
   (zae (ps_lc (i:=5) (M:=[qO,qN]) (ix:=[none,some 2]) zfr.nd rfl rfl ⟨csW_k,csW_c,csW_n,csW_f,rfl,ndW,λj i x h1 h2=>by
      match j,h1,h2 with
      |0,_,h2=>cases h2
      |1,h1,h2=>cases h1;cases h2;exact⟨rfl,csW_l⟩
      |n+2,h1,_=>cases h1⟩ rfl (zax (za7 zau (pv 1) (pv 4) (λ_ _=>rfl))) (λC a6 ex s H=>za8 0 ndW)
      (λC a6 ex s H=>zca) (λC a6 ex s H=>za7 (zis (K:=K) rfl) (pv 1) (pv 0) (λ_ _=>rfl)) rfl)
   (zae (zaw 6 zfr.nd (zam GT hr rfl mT FT.kp bT .nil za2 (zaa (pv 0) (zaa (zat zbo (zaj zan (by rfl) aa Zu (zaa (pv 5) zad)) zai) zad))))
   (zah (zay (zb7 Qy Zq Zp za1 (pv 3) (zaa (zdl (zaa (za7 zau (pv 2) (pv 4) (λ_ _=>rfl)) (zaa (zat zd4 (zby zdd (pv 5) (zcb (pv 6)) zb1) (zby zdd (pv 5) zb1 (zcb (pv 6)))) zad))) zad)))))))
  (zae (zaw 6 zfr.nd (zam GT hr rfl mT FT.kp bT .nil za2 (zaa (pv 0) (zaa (zat zbo (zaj zan (by rfl) aa Zu (zaa (pv 3) zad)) zai) zad))))
  (zae (zaw 3 zfr.nd (zat zd4 (zby zdd (pv 3) (zcb (pv 6)) zb1) (zby zdd (pv 3) zb1 (zcb (pv 6)))))
  (zae (zc2 (za4 op_eq (zam GT hr rfl mT FT.kp bT .nil za2 (zaa (pv 0) (zaa zai zad))) zai (zb8 _)) (zah (zaw 3 zfr.nd (pe_rev (pv 3)))) zbk)
  (zah (zbh (pv 3))))))),?_⟩
 have nlp:=pot_l hp R
 have nnp:nl≠p:=pot_ne hp nY
 have nap:∀a∈as,a≠p:=λa ha z=>bv (z▸ha)
 have fQ:(as.map V.ref).length=rr.length:=by rw[Qa];exact R.len
 refine⟨(by show 0≤sizeLine;decide),λt ht=>?_⟩
 have k1:Keep [p] H (upd H t (.lst [])):=Keep.new ht
 have ntp:t≠p:=Zo (zab hp.1 ht)
 have cP:Pot (upd H t (.lst [])) p b m:=hp.keep (xs:=[]) (Keep.new ht) (by simp)
 have dL:(upd H t (.lst [])) t=some (.lst (([]:List Addr).map V.ref)):=zac
 generalize upd H t (.lst [])=H1 at k1 cP dL
 have R1:∀{H':Hp},Keep [p] H H'→NAt H' l as rr:=λkk=>R.keep kk (by simpa using nlp) λa ha=>by simpa using nap a ha
 have N1:∀{H':Hp},Keep [p] H H'→H' nl=some (.lst (zs.map V.str)):=λkk=>kk _ _ nY (by simpa using nnp)
 refine⟨_,rfl,l,_,rfl,.inl (SqL.of (R1 k1).ls),?_⟩
 refine⟨_,rfl,by omega,by omega,?_⟩
 refine zc9 (lo:=0) (λi σ H'=>Aj3 (Ex3 λx4 x5 x6=>σ=[some (.ref p),some (.ref l),some (.ref nl),some (.ref t),x4,x5,x6]) (Keep [p] H H') (Ex4 λ(bs:Nk) (es:List Ent) (b' m':Int)=>Aj5 (RwAt H' t bs es) (TurnZ rr zs es (List.range i)) (Pot H' p b' m') (∀e∈es,H e.2.2=none) (∀e∈es,e.2.2≠t)))
  ⟨⟨_,_,_,rfl⟩,k1,[],[],b,m,⟨dL,.nil,λe he=>by cases he⟩,.nil,cP,(λe he=>by cases he),(λe he=>by cases he)⟩ ?_ ?_
 ·rintro i σ H2 hi ⟨⟨x4,x5,x6,rfl⟩,k2,bs,es,b2,m2,W2,T2,aL,fm,iW⟩
  have hi:i<rr.length:=by omega
  have hia:i<as.length:=by rw[R.len];exact hi
  have hR2:=R1 k2
  have hN2:=N1 k2
  have ai:=hR2.row hia hi
  have dZ:∀x∈rr[i],x<rr.length:=λx hx=>by
   have:=(zbn.sub _ hG _ (zhi hi)).2 x hx
   rw[zdu]at this
   exact Yp.mp this
  have jd:(rsN rr).length=rr.length:=by unfold rsN;rw[List.length_map,List.length_range]
  have hrl2:rr[i].length≤900:=by
   have:=zbn.rows hG _ (zhi hi)
   rw[jd]at this
   exact Zj this (by omega)
  have a1:atI (as.map V.ref) (0+(i:Int))=some (.ref as[i]):=by rw[Xx];exact zav (by rw[Qu,Qc hia];rfl)
  have z1:∀{x:Nat},x<rr.length→atI (zs.map V.str) (x:Int)=some (.str (zbl zs x)):=λ{x} hx=>zav (by rw[Qu,Qc (by omega),nameN_lt (by omega)];rfl)
  have hg:rr.getD i []=rr[i]:=by rw[Qw,Qc hi];rfl
  refine⟨_,rfl,_,rfl,l,_,_,_,rfl,rfl,SqL.of hR2.ls,a1,as[i],rfl,⟨_,SqL.of ai⟩,lc_map (xs:=rr[i].map iV) (λ τ=>∃x0,τ=[x0,some (.ref nl)]) (λx=>match x with | .int n=>.str (zbl zs n.toNat) | v=>v) (SqL.of ai) (by rw[Qa];omega) ⟨none,rfl⟩ ?_ (λar har=>?_)⟩
  ·rintro x hx τ ⟨x0,rfl⟩ kk hk
   obtain⟨z,hz,rfl⟩:=Qk.mp hx
   exact⟨_,rfl,_,rfl,nl,_,_,_,rfl,rfl,SqL.of hN2,z1 (dZ z hz),hk _ ⟨_,rfl⟩⟩
  have emap:(rr[i].map iV).map (λx=>match x with | .int n=>.str (zbl zs n.toNat) | v=>v)=(rr[i].map (zbl zs)).map V.str:=by rw[Zk,Zk];rfl
  rw[emap]
  have jb:(rr[i].map (zbl zs)).length=rr[i].length:=Qa ..
  generalize eu:rr[i].map (zbl zs)=ru at jb
  have k3:Keep [] H2 (upd H2 ar (.lst (ru.map V.str))):=Keep.new har
  have gF:(upd H2 ar (.lst (ru.map V.str))) ar=some (.lst (ru.map V.str)):=zac
  generalize upd H2 ar (.lst (ru.map V.str))=H3 at k3 gF
  have bJ:=aL.keep k3 (by simp)
  have dO:(ru.map V.str).length=ru.length:=Qa ..
  refine⟨_,rfl,_,rfl,ar,_,rfl,.inl (SqL.of gF),_,_,rfl,rfl,p,b2,m2,_,rfl,bJ,by omega,by omega,λj4 b4 m4 H4 jj qJ cb kX=>?_⟩
  have k4:=zbe kX
  obtain⟨j,rfl⟩:=Zw jj
  have hj:j≤ru.length:=by omega
  have jA:=k4 _ _ gF (by simpa using pot_ne bJ gF)
  have c7:Keep [p] H H4:=(k2.trans (k3.sub (by simp))).trans k4
  have W4:RwAt H4 t bs es:=⟨k4 _ _ (k3 _ _ W2.ls (by simp)) (by simpa using ntp),Paired.imp' (λa e h=>k4 _ _ (k3 _ _ h (by simp)) (by simpa using za3 h aL.1 (by intro z;cases z))) W2.ts,λe he=>k4 _ _ (k3 _ _ (W2.ro e he) (by simp)) (by simpa using pot_ne aL (W2.ro e he))⟩
  refine⟨_,rfl,.inl ⟨rfl,_,SqL.of W4.ls⟩,_,rfl,_,rfl,nl,_,_,_,rfl,rfl,SqL.of (N1 c7),by rw[Xx];exact z1 hi,_,rfl,_,rfl,_,rfl,ar,_,rfl,SqL.of jA,λq1 h1=>?_⟩
  have n1:ar≠q1:=zab jA h1
  refine⟨_,rfl,_,rfl,_,rfl,ar,_,rfl,SqL.of (by rw[zaf n1];exact jA),λq2 h2=>?_⟩
  have g7:q1≠q2:=zab (o:=_) zac h2
  rw[ze2 (by rw[dO];exact hj),cut_to (by rw[dO];exact hj)]at *
  refine⟨q1,q2,_,_,rfl,rfl,(by rw[zaf g7];exact zac),zac,by rw[Yz,Zf];omega,λq3 h3=>?_⟩
  rw[←Jw,←Uw,←Qs]at *
  have k5:Keep [] H4 (upd (upd (upd H4 q1 (.lst ((ru.drop j).map V.str))) q2 (.lst ((ru.take j).map V.str))) q3 (.lst ((ru.drop j++ru.take j).map V.str))):=((Keep.new h1).trans (Keep.new h2)).trans (Keep.new h3)
  have fO:(upd (upd (upd H4 q1 (.lst ((ru.drop j).map V.str))) q2 (.lst ((ru.take j).map V.str))) q3 (.lst ((ru.drop j++ru.take j).map V.str))) q3=some (.lst ((ru.drop j++ru.take j).map V.str)):=zac
  have f3:H4 q3=none:=zaq ((Keep.new (xs:=[]) h1).trans (Keep.new h2)) h3 (by simp)
  generalize upd (upd (upd H4 q1 (.lst ((ru.drop j).map V.str))) q2 (.lst ((ru.take j).map V.str))) q3 (.lst ((ru.drop j++ru.take j).map V.str))=H5 at k5 fO
  have nq3t:q3≠t:=Zo (zab W4.ls f3)
  have fq3:H q3=none:=zaq c7 f3 (by simpa using Zo (zab cb.1 f3))
  refine⟨(by show 2≤sizeLine;decide),λc hc=>?_⟩
  have k6:Keep [] H4 (upd H5 c (.tup [.str (zbl zs i),.ref q3])):=k5.trans (Keep.new hc)
  have fC:(upd H5 c (.tup [.str (zbl zs i),.ref q3])) c=some (.tup [.str (zbl zs i),.ref q3]):=zac
  have lD:(upd H5 c (.tup [.str (zbl zs i),.ref q3])) q3=some (.lst ((ru.drop j++ru.take j).map V.str)):=by rw[zaf (zab fO hc)];exact fO
  generalize upd H5 c (.tup [.str (zbl zs i),.ref q3])=H6 at k6 fC lD
  have W6:=W4.keep k6
  have fE:bs.length=i:=by rw[Zx W6.ts,Zx T2,Wl]
  refine⟨t,_,_,rfl,rfl,W6.ls,by rw[Qa];omega,?_⟩
  have tupt:∀{a:Nc} {xs:List V},H6 a=some (.tup xs)→a≠t:=λ{a xs} e=>za3 e W6.ls (by intro z;cases z)
  have kt:Keep [p] H (upd H6 t (.lst (bs.map V.ref++[V.ref c]))):=λa u ea ha=>by
   rw[zaf (zab ea ht)];exact k6 _ _ (c7 a u ea ha) (by simp)
  refine⟨⟨_,_,_,rfl⟩,kt,bs++[c],es++[(zbl zs i,ru.drop j++ru.take j,q3)],b4,m4,⟨by rw[zac,Qs];rfl,?_,λe' he=>?_⟩,?_,(cb.keep k6 (by simp)).keep (xs:=[t]) (Keep.wr (by simp)) (by simpa using Zo ntp),λe' he=>?_,λe' he=>?_⟩
  ·exact zao (Paired.imp' (λa e h=>by rw[zaf (tupt h)];exact h) W6.ts) (.cons (by rw[zaf (tupt fC)];exact fC) .nil)
  ·rcases Qe.mp he with z | z
   ·rw[zaf (iW e' z)];exact W6.ro e' z
   ·rw[Qb.mp z];exact(zaf nq3t).trans lD
  ·rw [Xy]
   exact zao T2 (.cons ⟨rfl,j,by rw[hg,eu]⟩ .nil)
  ·rcases Qe.mp he with z | z
   ·exact fm e' z
   ·rw[Qb.mp z];exact fq3
  ·rcases Qe.mp he with z | z
   ·exact iW e' z
   ·rw[Qb.mp z];exact nq3t
 ·rintro σ H2 ⟨⟨x4,x5,x6,rfl⟩,k2,bs,es,b2,m2,W2,T2,aL,fm,iW⟩
  have T2:TurnZ rr zs es (List.range rr.length):=by rw[fQ]at T2;exact T2
  have kj:es.length=rr.length:=by rw[Zx T2,Wl]
  have fE:bs.length=rr.length:=by rw[Zx W2.ts,kj]
  have dO:(bs.map V.ref).length=rr.length:=by rw[Qa];exact fE
  refine⟨_,rfl,_,rfl,t,_,rfl,.inl (SqL.of W2.ls),_,_,rfl,rfl,p,b2,m2,_,rfl,aL,by omega,by omega,λj4 b4 m4 H4 jj qJ cb kX=>?_⟩
  have k4:=zbe kX
  obtain⟨j,rfl⟩:=Zw jj
  have hj:j≤rr.length:=by omega
  have c7:Keep [p] H H4:=k2.trans k4
  have W4:RwAt H4 t bs es:=⟨k4 _ _ W2.ls (by simpa using ntp),Paired.imp' (λa e h=>k4 _ _ h (by simpa using za3 h aL.1 (by intro z;cases z))) W2.ts,λe he=>k4 _ _ (W2.ro e he) (by simpa using pot_ne aL (W2.ro e he))⟩
  refine⟨_,rfl,_,rfl,_,rfl,t,_,rfl,SqL.of W4.ls,λq1 h1=>?_⟩
  have n1:t≠q1:=zab W4.ls h1
  refine⟨_,rfl,_,rfl,_,rfl,t,_,rfl,SqL.of (by rw[zaf n1];exact W4.ls),λq2 h2=>?_⟩
  have g7:q1≠q2:=zab (o:=_) zac h2
  rw[ze2 (by rw[dO];exact hj),cut_to (by rw[dO];exact hj)]at *
  refine⟨q1,q2,_,_,rfl,rfl,(by rw[zaf g7];exact zac),zac,by rw[Yz,Zf];omega,λq3 h3=>?_⟩
  rw[←Jw,←Uw,←Qs]at *
  have k5:Keep [] H4 (upd (upd (upd H4 q1 (.lst ((bs.drop j).map V.ref))) q2 (.lst ((bs.take j).map V.ref))) q3 (.lst ((bs.drop j++bs.take j).map V.ref))):=((Keep.new h1).trans (Keep.new h2)).trans (Keep.new h3)
  have fO:(upd (upd (upd H4 q1 (.lst ((bs.drop j).map V.ref))) q2 (.lst ((bs.take j).map V.ref))) q3 (.lst ((bs.drop j++bs.take j).map V.ref))) q3=some (.lst ((bs.drop j++bs.take j).map V.ref)):=zac
  generalize upd (upd (upd H4 q1 (.lst ((bs.drop j).map V.ref))) q2 (.lst ((bs.take j).map V.ref))) q3 (.lst ((bs.drop j++bs.take j).map V.ref))=H5 at k5 fO
  have W5:RwAt H5 q3 (bs.drop j++bs.take j) (es.drop j++es.take j):=⟨fO,by
   have:=(W4.keep k5).ts
   exact zao (zgq j this) (zgp j this),λe he=>(W4.keep k5).ro e (by
    rcases Qe.mp he with z | z
    ·exact Wi z
    ·exact Wd z)⟩
  have T5:TurnZ rr zs (es.drop j++es.take j) ((List.range rr.length).drop j++(List.range rr.length).take j):=zao (zgq j T2) (zgp j T2)
  have P5:((List.range rr.length).drop j++(List.range rr.length).take j).Perm (List.range rr.length):=Yw.trans (by rw[Zl])
  have f5:∀e∈es.drop j++es.take j,H e.2.2=none:=λe he=>fm e (by
    rcases Qe.mp he with z | z
    ·exact Wi z
    ·exact Wd z)
  have cH:(es.drop j++es.take j).length=rr.length:=by rw[Ql,Yz,Zf];omega
  have aT:=cb.keep k5 (by simp)
  have iu:Keep [p] H H5:=c7.trans (k5.sub (by simp))
  generalize es.drop j++es.take j=jF at W5 T5 f5 cH
  generalize bs.drop j++bs.take j=bs5 at W5 fO
  generalize(List.range rr.length).drop j++(List.range rr.length).take j=ks at T5 P5
  have fin:∀(t':Nc) (fV:Nk) (cY:List Ent) (oV:List Nat) (b' m':Int) (H':Hp),RwAt H' t' fV cY→TurnZ rr zs cY oV→oV.Perm (List.range rr.length)→cY.length=rr.length→(∀e∈cY,H e.2.2=none)→Pot H' p b' m'→Keep [p] H H'→Q (.ref t') H':=λt' fV cY oV b' m' H' W' T' P' hl' f' dv k'=>by
   obtain⟨cs,a9,C⟩:=cert_Z hG cC (λz hz=>(dH z hz).1) T' P'
   refine k t' fV cY cs a9 b' m' H' W' C (by omega) (λe he=>?_) f' dv k'
   have:e.1∈cY.map (·.1):=Qk.mpr ⟨e,he,rfl⟩
   rw[names_Z T']at this
   obtain⟨x,hx,ex⟩:=Qk.mp this
   have hx:=Yp.mp (P'.mem_iff.mp hx)
   rw[←ex,nameN_lt (by omega)]
   exact dH _ (Qn _)
  refine⟨_,rfl,p,b4,m4,2,rfl,aT,by decide,by decide,λj7 b7 m7 H7 h70 h71 aV nv=>?_⟩
  have k7:=zbe nv
  have n3p:q3≠p:=za3 fO aT.1 (by
   intro z
   have z':bs5.map V.ref=[.int b4,.int m4]:=by injection z
   cases bs5 with
   |nil=>cases z'
   |cons a bZ=>rw[Qj]at z';injection z' with z1 _;cases z1)
  have W7:RwAt H7 q3 bs5 jF:=⟨k7 _ _ W5.ls (by simpa using n3p),Paired.imp' (λa e h=>k7 _ _ h (by simpa using za3 h aT.1 (by intro z;cases z))) W5.ts,λe he=>k7 _ _ (W5.ro e he) (by simpa using pot_ne aT (W5.ro e he))⟩
  have jO:=iu.trans k7
  refine⟨rfl,_,rfl,?_⟩
  refine ite2 (λ_=>?_) (λ_=>?_)
  ·refine ⟨_,rfl,q3,_,rfl,SqL.of W7.ls,fun q4 h4=>?_⟩
   have kn:Keep [] H7 (upd H7 q4 (.lst (bs5.map V.ref).reverse)):=Keep.new h4
   exact⟨_,rfl,fin q4 bs5.reverse jF.reverse ks.reverse b7 m7 _ ⟨by rw[zac,List.map_reverse],zhq (W7.keep kn).ts,λe he=>(W7.keep kn).ro e (Xt.mp he)⟩ (zhq T5) ((Ud ks).trans P5) (by rw[List.length_reverse];exact cH) (λe he=>f5 e (Xt.mp he)) (aV.keep kn (by simp)) (jO.trans (kn.sub (by simp)))⟩
  ·exact⟨_,rfl,fin q3 bs5 jF ks b7 m7 H7 W7 T5 P5 cH f5 aV jO⟩
end
end K21
end
section
namespace K21
open PySem L2 Wb
inductive IspDrawnD(vs:List V)(H:Hp)(Q:VK):Prop
 |mk (p:Nc) (b m:Int) (h0:vs=[.ref p]) (h1:Pot H p b m)
  (h2:∀(t:Nc) (bs:Nk) (es:List Ent) (cs:List (List (Str×Str))) (a9:Nr) (b' m':Int) (H':Hp),RwAt H' t bs es→Cert (es.map (·.1)) (row (rsOf es)) cs a9→es.length≤40→(∀e∈es,zdo e.1∧e.1 ≠ "nobody")→Pot H' p b' m'→Keep [p] H H'→Q (.ref t) H'):IspDrawnD vs H Q
def spDrawnD:Sp:=λvs H Q _=>IspDrawnD vs H Q
section
variable{P:Nj}{w:Nl}{K:Nb}{mg:Nf}{base:Nn}
def scDrawn:zas [qP,qR] [qP] (zag sDrawn):=fsk
def ok_drawn(F:Fun K "_law_drawn" "_law_drawn" sDrawn f fd)(FT:Fun K qG qG zfs ft fdt)(bT:Binds K fdt [qP,qM] [])(mT:mg qG=some (.ref ft))(GT:FnOk P w K mg base CX0 1 ft fdt [qP,qM] zhn)(FR:Fun K "_law_rounds" "_law_rounds" zib fr fdr)(bR:Binds K fdr [qP, "_law_most"] [])(mR:mg "_law_rounds" = some (.ref fr))(GR:FnOk P w K mg base CX0 4 fr fdr [qP, "_law_most"] spRoundsD)(FW:Fun K "_law_rows" "_law_rows" sRows fw fdw)(bW:Binds K fdw [qP,qR,qN] [])(mW:mg "_law_rows" = some (.ref fw))(GW:FnOk P w K mg base CX0 2 fw fdw [qP,qR,qN] spRowsD)(FN:Fun K "_law_names" "_law_names" sNames fn fdn)(bN:Binds K fdn [qP,qM] [])(mN:mg "_law_names" = some (.ref fn))(GN:FnOk P w K mg base CX0 2 fn fdn [qP,qM] spNames)(aa:mg "len" = none):FnOk P w K mg base CX0 5 f fd [qP] spDrawnD:=by
 refine F.okL scDrawn (λcdv A outer s H vs Q E hr h=>?_)
 obtain⟨p,b,m,rfl,hp,k⟩:=h
 have aW:Room 1 _:=hr.mono (by decide)
 have dM:Room 2 _:=hr.mono (by decide)
 have aP:=sizeLine_eq
 refine⟨_,zae (zaw 1 scDrawn.nd (zam GR hr rfl mR FR.kp bR .nil za2 (zaa (pv 0) (zaa (za7 zau (zbi (zaa zai (zaa zai (zaa zai (zaa zai zad))))) (zam GT aW rfl mT FT.kp bT .nil za2 (zaa (pv 0) (zaa zai zad))) (λ_ _=>rfl)) zad))))
  (zah (zbh (zam GW dM rfl mW FW.kp bW .nil za2 (zaa (pv 0) (zaa (pv 1) (zaa (zam GN dM rfl mN FN.kp bN .nil za2 (zaa (pv 0) (zaa (zaj zan (by rfl) aa Zu (zaa (pv 1) zad)) zad))) zad)))))),?_⟩
 refine⟨_,rfl,(by show 4≤sizeLine;decide),λq hq=>?_⟩
 have k1:Keep [] H (upd H q (.lst [.int 12,.int 12,.int 16,.int 40])):=Keep.new hq
 have iQ:(upd H q (.lst [.int 12,.int 12,.int 16,.int 40])) q=some (.lst [.int 12,.int 12,.int 16,.int 40]):=zac
 generalize upd H q (.lst [.int 12,.int 12,.int 16,.int 40])=H1 at k1 iQ
 have cP:=hp.keep k1 (by simp)
 refine⟨_,rfl,p,b,m,4,rfl,cP,by decide,by decide,λj2 b2 m2 H2 h20 h21 aL kY=>?_⟩
 obtain⟨j,rfl⟩:=Zw h20
 have nqp:q≠p:=Zo (zab hp.1 hq)
 have cF:=kY _ _ iQ nqp
 have k2:Keep [p] H H2:=(k1.sub (by simp)).trans (zbe kY)
 have hj:j<4:=by omega
 obtain⟨n,hn,da⟩:∃n:Nat,n≤40∧atI [V.int 12,.int 12,.int 16,.int 40] (j:Int)=some (iV n):=by
  have:∀j:Fin 4,[V.int 12,.int 12,.int 16,.int 40][j.1]?=some (iV ([12,12,16,40].getD j.1 0))∧[12,12,16,40].getD j.1 0≤40:=by decide
  exact⟨_,(this ⟨j,hj⟩).2,zav (this ⟨j,hj⟩).1⟩
 refine⟨q,_,_,_,rfl,rfl,SqL.of cF,da,p,b2,m2,n,rfl,aL,hn,λl as rr b3 m3 H3 R3 hG bi bJ bv _ _ k3=>?_⟩
 have fQ:(as.map V.ref).length=rr.length:=by rw[Qa];exact R3.len
 refine⟨_,rfl,_,rfl,_,rfl,_,rfl,l,_,rfl,.inl (SqL.of R3.ls),p,b3,m3,rr.length,by rw[fQ];rfl,bJ,bi,λnl zs b4 m4 H4 nY dS cC dH cb _ k4=>?_⟩
 have nlp:=pot_l bJ R3
 have R4:=R3.keep k4 (by simpa using nlp) λa ha z=>bv (by rw[Qb]at z;exact z▸ha)
 exact⟨p,l,nl,b4,m4,as,rr,zs,rfl,cb,R4,hG,bi,nY,dS,cC,dH,bv,λt bs es cs a9 b5 m5 H5 W C hl ok _ aT k5=>k t bs es cs a9 b5 m5 H5 W C hl ok aT (((k2.trans k3).trans k4).trans k5)⟩
end
end K21
end
section
namespace L2
open PySem PySem.Spec PyProof.Rows
section
variable{X:Cx}
def pair_eq{q r:Str×Str}:((List.range 2).all (λj=>if j=0 then q.1==r.1 else q.2==r.2)&&true)=decide (q=r):=by
 rw[show List.range 2=[0,1] from rfl,Yr]
 simp[Prod.ext_iff]
def pair_at{A:Nm}{s:Ng}{l b:Nc}{q r:Str×Str}{t1 t2 t3 t4:Tok}(h:A.units<cLine)(p:s.heap.IsTuple l #[.str q.1 t1,.str q.2 t2])(p2:s.heap.IsTuple b #[.str r.1 t3,.str r.2 t4]):SeqAt.RcAt A s (.ref l) (.ref b) (decide (q=r)):=by
 rw[←pair_eq]
 refine SeqAt.RcAt.tuples (e:=λj=>if j=0 then q.1==r.1 else q.2==r.2) p p2 h λj j1 j2=>?_
 have iy:j<2:=by simpa using j1
 match j,iy with
 |0,_=>exact Uu q.1 t1 r.1 t3
 |1,_=>exact Uu q.2 t2 r.2 t4
def op_ne_pairsS(hu:X.A.units<cLine):OpR X (compareOp .NotEq) (λx y H Q=>Ex4 λ(a b:Nc) (q r:Str×Str)=>Aj5 (x=.ref a) (y=.ref b) (H a=some (.tup [.str q.1,.str q.2])) (H b=some (.tup [.str r.1,.str r.2])) (Q (.bl (!decide (q=r))) H)):=by
 intro a6 s σ H x y v u Q I rx ry h
 obtain⟨a,b,q,r,rfl,rfl,ha,hb,k⟩:=h
 cases rx;cases ry
 obtain⟨_,a8,r1,p⟩:=I.hok a _ ha
 obtain⟨_,ax,r2,p2⟩:=I.hok b _ hb
 obtain⟨u1,u2,rfl,⟨t1,rfl⟩,⟨t2,rfl⟩⟩:=vals2 r1
 obtain⟨w1,w2,rfl,⟨t3,rfl⟩,⟨t4,rfl⟩⟩:=vals2 r2
 refine SeqAt.RcNeAt.tuples (e:=λj=>if j=0 then q.1==r.1 else q.2==r.2) p p2 hu (λj j1 j2=>?_) _ _ _ _ ⟨.bl (!decide (q=r)),H,I,?_,k⟩
 ·have iy:j < 2:=by simpa using j1
  match j,iy with
  |0,_=>exact Uu q.1 t1 r.1 t3
  |1,_=>exact Uu q.2 t2 r.2 t4
 ·show Value.bool _=Value.bool _
  congr 1
  rw[←pair_eq];rfl
end
end L2
namespace K21
open PySem L2 Wb
inductive zh1(vs:List V)(H:Hp)(Q:VK):Prop
 |mk (a:Nc) (zs:Ni) (x:Str) (h0:vs=[.ref a,.str x]) (h1:H a=some (.lst (zs.map V.str))) (h2:x∈zs) (h3:zs.length≤900) (h4:Q (.str (nxt zs x)) H):zh1 vs H Q
def spBehindS:Sp:=λvs H Q _=>zh1 vs H Q
structure RF(H:Hp)(d:Nc)(es:List Ent):Prop where
 dc:Rd H d (.dK (es.map λe=>((Sum.inr e.1:Key),V.ref e.2.2)))
 nd:(es.map (·.1)).Nodup
 ro:∀e∈es,H e.2.2=some (.lst (e.2.1.map V.str))
def RF.get(R:RF H d es)(he:e∈es):DGet H d (.str e.1) (some (.ref e.2.2)):=.inl ⟨_,Sum.inr e.1,R.dc,rfl,(zhl R.nd he).symm⟩
def RF.keep(R:RF H d es)(k:Keep [] H H'):RF H' d es :=
 ⟨R.dc.imp (λe=>k _ _ e (by simp)) λ⟨o,e⟩=>⟨o,k _ _ e (by simp)⟩,R.nd,λe he=>k _ _ (R.ro e he) (by simp)⟩
def RF.inn{d:Nc}(R:RF H d es)(h:a∈es.map (·.1)):∃e∈es,e.1=a∧DGet H d (.str a) (some (.ref e.2.2)):=by
 obtain⟨e,he,ea⟩:=Qk.mp h
 have ea':e.1=a:=ea
 subst ea'
 exact⟨e,he,rfl,R.get he⟩
structure Rnd(r:Np)(s:Str×Str)(L:No):Prop where
 cy:∃t,L=s::t∧Lk (st r) s t s
 nd:L.Nodup
 al:∀u∈L,u.1∈r u.2
def rnd_of{ns:Ni}{r:Np}{cs:List (List (Str×Str))}{a9:Nr}(C:Cert ns r cs a9){s:Str×Str}(hs:s.1∈r s.2):∃L,Rnd r s L:=by
 obtain⟨c,cV,nN⟩:=Yf.mp ((C.cm s).mpr hs)
 obtain⟨A1,B1,dD⟩:=Wf nN
 have gp:=zc3 (dD▸C.cy c cV)
 have cK:(s::(B1++A1)).Perm c:=by
  rw[dD]
  refine Uy.mpr λa=>?_
  simp only[Jq,Kb];lia
 refine⟨s::(B1++A1),⟨_,rfl,gp⟩,?_,λu hu=>C.inc cV (cK.mem_iff.mp hu)⟩
 rw[cK.nodup_iff]
 have:=(zcj cV).nodup_iff.mp C.cf
 rw[Ze]at this
 exact this.1
inductive IspStepsS(vs:List V)(H:Hp)(Q:VK):Prop
 |mk (d:Nc) (es:List Ent) (cs:List (List (Str×Str))) (a9:Nr) (s:Str×Str) (h0:vs=[.ref d,.str s.1,.str s.2]) (h1:RF H d es) (h2:s.1∈row (rsOf es) s.2) (h3:Cert (es.map (·.1)) (row (rsOf es)) cs a9) (h4:es.length≤40)
  (h6:∀(t:Nc) (ps:Nk) (L:No) (H':Hp),H t=none→H' t=some (.lst (ps.map V.ref))→zbf H' ps L→Rnd (row (rsOf es)) s L→L.length≤1600→(∀a∈ps,H a=none)→Keep [] H H'→Q (.ref t) H'):IspStepsS vs H Q
def spStepsS:Sp:=λvs H Q _=>IspStepsS vs H Q
def zgd{es:List Ent}{r:Np}{cs:List (List (Str×Str))}{a9:Nr}(C:Cert (es.map (·.1)) r cs a9)(h:es.length≤40){L:No}(nd:L.Nodup)(al:∀u∈L,u.1∈r u.2):L.length≤1600:=by
 have dZ:∀u∈L,u∈(es.map (·.1)).flatMap λx=>(es.map (·.1)).map λy=>(x,y):=λu hu=>by
  have h1:=al u hu
  refine List.mem_flatMap.mpr ⟨u.1,C.inn' h1,Qk.mpr ⟨u.2,C.inn h1,rfl⟩⟩
 have:=zgx nd dZ
 rw[List.length_flatMap]at this
 simp only[Qa,List.map_const',List.sum_replicate_nat]at this
 have h2:es.length*es.length≤40*40:=Nat.mul_le_mul h h
 omega
section
variable{P:Nj}{w:Nl}{K:Nb}{mg:Nf}{base:Nn}
def ok_behindS(F:Fun K "_law_behind" "_law_behind" zff f fd)(aa:mg "len" = none):FnOk P w K mg base CX0 1 f fd ["_law_around", "_law_one"] spBehindS:=by
 refine F.okL scBehind (λcdv A outer s H vs Q E hr h=>?_)
 obtain⟨a,zs,x,rfl,ha,hx,hz,k⟩:=h
 have hu:=zct hr
 refine⟨_,zah (zbh (za7 zau (pv 0) (zat zco (zat zbo (zb7 Qy Ja Uz zeq (pv 0) (zaa (pv 1) zad)) zai)
  (zaj zan (by rfl) aa Zu (zaa (pv 0) zad))) (λ_ _=>rfl))),?_⟩
 obtain⟨i1,i2⟩:=index_of hx
 have cM:0<zs.length:=Kl hx
 have hm:(zs.idxOf x+1)%zs.length<zs.length:=Ue _ cM
 have g:(zs.map V.str)[(zs.idxOf x+1)%zs.length]?=some (.str (nxt zs x)):=by
  rw[Qu,Qc hm]
  unfold nxt
  simp[List.getD,hm]
 have e1:((zs.idxOf x:Nat):Int)+1=((zs.idxOf x+1:Nat):Int):=by lia
 have g2:atI (zs.map V.str) ((((zs.idxOf x:Nat):Int)+1)%((zs.map V.str).length:Int))=some (.str (nxt zs x)):=by
  rw[e1,Qa,←Int.natCast_emod]
  exact zav g
 refine⟨_,rfl,_,rfl,.inl ⟨rfl,_,SqL.of ha⟩,_,rfl,a,_,_,_,rfl,rfl,ha,rfl,zcq zs,i1,i2,_,_,rfl,rfl,_,rfl,a,_,rfl,.inl (SqL.of ha),_,_,rfl,rfl,?_,a,_,_,_,rfl,rfl,SqL.of ha,g2,k⟩
 rw[Qa];exact zar9 ‹_›
def ok_stepsS(F:Fun K "_law_steps" "_law_steps" zfe f fd)(FB:Fun K "_law_behind" "_law_behind" zff fb fdb)(bB:Binds K fdb ["_law_around", "_law_one"] [])(mB:mg "_law_behind" = some (.ref fb))(GB:FnOk P w K mg base CX0 1 fb fdb ["_law_around", "_law_one"] spBehindS) :
  FnOk P w K mg base CX0 2 f fd [qR, "_law_p", "_law_q"] spStepsS:=by
 refine F.okL zcu (λcdv A outer s H vs Q E hr h=>?_)
 obtain⟨d,es,cs,a9,sp,rfl,R,aO,C,aF,k⟩:=h
 have hu:=zct hr
 refine⟨_,zae (zaw 3 zcu.nd (zbi (zaa (zdl (zaa (pv 1) (zaa (pv 2) zad))) zad)))
  (zae (zaw 4 zcu.nd (zdl (zaa (pv 2) (zaa (zam GB hr rfl mB FB.kp bB .nil za2 (zaa (zgn hu (pv 0) (pv 2)) (zaa (pv 1) zad))) zad))))
  (zae (zdy Zm (za4 (op_ne_pairsS (Wu (Wg _) hu)) (pv 4) (za7 zau (pv 3) zai (fun _ _=>rfl)) rfl)
   (zae (zay (zb7 Qy Zq Zp za1 (pv 3) (zaa (pv 4) zad)))
   (zah (zaw 4 zcu.nd (zdl (zaa (za7 zex (pv 4) zai (λ_ _=>rfl)) (zaa (zam GB hr rfl mB FB.kp bB .nil za2 (zaa (zgn hu (pv 0) (za7 zex (pv 4) zai (λ_ _=>rfl))) (zaa (za7 zex (pv 4) zai (λ_ _=>rfl)) zad))) zad)))))))
  (zah (zbh (pv 3))))),?_⟩
 obtain⟨L,⟨lt,eL,gp⟩,nd,al⟩:=rnd_of C aO
 have sh:=zgd C aF nd al
 have cK:0<L.length:=by rw[eL];simp
 have gw:∀k (hk:k<L.length),st (row (rsOf es)) L[k]=L.getD (k+1) sp:=λk hk=>by
  have:=lk_get gp k (by rw[←eL];exact hk)
  rw[←eL,Qw,Qc hk]at this
  exact this
 have rn:∀e∈es,e.2.1.length≤900:=λe he=>by
  have h1:e.2.1.Nodup:=by have:=C.rn e.1;rw[zb6 C.nd he]at this;exact this
  have:∀y∈e.2.1,y∈es.map (·.1):=λy hy=>C.inn' (x:=e.1) (by rw[zb6 C.nd he];exact hy)
  have:=zcf h1 this
  rw[Qa]at this
  omega
 have bp:∀{H':Hp},RF H' d es→∀q:Str×Str,q.1∈row (rsOf es) q.2→∃e∈es,DGet H' d (.str q.2) (some (.ref e.2.2))∧H' e.2.2=some (.lst (e.2.1.map V.str))∧q.1∈e.2.1∧st (row (rsOf es)) q=(q.2,nxt e.2.1 q.1):=λ{H'} R' q hq=>by
  obtain⟨e,he,ee,g⟩:=R'.inn (C.inn hq)
  have hr:=zb6 C.nd he
  rw[ee]at hr
  exact⟨e,he,g,R'.ro e he,by rw[←hr];exact hq,by show(q.2,nxt (row (rsOf es) q.2) q.1)=_;rw[hr]⟩
 have i0:∀x y:V,atI [x,y] ((0:Nat):Int)=some x:=λx y=>zav rfl
 have i1:∀x y:V,atI [x,y] ((1:Nat):Int)=some y:=λx y=>zav rfl
 have aP  := sizeLine_eq
 refine⟨_,rfl,_,rfl,(by show 2≤sizeLine;decide),λt0 jY=>⟨(by show 1≤sizeLine;decide),λl hl=>?_⟩⟩
 have k1:Keep [] H (upd (upd H t0 (.tup [.str sp.1,.str sp.2])) l (.lst [.ref t0])):=(Keep.new jY).trans (Keep.new hl)
 have ntl:t0≠l:=zab (o:=_) zac hl
 have dL:(upd (upd H t0 (.tup [.str sp.1,.str sp.2])) l (.lst [.ref t0])) t0=some (.tup [.str sp.1,.str sp.2]):=by rw[zaf ntl];exact zac
 have bx:(upd (upd H t0 (.tup [.str sp.1,.str sp.2])) l (.lst [.ref t0])) l=some (.lst [.ref t0]):=zac
 have fl:H l=none:=zaq (xs:=[]) (Keep.new jY) hl (by simp)
 generalize upd (upd H t0 (.tup [.str sp.1,.str sp.2])) l (.lst [.ref t0])=H1 at k1 dL bx
 have R1:=R.keep k1
 obtain⟨e,he,g1,g2,g3,g5⟩:=bp R1 sp aO
 refine⟨_,rfl,_,rfl,_,rfl,d,_,rfl,g1,_,rfl,_,e.2.1,sp.1,rfl,g2,g3,rn e he,(by show 2≤sizeLine;decide),λt ht=>?_⟩
 have h0:L[0]'(cK)=sp:=by
  have:L[0]?=some sp:=by rw[eL];rfl
  exact(Zg.mp this).2
 have e5:[V.str sp.2,V.str (nxt e.2.1 sp.1)]=[V.str (L.getD 1 sp).1,V.str (L.getD 1 sp).2]:=by rw[←gw 0 cK,h0,g5]
 rw[e5]
 have nlt:l≠t:=zab bx ht
 have lW:∀{a:Nc},H1 a=none→H a=none:=λ{a} h=>zaq k1 h (by simp)
 refine⟨λm σ H2=>Ex3 λ(n:Nat) (t:Nc) (as:Nk)=>Aj9 (m=L.length-n) (n<L.length) (σ=[some (.ref d),some (.str sp.1),some (.str sp.2),some (.ref l),some (.ref t)]) (Keep [l] H1 H2) (H2 l=some (.lst ((t0::as).map V.ref))) (zbf H2 (t0::as) (L.take (n+1))) (H2 t=some (.tup [.str (L.getD (n+1) sp).1,.str (L.getD (n+1) sp).2])) (as.length=n) (Aj2 (∀a∈t0::as,H a=none) (H t=none)),
  ⟨_,0,t,[],rfl,cK,rfl,Keep.new ht,by rw[zaf nlt];exact bx,?_,zac,rfl,λa ha=>by rw[Qb.mp ha];exact jY,lW ht⟩,?_⟩
 ·rw [show L.take (0+1)=[sp] by rw [eL];rfl]
  exact .cons (by rw[zaf (zab dL ht)];exact dL) .nil
 rintro m σ H2 ⟨n,t,as,rfl,hn,rfl,k2,ak,pa,gQ,bY,fg,hft⟩
 have iK:=k2 _ _ dL (by simpa using ntl)
 refine⟨_,rfl,_,rfl,l,_,_,_,rfl,rfl,SqL.of ak,(show atI ((t0::as).map V.ref) ((0:Nat):Int)=some (.ref t0) from zav rfl),t,t0,L.getD (n+1) sp,sp,rfl,rfl,gQ,iK,_,rfl,?_⟩
 by_cases he1:n+1=L.length
 ·have hL:L.getD (n+1) sp=sp:=by rw [Qw,Ua (by omega)];rfl
  refine zbs (by rw[decide_eq_true hL];rfl) ?_
  rw[Qv (by omega)]at pa
  exact⟨_,rfl,k l (t0::as) L H2 fl ak pa ⟨⟨lt,eL,gp⟩,nd,al⟩ sh fg λc o ec _=>k2 c o (k1 _ _ ec (by simp)) (by simpa using zab ec fl)⟩
 ·have bM:n+1 < L.length:=by omega
  have fB:L.getD (n+1) sp=L[n+1]:=by rw[Qw,Qc bM];rfl
  rw[fB]at gQ ⊢
  have aH:L[n+1]≠sp:=λz=>by
   rw[←h0]at z
   have:=(Wq (h₀:=bM) (h₁:=cK) nd).mp z
   omega
  refine zb2 (by rw[decide_eq_false aH];rfl) ?_
  have il:t≠l:=za3 gQ ak (by intro z;cases z)
  refine⟨_,λ σ' H' z=>z,?_⟩
  refine⟨_,rfl,.inl ⟨rfl,_,SqL.of ak⟩,_,rfl,l,_,_,rfl,rfl,ak,by rw[Qa,Zb];omega,?_⟩
  have k3:Keep [l] H1 (upd H2 l (.lst ((t0::as).map V.ref++[V.ref t]))):=k2.trans (Keep.wr Qd)
  have dW:(upd H2 l (.lst ((t0::as).map V.ref++[V.ref t]))) t=some (.tup [.str L[n+1].1,.str L[n+1].2]):=by rw[zaf il];exact gQ
  have gu:(upd H2 l (.lst ((t0::as).map V.ref++[V.ref t]))) l=some (.lst ((t0::(as++[t])).map V.ref)):=by rw[zac,←Yo,Qs];rfl
  have kQ:zbf (upd H2 l (.lst ((t0::as).map V.ref++[V.ref t]))) (t0::(as++[t])) (L.take (n+1+1)):=by
   rw[Qo bM,←Yo]
   refine zao (zbf.keep pa λb x y eb=>?_) (.cons dW .nil)
   rw[zaf (za3 eb ak (by intro z;cases z))];exact eb
  generalize upd H2 l (.lst ((t0::as).map V.ref++[V.ref t]))=H3 at k3 dW gu kQ
  have R3:RF H3 d es:=⟨R1.dc.imp (λz=>k3 _ _ z (by simpa using za3 z bx (by intro q;cases q))) λ⟨o,z⟩=>⟨o,k3 _ _ z (by simpa using za3 z bx (by intro q;cases q))⟩,R1.nd,λe he=>k3 _ _ (R1.ro e he) (by simpa using zab (R.ro e he) fl)⟩
  obtain⟨e,he,g1,g2,g3,g5⟩:=bp R3 L[n+1] (al _ (Qn bM))
  refine⟨_,rfl,t,_,_,_,rfl,rfl,SqT.of dW,i1 _ _,_,rfl,_,rfl,t,_,_,_,rfl,rfl,SqT.of dW,i1 _ _,d,_,rfl,g1,_,rfl,t,_,_,_,rfl,rfl,SqT.of dW,i0 _ _,_,e.2.1,L[n+1].1,rfl,g2,g3,rn e he,(by show 2≤sizeLine;decide),λt' gR=>?_⟩
  have e6:[V.str L[n+1].2,V.str (nxt e.2.1 L[n+1].1)]=[V.str (L.getD (n+1+1) sp).1,V.str (L.getD (n+1+1) sp).2]:=by rw[←gw (n+1) bM,g5]
  rw[e6]
  have nj:l≠t':=zab gu gR
  have ft':H t'=none:=lW (zaq k3 gR (by simpa using Zo nj))
  refine⟨L.length-(n+1),by omega,n+1,t',as++[t],rfl,bM,rfl,k3.trans (Keep.new gR),by rw[zaf nj];exact gu,zbf.keep kQ λb x y eb=>by rw[zaf (zab eb gR)];exact eb,zac,by rw[Ql,bY];rfl,λa ha=>?_,ft'⟩
  rw[←Yo]at ha
  rcases Qe.mp ha with z | z
  ·exact fg a z
  ·rw[Qb.mp z];exact hft
end
end K21
end
section
namespace L2
open PySem
def ix_tupK{X:Cx}{K:Nb}(hK:X.K=K):IxR X (rIxT K):=hK▸zex
end L2
namespace K21
open PySem L2 Wb
abbrev zcl:Stmt:=top 34
inductive IspLFaces(vs:List V)(H:Hp)(Q:VK):Prop
 |mk (d:Nc) (es:List Ent) (cs:List (List (Str×Str))) (a9:Nr) (h0:vs=[.ref d]) (h1:RF H d es) (h2:es.length≤40) (h4:Cert (es.map (·.1)) (row (rsOf es)) cs a9) (h5:∀(l:Nc) (as:Nk) (zss:List (List Str)) (Ls:List (List (Str×Str))) (H':Hp),H' l=some (.lst (as.map V.ref))→as.length≤20000→Paired (za5 H') as zss→zss.Perm ((zcp es).map sing++Ls.map nmL)→zss.Pairwise leL→zbc (row (rsOf es)) Ls→H l=none→Keep [] H H'→Q (.ref l) H'):IspLFaces vs H Q
def spLFaces:Sp:=λvs H Q _=>IspLFaces vs H Q
def leP_lex{a b:Str×Str}(h1:leS a.1 b.1)(h2:a.1=b.1→leS a.2 b.2):leP a b:=by
 show(Tm.pairO Tm.strO Tm.strO).blt (keyP b) (keyP a)=false
 show(Tm.strO.blt b.1.cps.toList a.1.cps.toList||(!Tm.strO.blt a.1.cps.toList b.1.cps.toList&&Tm.strO.blt b.2.cps.toList a.2.cps.toList))=false
 have e1:Tm.strO.blt b.1.cps.toList a.1.cps.toList=false:=decide_eq_false h1
 rw[e1,Bool.false_or]
 cases e2:Tm.strO.blt a.1.cps.toList b.1.cps.toList with
 |true=>rfl
 |false =>
  have e3:Tm.strO.blt b.2.cps.toList a.2.cps.toList=false:=decide_eq_false (h2 (Tm.str_ext (Tm.strO.total _ _ e2 e1)))
  rw[e3];rfl
def leS_at{ws:Ni}(h:ws.Pairwise leS){i:Nat}(hi:i<ws.length){u:Str}(hu:u∈ws)(hn:u∉ws.take i):leS ws[i] u:=by
 rw[←Zl i ws]at hu
 rcases Qe.mp hu with z | z
 ·exact absurd z hn
 ·rw [Yc hi] at z
  rcases Qh.mp z with y | y
  ·rw[y];exact λz=>Wn _ z
  ·have h2:=h.sublist (Xl i ws)
   rw[Yc hi,Uc]at h2
   exact h2.1 u y
theorem Paired.impL{α β:Type}{R S:α→β→Prop}:∀{as:List α} {bs:List β},(∀a b,a∈as→R a b→S a b)→Paired R as bs→Paired S as bs
 |_,_,_,.nil=>.nil
 |_,_,h,.cons r t=>.cons (h _ _ Qd r) (Paired.impL (λa b hb=>h a b (Qg _ hb)) t)
def Keep.fr(k:Keep [] H H')(h:H a=none):Keep [] H (upd H' a o):=λc u ec hc=>by rw[zaf (zab ec h)];exact k c u ec hc
structure LF(H0 H:Hp)(r:Np)(fo se:Nc)(fa sa:Nk)(zss:List (List Str))(iso:Ni)(Ls:List (List (Str×Str))):Prop where
 hf:H fo=some (.lst (fa.map V.ref))
 pf:Paired (za5 H) fa zss
 pm:zss.Perm (iso.map sing++Ls.map nmL)
 hs:H se=some (.lst (sa.map V.ref))
 ps:zbf H sa Ls.flatten
 fc:∀L∈Ls,zei r L
 nd:Ls.flatten.Nodup
 al:∀s∈Ls.flatten,s.1∈r s.2
 fn:∀a∈fa,H0 a=none
 ns:se≠fo
def LF.keep{H':Hp}(h:LF H0 H r fo se fa sa zss iso Ls)(k:Keep [] H H'):LF H0 H' r fo se fa sa zss iso Ls :=
 ⟨k _ _ h.hf (by simp),za0 k h.pf,h.pm,k _ _ h.hs (by simp),zbf.keep h.ps λb x y eb=>k _ _ eb (by simp),h.fc,h.nd,h.al,h.fn,h.ns⟩
def flat_len{β:Type}:∀{Ls:List (List β)},(∀L∈Ls,L≠[])→Ls.length≤Ls.flatten.length:=by
 intro Ls
 induction Ls with
 |nil=>intro _;exact Qf _
 |cons L t ih =>
  intro h
  have h1:=ih λL' bo=>h L' (Qg _ bo)
  have h2:0<L.length:=Ug.mpr (h L Qd)
  rw[Zb,Yj,Ql]
  omega
def LF.len{es:List Ent}{cs:List (List (Str×Str))}{a9:Nr}(h:LF H0 H r fo se fa sa zss iso Ls)(C:Cert (es.map (·.1)) r cs a9)(aF:es.length≤40):fa.length≤iso.length+1600∧sa.length≤1600:=by
 have h1:=zgd C aF h.nd h.al
 have h2:=Zx h.ps
 have h3:=Zx h.pf
 have h4:=h.pm.length_eq
 rw[Ql,Qa,Qa]at h4
 have h5:=flat_len (Ls:=Ls) λL hL=>by
  obtain⟨s,t,e,_⟩:=(h.fc L hL).cy
  rw[e];exact List.cons_ne_nil _ _
 omega
def LF.put2{u oH:Nc}{zs:Ni}{az:Nk}{cZ:List (List (Str×Str))}(h:LF H0 H r fo se fa sa zss iso Ls)(hu:za5 H u zs)(fu:H0 u=none)(nu:u≠fo)(pm:(zss++[zs]).Perm (iso'.map sing++cZ.map nmL))(hs:H oH=some (.lst (az.map V.ref)))(ps:zbf H az cZ.flatten)(fc:∀L∈cZ,zei r L)(nd:cZ.flatten.Nodup)(al:∀s∈cZ.flatten,s.1∈r s.2)(ns:oH≠fo):LF H0 (upd H fo (.lst (fa.map V.ref++[.ref u]))) r fo oH (fa++[u]) az (zss++[zs]) iso' cZ:=by
 refine⟨by rw[zac,Qs];rfl,?_,pm,by rw[zaf ns];exact hs,?_,fc,nd,al,λa ha=>?_,ns⟩
 ·refine zao (Paired.impL (fun a z ha e=>?_) h.pf) (.cons ?_ .nil)
  ·have:a≠fo:=za3 e h.hf (by
    intro z1
    have z2:z.map V.str=fa.map V.ref:=by injection z1
    cases fa with
    |nil=>cases ha
    |cons b t=>cases z with
     |nil=>cases z2
     |cons c w=>rw[Qj,Qj]at z2;injection z2 with z3 _;cases z3)
   show upd _ _ _ a=_
   rw[zaf this];exact e
  ·show upd _ _ _ u=_
   rw[zaf nu];exact hu
 ·exact zbf.keep ps λb x y eb=>by rw[zaf (za3 eb h.hf (by intro z;cases z))];exact eb
 ·rcases Qe.mp ha with z | z
  ·exact h.fn a z
  ·rw[Qb.mp z];exact fu
def LF.put{u:Nc}{zs:Ni}(h:LF H0 H r fo se fa sa zss iso Ls)(hu:za5 H u zs)(fu:H0 u=none)(nu:u≠fo)(pm:(zss++[zs]).Perm (iso'.map sing++Ls.map nmL)):LF H0 (upd H fo (.lst (fa.map V.ref++[.ref u]))) r fo se (fa++[u]) sa (zss++[zs]) iso' Ls :=
 h.put2 hu fu nu pm h.hs h.ps h.fc h.nd h.al h.ns
def rnd_new{r:Np}{s:Str×Str}{L:No}{Ls:List (List (Str×Str))}(R:Rnd r s L)(hf:∀L∈Ls,zei r L)(hn:s∉Ls.flatten):∀u∈L,u∉Ls.flatten:=by
 intro u hu z
 obtain⟨L',bo,jT⟩:=Yf.mp z
 obtain⟨fZ,t',rfl,k',_⟩:=(hf L' bo).cy
 obtain⟨t,rfl,k⟩:=R.cy
 have clo:∀v,v∈fZ::t'→st r v∈fZ::t':=λv hv=>by
  rcases lk_clo k' v (Qh.mp hv) with z | z
  ·rw[z];exact Qd
  ·exact Qg _ z
 obtain⟨A,B,e⟩:=Wf hu
 have c:Cyc (st r) (A++u::B):=⟨s,t,e.symm,k⟩
 have al:=lk_all (P:=λu=>u∈fZ::t') clo (zc3 c) jT
 refine hn (Yf.mpr ⟨_,bo,?_⟩)
 have hs:s∈A++u::B:=by rw[←e];exact Qd
 rcases Qe.mp hs with z | z
 ·exact al s (Qp _ z)
 ·rcases Qh.mp z with y | y
  ·rw[y];exact jT
  ·exact al s (Qr _ y)
def eX:Stmt→Expr
 |.Expr e _=>e
 |_=>.Name "" ⟨0,0,0,0⟩
def bFor:Stmt→List Stmt
 |.For _ _ b _ _=>b
 |_=>[]
def bIf:Stmt→List Stmt
 |.If _ b _ _=>b
 |_=>[]
abbrev csLF:Scope:=scOf (aOf 0 (eX ((bIf ((bFor ((bFor (sAt zcl 2)).getD 1 zcl)).getD 0 zcl)).getD 2 zcl)))
def csLF_k:csLF.kind=.function:=by rfl
def csLF_c:∀y∈csLF.names,y.2≠.cell:=by decide +kernel
def csLF_n:∀y∈csLF.names,y.2=.local→csLF.names.lookup y.1=some .local:=by decide +kernel
def csLF_f:∀y∈csLF.names,y.2=.free→(zag zcl).names.lookup y.1=some .cell∨(zag zcl).names.lookup y.1=some .free:=by decide +kernel
def ndLF:(["_law_step"]:List Str).Nodup:=by decide +kernel
section
variable{P:Nj}{w:Nl}{K:Nb}{mg:Nf}{base:Nn}
def zde:zas [qR, "_law_found", "_law_seen", "_law_place",qO, "_law_steps_here"] [qR] (zag zcl):=fsk
def ok_lfaces(F:Fun K "_law_faces" "_law_faces" zcl f fd)(FS:Fun K "_law_steps" "_law_steps" zfe fs fds)(bS:Binds K fds [qR, "_law_p", "_law_q"] [])(mS:mg "_law_steps" = some (.ref fs))(GS:FnOk P w K mg base CX0 2 fs fds [qR, "_law_p", "_law_q"] spStepsS)(aD:mg "sorted" = none):FnOk P w K mg base CX0 3 f fd [qR] spLFaces:=by
 refine F.okL zde (λcdv A outer s H vs Q E hr h=>?_)
 obtain⟨d,es,cs,a9,rfl,R,aF,C,k⟩:=h
 have hu:=zct hr
 have dJ:=Nat.lt_of_succ_lt hu
 have pE:(A.deeper (PyProof.Rows.envOfC "_law_faces" (zag zcl) s.heap.objs.size f cdv)).units+8<cLine:=We (Xa (by decide:8≤64) _) hr.units
 have aP:=sizeLine_eq
 refine⟨_,zae (zaw 1 zde.nd (zbi zad))
  (zae (zaw 2 zde.nd (zbi zad))
  (zae (zbm Zm rfl (zax (zaj (zbu rfl) (by rfl) aD Yu (zaa (pv 0) zad))) (za8 3 zde.nd)
   (zae (zc2 (za4 (op_eq_nil dJ) (zgn hu (pv 0) (pv 3)) (zbi zad) (zb8 _)) (zah (zay (zb7 Qy Zq Zp za1 (pv 1) (zaa (zbi (zaa (pv 3) zad)) zad)))) zbk)
   (zah (zbm Zm rfl (zax (zaj zdm (by rfl) aD Yu (zaa (zgn hu (pv 0) (pv 3)) zad))) (za8 4 zde.nd)
    (zah (zc2 (za4 (zhh hu) (zdl (zaa (pv 3) (zaa (pv 4) zad))) (pv 2) rfl)
     (zae (zaw 5 zde.nd (zam GS hr rfl mS FS.kp bS .nil za2 (zaa (pv 0) (zaa (pv 3) (zaa (pv 4) zad)))))
     (zae (zaw 2 zde.nd (zat zd4 (pv 2) (pv 5)))
     (zah (zay (zb7 Qy Zq Zp za1 (pv 1) (zaa (zfx (M:=["_law_step"]) (ix:=[none]) ⟨csLF_k,csLF_c,csLF_n,csLF_f,rfl,ndLF,λj i x h1 h2=>by
       match j,h1,h2 with
       |0,_,h2=>cases h2
       |n+1,h1,_=>cases h1⟩ rfl (zax (pv 5)) (λC a6 ex s H=>za8 0 ndLF) (λC a6 ex s H=>zca) (λC a6 ex s H=>za7 (ix_tupK (K:=K) rfl) (pv 0) zai (λ_ _=>rfl))) zad)))))) zbk))))))
  (zah (zbh (zaj (zcz pE) (by rfl) aD Yu (zaa (pv 1) zad)))))),?_⟩
 refine⟨(by show 0≤sizeLine;decide),λfo cJ=>⟨(by show 0≤sizeLine;decide),λie hse=>?_⟩⟩
 have nfs:fo≠ie:=zab (o:=_) zac hse
 have k1:Keep [] H (upd (upd H fo (.lst [])) ie (.lst [])):=(Keep.new cJ).trans (Keep.new hse)
 have fq:(upd (upd H fo (.lst [])) ie (.lst [])) fo=some (.lst []):=by rw[zaf nfs];exact zac
 have br:(upd (upd H fo (.lst [])) ie (.lst [])) ie=some (.lst []):=zac
 generalize upd (upd H fo (.lst [])) ie (.lst [])=H1 at k1 fq br
 have R1:=R.keep k1
 refine⟨_,rfl,d,_,es.map (·.1),rfl,R1.dc,zg3 es,λl ws hl ae aj=>?_⟩
 replace aj:=aj (by rw[Qa];omega)
 have k2:Keep [] H (upd H1 l (.lst (ws.map V.str))):=k1.trans (Keep.new hl)
 have ak:(upd H1 l (.lst (ws.map V.str))) l=some (.lst (ws.map V.str)):=zac
 have fm:=(zaf (o:=.lst (ws.map V.str)) (zab fq hl)).trans fq
 have cE:=(zaf (o:=.lst (ws.map V.str)) (zab br hl)).trans br
 have nlf:l≠fo:=Zo (zab fq hl)
 generalize upd H1 l (.lst (ws.map V.str))=H2 at k2 ak fm cE
 have dk:ws.length≤40:=by rw[ae.length_eq,Qa];exact aF
 generalize dq:row (rsOf es)=r at *
 refine⟨l,rfl,⟨_,SqL.of ak⟩,zez (zs:=ws) (λi σ H'=>Aj3 (Ex4 λse x3 x4 x5=>Aj2 (σ=[some (.ref d),some (.ref fo),some (.ref se),x3,x4,x5]) (Ex4 λfa sa zss Ls=>Aj2 (LF H H' r fo se fa sa zss ((ws.take i).filter λx=>(r x).isEmpty) Ls) (∀x∈ws.take i,∀y∈r x,(x,y)∈Ls.flatten))) (Keep [fo] H2 H') (Keep [] H H'))
  ⟨⟨ie,_,_,_,rfl,[],[],[],[],⟨fm,.nil,.refl _,cE,.nil,(λL hL=>by cases hL),Yb,(λs hs=>by cases hs),(λa ha=>by cases ha),Zo nfs⟩,λx hx=>(by cases hx)⟩,Keep.refl,k2⟩ (λi σ H' _ hh=>SqL.of (hh.2 _ _ ak (by simpa using nlf))) ?_ ?_⟩
 ·rintro i hi σ H3 ⟨⟨se,x3,x4,x5,rfl,fa,sa,zss,Ls,lf,au⟩,k3,cB⟩
  have R3:=R.keep cB
  have aA:ws[i]∈es.map (·.1):=ae.mem_iff.mp (Qn hi)
  obtain⟨e,he,ee,g⟩:=R3.inn aA
  have ai:r ws[i]=e.2.1:=by rw[←dq,←ee];exact zb6 R.nd he
  have tk:ws.take (i+1)=ws.take i++[ws[i]]:=Qo hi
  have cL:=R3.ro e he
  have bi:e.2.1.length≤40:=by
   have h1:=C.rn ws[i]
   rw[ai]at h1
   have:∀y∈e.2.1,y∈es.map (·.1):=λy hy=>C.inn' (x:=ws[i]) (by rw[ai];exact hy)
   have:=zcf h1 this
   rw[Qa]at this
   omega
  have jb:=lf.len C aF
  have hil:((ws.take i).filter λx=>(r x).isEmpty).length≤40:=Zj (Ko _ _) (by rw[Zf];omega)
  refine⟨_,rfl,_,rfl,d,_,rfl,g,(by show 0≤sizeLine;decide),λq hq=>?_⟩
  have nrq:e.2.2≠q:=zab cL hq
  refine⟨e.2.2,q,_,rfl,rfl,SqL.of (by rw[zaf nrq];exact cL),SqL.of zac,_,rfl,?_⟩
  have kq:Keep [] H3 (upd H3 q (.lst [])):=Keep.new hq
  have jN:=lf.keep kq
  generalize upd H3 q (.lst [])=H4 at kq jN
  have c7:Keep [] H H4:=cB.trans kq
  have k4:Keep [fo] H2 H4:=k3.trans (kq.sub (by simp))
  by_cases gB:e.2.1=[]
  ·refine zb2 (by rw [gB];rfl) ⟨_,rfl,.inl ⟨rfl,_,SqL.of jN.hf⟩,_,rfl,(by show 1≤sizeLine;decide),fun u jT=>?_⟩
   have ku:Keep [] H4 (upd H4 u (.lst [.str ws[i]])):=Keep.new jT
   have hu5:(upd H4 u (.lst [.str ws[i]])) u=some (.lst [.str ws[i]]):=zac
   have np:=jN.keep ku
   generalize upd H4 u (.lst [.str ws[i]])=H5 at ku hu5 np
   have nuf:u≠fo:=Zo (zab jN.hf jT)
   refine⟨fo,_,_,rfl,rfl,np.hf,by rw[Qa];omega,?_⟩
   have fu:H u=none:=zaq c7 jT (by simp)
   have jq:(ws.take (i+1)).filter (λx=>(r x).isEmpty)=(ws.take i).filter (λx=>(r x).isEmpty)++[ws[i]]:=by
    rw[tk,Uq,Yx (by rw[ai,gB];rfl),Ka]
   have lf6:=np.put (zs:=[ws[i]]) (iso':=(ws.take i).filter (λx=>(r x).isEmpty)++[ws[i]]) hu5 fu nuf (by
    rw[Qs,Qm]
    refine(np.pm.append_right _).trans ?_
    rw[Qm]
    exact Zv _ Yw)
   have k6:Keep [fo] H5 (upd H5 fo (.lst (fa.map V.ref++[.ref u]))):=Keep.wr (by simp)
   have g8:Keep [] H (upd H5 fo (.lst (fa.map V.ref++[.ref u]))):=(c7.trans ku).fr cJ
   generalize upd H5 fo (.lst (fa.map V.ref++[.ref u]))=H6 at lf6 k6 g8
   have R6:=R.keep g8
   have g6:=R6.get he
   rw[ee]at g6
   refine⟨_,rfl,_,rfl,d,_,rfl,g6,e.2.2,[],rfl,SqL.of (by have:=R6.ro e he;rw[gB]at this;exact this),λl7 oF aQ aV _=>?_⟩
   have e7:oF=[]:=Jb.mp aV.length_eq
   subst e7
   have k7:Keep [] H6 (upd H6 l7 (.lst (([]:List Str).map V.str))):=Keep.new aQ
   have bw:(upd H6 l7 (.lst (([]:List Str).map V.str))) l7=some (.lst (([]:List Str).map V.str)):=zac
   generalize upd H6 l7 (.lst (([]:List Str).map V.str))=H7 at k7 bw
   refine⟨l7,rfl,⟨_,SqL.of bw⟩,zez (zs:=[]) (λj σ H'=>Aj2 (σ=[some (.ref d),some (.ref fo),some (.ref se),some (.str ws[i]),x4,x5]) (H'=H7)) ⟨rfl,rfl⟩ (λj σ H' _ hh=>by rw[hh.2];exact SqL.of bw) (λj hj=>by cases hj) ?_⟩
   rintro σ H8 ⟨rfl,rfl⟩
   refine⟨⟨se,_,_,_,rfl,fa++[u],sa,zss++[[ws[i]]],Ls,jq▸lf6.keep k7,λx hx y hy=>?_⟩,((k4.trans (ku.sub (by simp))).trans k6).trans (k7.sub (by simp)),g8.trans k7⟩
   rw[tk]at hx
   rcases Qe.mp hx with z | z
   ·exact au x z y hy
   ·rw[Qb.mp z,ai,gB]at hy;cases hy
  ·have jq:(ws.take (i+1)).filter (fun x=>(r x).isEmpty)=(ws.take i).filter (fun x=>(r x).isEmpty):=by
    rw[tk,Uq,Yy (by rw[ai];simpa using gB),Ka,Zy]
   have aH:(e.2.1.map V.str).isEmpty=false:=by
    cases h9:e.2.1 with
    |nil=>exact absurd h9 gB
    |cons a t=>rfl
   refine zbs (by rw[if_neg (by decide)];exact aH) ?_
   have R4:=R.keep c7
   have g4:=R4.get he
   rw[ee]at g4
   refine⟨_,rfl,_,rfl,d,_,rfl,g4,e.2.2,e.2.1,rfl,SqL.of (R4.ro e he),λl7 vs aQ aV c9=>?_⟩
   replace c9:=c9 (by omega)
   have k7:Keep [] H4 (upd H4 l7 (.lst (vs.map V.str))):=Keep.new aQ
   have bw:(upd H4 l7 (.lst (vs.map V.str))) l7=some (.lst (vs.map V.str)):=zac
   have lf7:=jN.keep k7
   have nl7:l7≠fo:=Zo (zab jN.hf aQ)
   generalize upd H4 l7 (.lst (vs.map V.str))=H7 at k7 bw lf7
   refine⟨l7,rfl,⟨_,SqL.of bw⟩,zez (zs:=vs) (λj σ H'=>Aj3 (Ex3 λse x4 x5=>Aj2 (σ=[some (.ref d),some (.ref fo),some (.ref se),some (.str ws[i]),x4,x5]) (Ex4 λfa sa zss Ls=>Aj3 (LF H H' r fo se fa sa zss ((ws.take i).filter λx=>(r x).isEmpty) Ls) (∀x∈ws.take i,∀y∈r x,(x,y)∈Ls.flatten) (∀y∈vs.take j,(ws[i],y)∈Ls.flatten))) (Keep [fo] H7 H') (Keep [] H H'))
    ⟨⟨se,_,_,rfl,fa,sa,zss,Ls,lf7,au,λy hy=>(by cases hy)⟩,Keep.refl,c7.trans k7⟩ (λj σ H' _ hh=>SqL.of (hh.2 _ _ bw (by simpa using nl7))) ?_ ?_⟩
   ·rintro j hj σ H8 ⟨⟨se,x4,x5,rfl,fa,sa,zss,Ls,lf,au,dz⟩,k8,p9⟩
    have hvj:vs[j]∈r ws[i]:=by rw[ai];exact aV.mem_iff.mp (Qn hj)
    have n6:vs.take (j+1)=vs.take j++[vs[j]]:=Qo hj
    refine⟨_,rfl,_,rfl,(by show 2≤sizeLine;decide),λt9 gP=>?_⟩
    have k9:Keep [] H8 (upd H8 t9 (.tup [.str ws[i],.str vs[j]])):=Keep.new gP
    have h9:(upd H8 t9 (.tup [.str ws[i],.str vs[j]])) t9=some (.tup [.str ws[i],.str vs[j]]):=zac
    have jM:=lf.keep k9
    generalize upd H8 t9 (.tup [.str ws[i],.str vs[j]])=H9 at k9 h9 jM
    have nC:=p9.trans k9
    refine⟨_,rfl,t9,se,(ws[i],vs[j]),sa,Ls.flatten,rfl,rfl,h9,SqL.of jM.hs,jM.ps,_,rfl,?_⟩
    by_cases gm:(ws[i],vs[j])∈Ls.flatten
    ·refine zbs (by rw [decide_eq_true gm];rfl) ⟨⟨se,_,_,rfl,fa,sa,zss,Ls,jM,au,fun y hy=>?_⟩,k8.trans (k9.sub (by simp)),nC⟩
     rw[n6]at hy
     rcases Qe.mp hy with z | z
     ·exact dz y z
     ·rw[Qb.mp z];exact gm
    ·refine zb2 (by rw [decide_eq_false gm];rfl) ?_
     have jb:=jM.len C aF
     refine⟨_,rfl,_,rfl,_,rfl,d,es,cs,a9,(ws[i],vs[j]),rfl,R.keep nC,by rw[dq];exact C.sy _ _ hvj,by rw[dq];exact C,aF,λtA pa L HA ftA htA paA RL hLl _ kA=>?_⟩
     rw[dq]at RL
     have lfA:=jM.keep kA
     have cp:=Zx paA
     refine⟨_,rfl,_,rfl,se,tA,_,_,rfl,rfl,lfA.hs,htA,by rw[Qa,Qa];omega,λq hq=>?_⟩
     have kq:Keep [] HA (upd HA q (.lst (sa.map V.ref++pa.map V.ref))):=Keep.new hq
     have hqB:(upd HA q (.lst (sa.map V.ref++pa.map V.ref))) q=some (.lst ((sa++pa).map V.ref)):=by rw[zac,Qs]
     have lfB:=lfA.keep kq
     have pO:=kq _ _ htA (by simp)
     have paB:zbf _ pa L:=zbf.keep paA λb x y eb=>kq _ _ eb (by simp)
     have nqf:q≠fo:=Zo (zab lfA.hf hq)
     generalize upd HA q (.lst (sa.map V.ref++pa.map V.ref))=HB at kq hqB lfB pO paB
     refine⟨_,rfl,.inl ⟨rfl,_,SqL.of lfB.hf⟩,_,rfl,tA,rfl,⟨_,SqL.of pO⟩,lc_at (xs:=pa.map V.ref) (λ τ=>∃x0,τ=[x0]) ((nmL L).map V.str) (by rw[Qa,Qa,Qa,cp]) (SqL.of pO) (by rw[Qa];omega) ⟨none,rfl⟩ ?_ λD hD=>?_⟩
     ·rintro n hn nZ τ ⟨x0,rfl⟩ kc jh
      rw[Qa]at hn
      obtain⟨bd,hp⟩:=zap paB hn
      rw[Zi]
      refine⟨_,rfl,pa[n],_,_,_,rfl,rfl,SqT.of hp,(zav rfl:atI [V.str L[n].1,V.str L[n].2] ((0:Nat):Int)=some (.str L[n].1)),?_⟩
      have:=jh [some (.ref pa[n])] ⟨_,rfl⟩
      rw[Zi,Zi]at this
      exact this
     ·have kD:Keep [] HB (upd HB D (.lst ((nmL L).map V.str))):=Keep.new hD
      have hDC:(upd HB D (.lst ((nmL L).map V.str))) D=some (.lst ((nmL L).map V.str)):=zac
      have lfC:=lfB.keep kD
      have hqC:=kD _ _ hqB (by simp)
      have paC:zbf _ pa L:=zbf.keep paB λb x y eb=>kD _ _ eb (by simp)
      have nDf:D≠fo:=Zo (zab lfB.hf hD)
      generalize upd HB D (.lst ((nmL L).map V.str))=HC at kD hDC lfC hqC paC
      have kkC:Keep [] H HC:=((nC.trans kA).trans kq).trans kD
      have fD:H D=none:=zaq ((nC.trans kA).trans kq) hD (by simp)
      refine⟨fo,_,_,rfl,rfl,lfC.hf,by rw[Qa];omega,?_⟩
      have new:=rnd_new RL lfC.fc gm
      have hFL:zei r L:=by
       obtain⟨t,eL,kL⟩:=RL.cy
       refine⟨(ws[i],vs[j]),t,eL,kL,λu hu=>?_⟩
       have hu2:=RL.al u hu
       have dJ:u.2∈r u.1:=C.sy _ _ hu2
       have bM:u.1∉ws.take i:=λz=>new u hu (au u.1 z u.2 dJ)
       refine leP_lex (leS_at aj hi (ae.mem_iff.mpr (C.inn dJ)) bM) λe1=>?_
       have dE:ws[i]=u.1:=e1
       refine leS_at c9 hj (aV.mem_iff.mpr (by rw[←ai,dE];exact dJ)) λz=>new u hu ?_
       have:=dz u.2 z
       rw[dE]at this
       exact this
      have sf:(Ls++[L]).flatten=Ls.flatten++L:=by rw[Wj,Yj,Jc,Zy]
      have lfE:LF H (upd HC fo (.lst (fa.map V.ref++[.ref D]))) r fo q (fa++[D]) (sa++pa) (zss++[nmL L]) ((ws.take i).filter λx=>(r x).isEmpty) (Ls++[L]):=by
       refine lfC.put2 (zs:=nmL L) hDC fD nDf ?_ hqC (by rw[sf];exact zao lfC.ps paC) (λL' bo=>?_) ?_ (λs hs=>?_) nqf
       ·rw [Qs,← Qm]
        exact lfC.pm.append_right _
       ·rcases Qe.mp bo with z | z
        ·exact lfC.fc L' z
        ·rw[Qb.mp z];exact hFL
       ·rw [sf]
        exact Ze.mpr ⟨lfC.nd,RL.nd,λa ha b hb e=>new b hb (e▸ha)⟩
       ·rw [sf] at hs
        rcases Qe.mp hs with z | z
        ·exact lfC.al s z
        ·exact RL.al s z
      have k6:Keep [fo] HC (upd HC fo (.lst (fa.map V.ref++[.ref D]))):=Keep.wr (by simp)
      have g8:Keep [] H (upd HC fo (.lst (fa.map V.ref++[.ref D]))):=kkC.fr cJ
      refine⟨⟨q,_,_,rfl,fa++[D],sa++pa,zss++[nmL L],Ls++[L],lfE,λx hx y hy=>?_,λy hy=>?_⟩,(((((k8.trans (k9.sub (by simp))).trans (kA.sub (by simp))).trans (kq.sub (by simp))).trans (kD.sub (by simp))).trans k6),g8⟩
      ·rw[Wj];exact Qr _ (au x hx y hy)
      ·rw [Wj]
       rw[n6]at hy
       rcases Qe.mp hy with z | z
       ·exact Qr _ (dz y z)
       ·rw [Qb.mp z]
        obtain⟨t,eL,_⟩:=RL.cy
        refine Qp _ ?_
        rw[Yj,Jc,Zy,eL]
        exact Qd
   ·rintro σ H8 ⟨⟨se,x4,x5,rfl,fa,sa,zss,Ls,lf,au,dz⟩,k8,p9⟩
    rw[Qa,Qv (Qf _)]at dz
    refine⟨⟨se,_,_,_,rfl,fa,sa,zss,Ls,jq▸lf,λx hx y hy=>?_⟩,(k4.trans (k7.sub (by simp))).trans k8,p9⟩
    rw[tk]at hx
    rcases Qe.mp hx with z | z
    ·exact au x z y hy
    ·rw [Qb.mp z] at hy ⊢
     exact dz y (aV.mem_iff.mpr (by rw[←ai];exact hy))
 ·rintro σ H3 ⟨⟨se,x3,x4,x5,rfl,fa,sa,zss,Ls,lf,au⟩,k3,cB⟩
  rw[Qa,Qv (Qf _)]at lf au
  have jb:=lf.len C aF
  have hil:(ws.filter λx=>(r x).isEmpty).length≤40:=Zj (Ko _ _) dk
  have sK:∀a zs,za5 H3 a zs→lstV H3 (.ref a)=zs.map λx:Str=>x.cps.toList:=λa zs e=>by
   rw[zim e,Zk];rfl
  refine⟨_,rfl,fo,_,rfl,SqL.of lf.hf,λv hv=>?_,λl7 oF aQ cN c9=>?_⟩
  ·obtain ⟨a,ha,rfl⟩:=Qk.mp hv
   obtain⟨j,hj,rfl⟩:=Qx ha
   obtain⟨_,e⟩:=zap lf.pf hj
   exact⟨_,_,rfl,e⟩
  ·obtain ⟨sI,rfl,aV⟩:=zgk cN
   obtain⟨kH,iQ,cF⟩:=zcm aV lf.pf
   rw[Ws]at c9
   have si:zbc r Ls:=⟨lf.fc,lf.nd,λs=>⟨lf.al s,λh=>au s.1 (ae.mem_iff.mpr (C.inn' h)) s.2 (C.sy _ _ h)⟩⟩
   have qT:(ws.filter λx=>(r x).isEmpty).Perm (zcp es):=by
    rw[iso_eq R.nd,dq]
    exact ae.filter _
   exact k l7 sI kH Ls _ zac (by rw[aV.length_eq];omega) (Paired.imp' (λa z e=>by show upd _ _ _ a=_;rw[zaf (zab e aQ)];exact e) cF) (iQ.trans (lf.pm.trans ((qT.map _).append_right _))) (show kH.Pairwise leL from zcn (S:=λa b=>(Tm.listO Tm.strO).kle a b) (f:=λa=>lstV H3 (.ref a)) (g:=λz:List Str=>z.map λx:Str=>x.cps.toList) cF sK c9) si (zaq cB aQ (by simp)) (cB.trans (Keep.new aQ))
end
end K21
end
section
namespace K21
open PySem L2 Wb
abbrev zdr:Stmt:=top 35
abbrev zcv:Stmt:=top 36
inductive IspLPiece(vs:List V)(H:Hp)(Q:VK):Prop
 |mk (d:Nc) (es:List Ent) (cs:List (List (Str×Str))) (a9:Nr) (x:Str) (h0:vs=[.ref d,.str x]) (h1:RF H d es) (h2:es.length≤40) (h3:Cert (es.map (·.1)) (row (rsOf es)) cs a9) (h4:x∈es.map (·.1)) (h5:∀(l:Nc) (zs:Ni) (H':Hp),H' l=some (.lst (zs.map V.str))→zs.Nodup→zs.Pairwise leS→(∀y,y∈zs↔y∈es.map (·.1)∧a9 y=a9 x)→H l=none→Keep [] H H'→Q (.ref l) H'):IspLPiece vs H Q
def spLPiece:Sp:=λvs H Q _=>IspLPiece vs H Q
inductive zh0(vs:List V)(H:Hp)(Q:VK):Prop
 |mk (d:Nc) (es:List Ent) (cs:List (List (Str×Str))) (a9:Nr) (h0:vs=[.ref d]) (h1:RF H d es) (h2:es.length≤40) (h3:Cert (es.map (·.1)) (row (rsOf es)) cs a9) (h4:∀(l:Nc) (as:Nk) (zss:List (List Str)) (H':Hp),H' l=some (.lst (as.map V.ref))→as.length≤40→Paired (za5 H') as zss→(∀zs∈zss,zcd (es.map (·.1)) a9 zs)→InRow (es.map (·.1)) zss→H l=none→Keep [] H H'→Q (.ref l) H'):zh0 vs H Q
def spLPieces:Sp:=λvs H Q _=>zh0 vs H Q
def zik{X:Cx}{K:Nb}(hK:X.K=K):OpR X (compareOp .NotIn) (rIn K true):=hK▸zdt
def zge:∀{as bs:Ni},as.Nodup→bs.Nodup→as.Pairwise leS→bs.Pairwise leS→(∀y,y∈as↔y∈bs)→as=bs:=λ{as bs} na nb sa sb h =>
 ((Wv na nb).mpr h).eq_of_pairwise (λa b _ _=>zf9 _ _) sa sb
def pieces_one{ns dG:Ni}{a9:Nr}{zss aR:List (List Str)}(hn:∀ y,y∈ns↔y∈dG)(p:∀ zs∈zss,zcd ns a9 zs)(p':∀ zs∈aR,zcd dG a9 zs)(r:InRow ns zss)(r':InRow dG aR):zss=aR:=by
 have sub:∀{ns dG:Ni} {zss aR:List (List Str)},(∀y,y∈ns↔y∈dG)→(∀zs∈zss,zcd ns a9 zs)→(∀zs∈aR,zcd dG a9 zs)→InRow ns zss→InRow dG aR→∀zs∈zss,zs∈aR:=λ{ns dG zss aR} hn p p' r r' zs hz=>by
  obtain⟨nd,s,hs,hm⟩:=p zs hz
  obtain⟨cA,g9,bm⟩:=r'.al s ((hn s).mp hs)
  obtain⟨gL,s2,_,gU⟩:=p' cA g9
  have el:=((gU s).mp bm).2
  rw[zge nd gL (r.so zs hz) (r'.so cA g9) λy=>by rw[hm,gU,hn,el]]
  exact g9
 have anti:∀a∈zss,∀b∈aR,(a≠b∧∀x∈a.head?,∀y∈b.head?,leS x y)→(b≠a∧∀x∈b.head?,∀y∈a.head?,leS x y)→a=b:=λa ha b hb h1 h2=>by
  obtain⟨nd,s,hs,hm⟩:=p a ha
  obtain⟨gL,s',bm,gU⟩:=p' b hb
  cases a with
  |nil=>exact absurd ((hm s).mpr ⟨hs,rfl⟩) (by simp)
  | cons x t=>cases b with
   |nil=>exact absurd ((gU s').mpr ⟨bm,rfl⟩) (by simp)
   |cons y u =>
    have e:=zf9 _ _ (h1.2 x rfl y rfl) (h2.2 y rfl x rfl)
    subst e
    have e1:=((hm x).mp Qd).2
    have e2:=((gU x).mp Qd).2
    exact zge nd gL (r.so _ ha) (r'.so _ hb) λy=>by rw[hm,gU,hn,←e1,←e2]
 have nd1:zss.Nodup:=r.hd.imp λh=>h.1
 have fI:aR.Nodup:=r'.hd.imp λh=>h.1
 refine List.Perm.eq_of_pairwise (le:=λa b=>a≠b∧∀x∈a.head?,∀y∈b.head?,leS x y) (λa b ha hb=>anti a ha b hb) r.hd r'.hd ((Wv nd1 fI).mpr λz=>⟨sub hn p p' r r' z,sub (λy=>(hn y).symm) p' p r' r z⟩)
def bWh:Stmt→List Stmt
 |.While _ b _ _=>b
 |_=>[]
abbrev csLP:Scope:=scOf (aOf 0 (eX ((bWh (sAt zdr 2)).getD 0 zdr)))
def csLP_k:csLP.kind=.function:=by rfl
def csLP_c:∀y∈csLP.names,y.2≠.cell:=by decide +kernel
def csLP_n:∀y∈csLP.names,y.2=.local→csLP.names.lookup y.1=some .local:=by decide +kernel
def csLP_f:∀y∈csLP.names,y.2=.free→(zag zdr).names.lookup y.1=some .cell∨(zag zdr).names.lookup y.1=some .free:=by decide +kernel
def csLP_l:csLP.names.lookup ("_law_piece_here" : Str)=some NameKind.free:=by decide +kernel
def ndLP:([qO, "_law_piece_here"]:List Str).Nodup:=by decide +kernel
def iTst:Stmt→Expr
 |.If e _ _ _=>e
 |_=>.Name "" ⟨0,0,0,0⟩
def uN:Expr→Expr
 |.UnaryOp _ e _=>e
 |e=>e
abbrev csLQ:Scope:=scOf (aOf 0 (uN (iTst ((bFor (sAt zcv 1)).getD 0 zcv))))
def csLQ_k:csLQ.kind=.function:=by rfl
def csLQ_c:∀y∈csLQ.names,y.2≠.cell:=by decide +kernel
def csLQ_n:∀y∈csLQ.names,y.2=.local→csLQ.names.lookup y.1=some .local:=by decide +kernel
def csLQ_f:∀y∈csLQ.names,y.2=.free→(zag zcv).names.lookup y.1=some .cell∨(zag zcv).names.lookup y.1=some .free:=by decide +kernel
def csLQ_l:csLQ.names.lookup ("_law_place" : Str)=some NameKind.free:=by decide +kernel
def ndLQ:(["_law_piece_here", "_law_place"]:List Str).Nodup:=by decide +kernel
section
variable{P:Nj}{w:Nl}{K:Nb}{mg:Nf}{base:Nn}
def zf3:zas [qR, "_law_place", "_law_piece_here", "_law_at"] [qR, "_law_place"] (zag zdr):=fsk
def ok_lpiece(F:Fun K "_law_piece" "_law_piece" zdr f fd)(aD:mg "sorted" = none)(aa:mg "len" = none):FnOk P w K mg base CX0 1 f fd [qR, "_law_place"] spLPiece:=by
 refine F.okL zf3 (λcdv A outer s H vs Q E hr h=>?_)
 obtain⟨d,es,cs,a9,x,rfl,R,aF,C,hx,k⟩:=h
 have hu:=zct hr
 have aP:=sizeLine_eq
 refine⟨_,zae (ps_set (i:=2) zf3.nd rfl (Or.inr rfl) (zbi (zaa (pv 1) zad)))
  (zae (zaw 3 zf3.nd zai)
  (zae (zdy Zm (za4 op_lt (pv 3) (zaj zan (by rfl) aa Zu (zaa (pv 2) zad)) (zb8 _))
   (zae (zay (zb7 Qy PySem.F.slot_list_extend PySem.F.type_list_extend mt_extend (pv 2) (zaa (zfx (M:=[qO, "_law_piece_here"]) (ix:=[none,some 2]) ⟨csLP_k,csLP_c,csLP_n,csLP_f,rfl,ndLP,λj i x h1 h2=>by
     match j,h1,h2 with
     |0,_,h2=>cases h2
     |1,h1,h2=>cases h1;cases h2;exact⟨rfl,csLP_l⟩
     |n+2,h1,_=>cases h1⟩ rfl (zax (zgn hu (pv 0) (za7 zau (pv 2) (pv 3) (λ_ _=>rfl)))) (λC a6 ex s H=>za8 0 ndLP)
     (λC a6 ex s H=>zig (za4 (zik (K:=K) rfl) (pv 0) (pv 1) rfl)) (λC a6 ex s H=>pv 0)) zad)))
   (zah (zaw 3 zf3.nd (zat zbo (pv 3) zai)))))
  (zah (zbh (zaj zdm (by rfl) aD Yu (zaa (pv 2) zad)))))),?_⟩
 refine⟨_,rfl,(by show 1≤sizeLine;decide),λpl cp=>?_⟩
 have k1:Keep [] H (upd H pl (.lst [.str x])):=Keep.new cp
 have cP:(upd H pl (.lst [.str x])) pl=some (.lst ([x].map V.str)):=zac
 generalize upd H pl (.lst [.str x])=H1 at k1 cP
 generalize dq:row (rsOf es)=r at *
 refine⟨λm σ H'=>Ex2 λ(bp:Nat) (zs:Ni)=>Aj8 (m=es.length-bp) (σ=[some (.ref d),some (.str x),some (.ref pl),some (.int (bp:Int))]) (H' pl=some (.lst (zs.map V.str))) zs.Nodup (∀z∈zs,z∈es.map (·.1)∧a9 z=a9 x) (x∈zs) (∀z∈zs.take bp,∀y∈r z,y∈zs) (Aj2 (bp≤zs.length) (Keep [] H H')),
  ⟨_,0,[x],rfl,rfl,cP,Za.mpr ⟨by simp,Yb⟩,λz hz=>(by rw[Qb.mp hz];exact⟨hx,rfl⟩),Qd,λz hz=>(by cases hz),Zn _,k1⟩,?_⟩
 rintro m σ H2 ⟨bp,zs,rfl,rfl,aL,fI,kZ,gd,sF,da,k2⟩
 have dS:zs.length≤es.length:=by
  have:=zcf fI λz hz=>(kZ z hz).1
  rwa[Qa]at this
 refine⟨_,rfl,_,rfl,pl,_,rfl,.inl (SqL.of aL),_,_,rfl,rfl,_,rfl,?_⟩
 rw[Qa]
 by_cases ad:bp<zs.length
 ·refine zb2 (decide_eq_true (by omega)) ⟨_,fun σ' H' zz=>zz,?_⟩
  have nH:zs[bp]∈zs:=Qn ad
  have tk:zs.take (bp+1)=zs.take bp++[zs[bp]]:=Qo ad
  have R2:=R.keep k2
  obtain⟨e,he,ee,g⟩:=R2.inn (kZ _ nH).1
  have ai:r zs[bp]=e.2.1:=by rw[←dq,←ee];exact zb6 R.nd he
  have bz:e.2.1.Nodup:=by have:=C.rn zs[bp];rwa[ai]at this
  have bi:e.2.1.length≤40:=by
   have:∀y∈e.2.1,y∈es.map (·.1):=λy hy=>C.inn' (x:=zs[bp]) (by rw[ai];exact hy)
   have:=zcf bz this
   rw[Qa]at this
   omega
  refine⟨_,rfl,.inl ⟨rfl,_,SqL.of aL⟩,_,rfl,_,rfl,_,rfl,pl,_,_,_,rfl,rfl,SqL.of aL,zav (by rw[Qu,Qc ad];rfl),d,_,rfl,g,e.2.2,rfl,⟨_,SqL.of (R2.ro e he)⟩,?_⟩
  refine lc_filt (xs:=e.2.1.map V.str) (λ τ=>∃x0,τ=[x0,some (.ref pl)]) (λv=>match v with | .str z=>decide (z∉zs) | _=>false) (SqL.of (R2.ro e he)) (by rw[Qa];omega) ⟨none,rfl⟩ ?_ (λD hD=>?_)
  ·rintro y hy τ ⟨x0,rfl⟩ kk1 kk0 lN lO
   obtain⟨a,ha,rfl⟩:=Qk.mp hy
   refine⟨_,rfl,_,rfl,pl,_,rfl,.inl (SqL.of aL),rfl,zcq _,_,rfl,?_⟩
   rw[zef]
   by_cases hz:a∈zs
   ·exact zbs (by rw[decide_eq_true hz];rfl) (lO (decide_eq_false (λn=>n hz)) _ ⟨_,rfl⟩)
   ·exact zb2 (by rw[decide_eq_false hz];rfl) ⟨_,rfl,lN (decide_eq_true hz) _ ⟨_,rfl⟩⟩
  ·have ef:(e.2.1.map V.str).filter (fun v=>match v with | .str z=>decide (z∉zs) | _=>false)=(e.2.1.filter fun z=>decide (z∉zs)).map V.str:=by
    rw[List.filter_map];rfl
   rw[ef]
   have hG:∀y,y∈e.2.1.filter (λz=>decide (z∉zs))↔y∈e.2.1∧y∉zs:=λy=>by
    rw[Uf,decide_eq_true_iff]
   have hGn:(e.2.1.filter λz=>decide (z∉zs)).Nodup:=bz.sublist Uh
   have hGl:(e.2.1.filter λz=>decide (z∉zs)).length≤40:=Zj (Ko _ _) bi
   generalize(e.2.1.filter λz=>decide (z∉zs))=G at hG hGn hGl
   have k3:Keep [] H (upd H2 D (.lst (G.map V.str))):=k2.trans (Keep.new hD)
   have gH:(upd H2 D (.lst (G.map V.str))) D=some (.lst (G.map V.str)):=zac
   have bJ:=(zaf (o:=.lst (G.map V.str)) (zab aL hD)).trans aL
   generalize upd H2 D (.lst (G.map V.str))=H3 at k3 gH bJ
   refine⟨pl,D,_,_,rfl,rfl,bJ,gH,by rw[Qa,Qa];omega,?_⟩
   rw[←Qs]
   refine⟨_,rfl,_,_,rfl,rfl,es.length-(bp+1),by omega,bp+1,zs++G,rfl,rfl,zac,?_,λz hz=>?_,Qr _ gd,λz hz y hy=>?_,by rw[Ql];omega,k3.fr cp⟩
   ·exact Ze.mpr ⟨fI,hGn,λa ha b hb ab=>((hG b).mp hb).2 (ab▸ha)⟩
   ·rcases Qe.mp hz with h | h
    ·exact kZ z h
    ·have h1:z∈r zs[bp]:=by rw [ai];exact ((hG z).mp h).1
     exact⟨C.inn' h1,(C.la _ _ h1).trans (kZ _ nH).2⟩
   ·rw [Kt (by omega),tk] at hz
    rcases Qe.mp hz with h | h
    ·exact Qr _ (sF z h y hy)
    ·rw [Qb.mp h,ai] at hy
     by_cases fM:y∈zs
     ·exact Qr _ fM
     ·exact Qp _ ((hG y).mpr ⟨hy,fM⟩)
 ·refine zbs (decide_eq_false (by omega)) ?_
  rw[Qv (by omega)]at sF
  refine⟨_,rfl,pl,zs,rfl,SqL.of aL,λl ws hl ae aj=>?_⟩
  refine k l ws _ zac (ae.nodup_iff.mpr fI) (aj (by omega)) (λy=>?_) (zaq k2 hl (by simp)) (k2.trans (Keep.new hl))
  rw[ae.mem_iff]
  constructor
  ·exact kZ y
  ·rintro ⟨h1,h2⟩
   have hc:=C.co x hx y h1 h2.symm
   clear h1 h2
   induction hc with
   |refl=>exact gd
   |step _ hz ih=>exact sF _ ih _ hz
def zgh:zas [qR, "_law_found", "_law_place"] [qR] (zag zcv):=fsk
def ok_lpieces(F:Fun K "_law_pieces" "_law_pieces" zcv f fd)(FP:Fun K "_law_piece" "_law_piece" zdr fp fdp)(bP:Binds K fdp [qR, "_law_place"] [])(mP:mg "_law_piece" = some (.ref fp))(GP:FnOk P w K mg base CX0 1 fp fdp [qR, "_law_place"] spLPiece)(aD:mg "sorted" = none)(jB:mg "any" = none):FnOk P w K mg base CX0 2 f fd [qR] spLPieces:=by
 refine F.okL zgh (λcdv A outer s H vs Q E hr h=>?_)
 obtain⟨d,es,cs,a9,rfl,R,aF,C,k⟩:=h
 have hu:=zct hr
 have aP:=sizeLine_eq
 refine⟨_,zae (zaw 1 zgh.nd (zbi zad))
  (zae (zbm Zm rfl (zax (zaj (zbu rfl) (by rfl) aD Yu (zaa (pv 0) zad))) (pg_name (i:=2) zgh.nd rfl (Or.inr rfl))
   (zah (zc2 (zfu (zgl (zaj (call_any rfl) (by rfl) jB PyProof.Rows.boot_any (zaa (zfx (M:=["_law_piece_here", "_law_place"]) (ix:=[none,some 2]) ⟨csLQ_k,csLQ_c,csLQ_n,csLQ_f,rfl,ndLQ,fun j i x h1 h2=>by
     match j,h1,h2 with
     |0,_,h2=>cases h2
     |1,h1,h2=>cases h1;cases h2;exact⟨rfl,csLQ_l⟩
     |n+2,h1,_=>cases h1⟩ rfl (zax (pv 1)) (λC a6 ex s H=>za8 0 ndLQ) (λC a6 ex s H=>zca) (λC a6 ex s H=>pe_cmpR (zfh (K:=K) rfl) (pv 1) (pv 0) rfl)) zad))))
    (zah (zay (zb7 Qy Zq Zp za1 (pv 1) (zaa (zam GP hr rfl mP FP.kp bP .nil za2 (zaa (pv 0) (zaa (pv 2) zad))) zad)))) zbk)))
  (zah (zbh (pv 1)))),?_⟩
 refine⟨(by show 0≤sizeLine;decide),λfo cJ=>?_⟩
 have k1:Keep [] H (upd H fo (.lst [])):=Keep.new cJ
 have fq:(upd H fo (.lst [])) fo=some (.lst []):=zac
 generalize upd H fo (.lst [])=H1 at k1 fq
 refine⟨_,rfl,d,_,es.map (·.1),rfl,(R.keep k1).dc,zg3 es,λl ws hl ae aj=>?_⟩
 replace aj:=aj (by rw[Qa];omega)
 have k2:Keep [] H (upd H1 l (.lst (ws.map V.str))):=k1.trans (Keep.new hl)
 have ak:(upd H1 l (.lst (ws.map V.str))) l=some (.lst (ws.map V.str)):=zac
 have fm:=(zaf (o:=.lst (ws.map V.str)) (zab fq hl)).trans fq
 have nlf:l≠fo:=Zo (zab fq hl)
 generalize upd H1 l (.lst (ws.map V.str))=H2 at k2 ak fm
 have dk:ws.length≤40:=by rw[ae.length_eq,Qa];exact aF
 refine⟨l,rfl,⟨_,SqL.of ak⟩,zez (zs:=ws) (λi σ H'=>Aj4 (Ex1 λx2=>σ=[some (.ref d),some (.ref fo),x2]) (Keep [fo] H2 H') (Keep [] H H') (Ex2 λas zss=>Aj8 (H' fo=some (.lst (as.map V.ref))) (Paired (za5 H') as zss) (∀zs∈zss,zcd (es.map (·.1)) a9 zs) (as.length≤i) (∀y∈ws.take i,∃zs∈zss,y∈zs) (∀zs∈zss,∀x∈zs.head?,x∈ws.take i) (zss.Pairwise λa b=>a≠b∧∀x∈a.head?,∀y∈b.head?,leS x y) (∀zs∈zss,zs.Pairwise leS)))
  ⟨⟨_,rfl⟩,Keep.refl,k2,[],[],fm,.nil,λzs h=>(by cases h),Zn _,λy h=>(by cases h),λzs h=>(by cases h),List.Pairwise.nil,λzs h=>(by cases h)⟩ (λi σ H' _ hh=>SqL.of (hh.2 _ _ ak (by simpa using nlf))) ?_ ?_⟩
 ·rintro i hi σ H3 ⟨⟨x2,rfl⟩,k3,cB,as,zss,jt,pa,du,bY,c1,c3,c4,c5⟩
  have tk:ws.take (i+1)=ws.take i++[ws[i]]:=Qo hi
  have cp:=Zx pa
  refine⟨_,rfl,fo,rfl,⟨_,SqL.of jt⟩,lc_at (xs:=as.map V.ref) (λ τ=>∃x0,τ=[x0,some (.str ws[i])]) ((zss.map λzs=>decide (ws[i]∈zs)).map V.bl) (by rw[Qa,Qa,Qa,cp]) (SqL.of jt) (by rw[Qa];omega) ⟨none,rfl⟩ ?_ λD hD=>?_⟩
  ·rintro n hn nZ τ ⟨x0,rfl⟩ kc jh
   rw[Qa]at hn
   obtain⟨bd,hp⟩:=zap pa hn
   rw[Zi]
   refine⟨_,rfl,_,rfl,as[n],_,rfl,.inl (SqL.of hp),rfl,zcq _,?_⟩
   have:=jh [some (.ref as[n]),some (.str ws[i])] ⟨_,rfl⟩
   rw[Zi,Zi]at this
   rw[zef]
   exact this
  ·refine ⟨D,zss.map fun zs=>decide (ws[i]∈zs),rfl,SqL.of zac,_,rfl,?_⟩
   have kD:Keep [] H3 (upd H3 D (.lst ((zss.map λzs=>decide (ws[i]∈zs)).map V.bl))):=Keep.new hD
   generalize upd H3 D (.lst ((zss.map λzs=>decide (ws[i]∈zs)).map V.bl))=H4 at kD
   have c7:=cB.trans kD
   have kh:=kD _ _ jt (by simp)
   have kO:=za0 kD pa
   have mo:(zss.map λzs=>decide (ws[i]∈zs)).any id=decide (∃zs∈zss,ws[i]∈zs):=by
    rw[Yr]
    simp
   rw[mo]
   by_cases aA:∃zs∈zss,ws[i]∈zs
   ·rw [decide_eq_true aA]
    refine iteF ⟨⟨_,rfl⟩,k3.trans (kD.sub (by simp)),c7,as,zss,kh,kO,du,by omega,λy hy=>?_,λzs h x hx=>?_,c4,c5⟩
    ·rw [tk] at hy
     rcases Qe.mp hy with z | z
     ·exact c1 y z
     ·rw[Qb.mp z];exact aA
    ·rw[tk];exact Qr _ (c3 zs h x hx)
   ·rw [decide_eq_false aA]
    have c8:=ae.mem_iff.mp (Qn hi)
    refine iteT ⟨_,rfl,.inl ⟨rfl,_,SqL.of kh⟩,_,rfl,_,rfl,d,es,cs,a9,ws[i],rfl,R.keep c7,aF,C,c8,λp zs H5 aT cC iA bG gl k5=>?_⟩
    have o8:=k5 _ _ kh (by simp)
    have dR:=za0 k5 kO
    have npf:p≠fo:=Zo (zab kh gl)
    have dj:ws[i]∈zs:=(bG _).mpr ⟨c8,rfl⟩
    refine⟨fo,_,_,rfl,rfl,o8,by rw[Qa];omega,?_⟩
    have cw:zs.head?=some ws[i]:=by
     cases iz:zs with
     |nil=>rw[iz]at dj;cases dj
     | cons m t =>
      have qr:m∈zs:=by rw[iz];exact Qd
      obtain⟨iZ,fQ⟩:=(bG m).mp qr
      have h1:leS m ws[i]:=by
       rw[iz]at dj iA
       rcases Qh.mp dj with q | q
       ·rw[q];exact λz=>Wn _ z
       ·exact(Uc.mp iA).1 _ q
      have h2:leS ws[i] m:=leS_at aj hi (ae.mem_iff.mpr iZ) λz=>by
       obtain⟨cA,g9,iY⟩:=c1 m z
       obtain⟨_,s,_,hs⟩:=du cA g9
       exact aA ⟨cA,g9,(hs _).mpr ⟨c8,fQ.symm.trans ((hs m).mp iY).2⟩⟩
      rw[zf9 _ _ h1 h2];rfl
    have kw:Keep [fo] H5 (upd H5 fo (.lst (as.map V.ref++[.ref p]))):=Keep.wr (by simp)
    refine⟨⟨_,rfl⟩,((k3.trans (kD.sub (by simp))).trans (k5.sub (by simp))).trans kw,(c7.trans k5).fr cJ,as++[p],zss++[zs],by rw[zac,Qs];rfl,?_,λq hq=>?_,by rw[Ql];show _+1≤_;omega,λy hy=>?_,λq hq x hx=>?_,?_,λq hq=>?_⟩
    ·refine zao (Paired.impL (fun a z ha e=>?_) dR) (.cons ?_ .nil)
     ·have:a≠fo:=za3 e o8 (by
       intro z1
       have z2:z.map V.str=as.map V.ref:=by injection z1
       cases as with
       |nil=>cases ha
       |cons b t=>cases z with
        |nil=>cases z2
        |cons c w=>rw[Qj,Qj]at z2;injection z2 with z3 _;cases z3)
      show upd _ _ _ a=_
      rw[zaf this];exact e
     ·show upd _ _ _ p=_
      rw[zaf npf];exact aT
    ·rcases Qe.mp hq with h | h
     ·exact du q h
     ·rw[Qb.mp h];exact⟨cC,ws[i],c8,bG⟩
    ·rw [tk] at hy
     rcases Qe.mp hy with h | h
     ·obtain ⟨z,hz,fM⟩:=c1 y h
      exact⟨z,Qr _ hz,fM⟩
     ·rw[Qb.mp h];exact⟨zs,Qp _ Qd,dj⟩
    ·rw [tk]
     rcases Qe.mp hq with h | h
     ·exact Qr _ (c3 q h x hx)
     ·rw [Qb.mp h,cw] at hx
      rw[←Qt hx];exact Qp _ Qd
    ·rw [Ya]
     refine⟨c4,Ki _ _,λa ha b hb=>⟨?_,λx hx y hy=>?_⟩⟩
     ·rintro rfl
      rw[Qb.mp hb]at ha
      exact aA ⟨zs,ha,dj⟩
     rw[Qb.mp hb,cw]at hy
     rw[←Qt hy]
     obtain⟨j,hj,ej⟩:=Qx (c3 a ha x hx)
     rw[Zf]at hj
     rw[←ej,Ww]
     exact Wr.mp aj j i (by omega) hi (by omega)
    ·rcases Qe.mp hq with h | h
     ·exact c5 q h
     ·rw[Qb.mp h];exact iA
 ·rintro σ H3 ⟨⟨x2,rfl⟩,k3,cB,as,zss,jt,pa,du,bY,c1,c3,c4,c5⟩
  rw[Qa]at bY
  rw[Qa,Qv (Qf _)]at c1
  exact⟨_,rfl,k fo as zss H3 jt (by omega) pa du ⟨c5,c4,λy hy=>c1 y (ae.mem_iff.mpr hy)⟩ cJ cB⟩
end
end K21
end
section
namespace L2
open PySem
def zhj{X:Cx}{K:Nb}(hK:X.K=K):zce X (.builtin "isinstance") (λxs H Q=>Ex2 λ(a:Nc) (ys:List V)=>Aj3 (xs=[.ref a,.ty "list"]) (SqL K H a ys) (Q (.bl true) H)):=hK▸ze6
end L2
namespace K21
open PySem L2 Wb
abbrev zid:Stmt:=top 6
abbrev zf4:Stmt:=top 7
abbrev zds:Stmt:=top 37
abbrev zc1:Stmt:=top 38
def least_of:∀ {c:No},c≠[]→∃ s∈c,∀ u∈c,leP s u:=by
 intro c
 induction c with
 |nil=>intro h;exact absurd rfl h
 | cons a t ih =>
  intro _
  by_cases ht:t=[]
  ·subst ht
   exact⟨a,Qd,λu hu=>by rw[Qb.mp hu];exact(zew _ _).elim id id⟩
  ·obtain ⟨s,hs,hm⟩:=ih ht
   rcases zew a s with h | h
   ·refine ⟨a,Qd,fun u hu=>?_⟩
    rcases Qh.mp hu with z | z
    ·rw[z];exact(zew _ _).elim id id
    ·exact leP_trans h (hm u z)
   ·refine ⟨s,Qg _ hs,fun u hu=>?_⟩
    rcases Qh.mp hu with z | z
    ·rw[z];exact h
    ·exact hm u z
def faces_of_cyc{r:Np}:∀{cs:List (List (Str×Str))},(∀c∈cs,Cyc (st r) c)→∃Ls,Paired List.Perm Ls cs∧∀L∈Ls,zei r L:=by
 intro cs
 induction cs with
 |nil=>intro _;exact⟨[],.nil,λL h=>by cases h⟩
 | cons c t ih =>
  intro h
  obtain⟨Ls,hp,hf⟩:=ih λc' bE=>h c' (Qg _ bE)
  have hc:=h c Qd
  obtain⟨s,hs,hm⟩:=least_of (c:=c) (by obtain⟨s0,t0,e,_⟩:=hc;rw[e];exact List.cons_ne_nil _ _)
  obtain⟨A,B,e⟩:=Wf hs
  have gp:=zc3 (e▸hc)
  have cK:(s::(B++A)).Perm c:=by
   rw[e]
   refine Uy.mpr λa=>?_
   simp only[Jq,Kb];lia
  refine⟨(s::(B++A))::Ls,.cons cK hp,λL hL=>?_⟩
  rcases Qh.mp hL with z | z
  ·rw[z];exact⟨s,B++A,rfl,gp,λu hu=>hm u (cK.mem_iff.mp hu)⟩
  ·exact hf L z
def flat_perm{Ls cs:List (List (Str×Str))}(h:Paired List.Perm Ls cs):Ls.flatten.Perm cs.flatten:=by
 induction h with
 |nil=>exact .refl _
 |cons h t ih=>rw[Yj,Yj];exact h.append ih
def faces_cyc{ns:Ni}{r:Np}{cs Ls:List (List (Str×Str))}{a9:Nr}(C:Cert ns r cs a9)(IF:zbc r Ls):∃aG,aG.Perm cs∧Paired List.Perm Ls aG:=by
 obtain⟨L0,hp,hf⟩:=faces_of_cyc C.cy
 have gA:=flat_perm hp
 have I0:zbc r L0:=⟨hf,gA.nodup_iff.mpr C.cf,λs=>gA.mem_iff.trans (C.cm s)⟩
 obtain⟨aG,h1,h2⟩:=zcm (IF.one I0) hp
 exact⟨aG,h1,h2⟩
def ne_faces{r:Np}{iso:Ni}{Ls:List (List (Str×Str))}{zss:List (List Str)}(IF:∀L∈Ls,zei r L)(pm:zss.Perm (iso.map sing++Ls.map nmL)):∀zs∈zss,∃h t,zs=h::t:=λzs hz=>by
 rcases Qe.mp (pm.mem_iff.mp hz) with z | z
 ·obtain ⟨y,_,rfl⟩:=Qk.mp z
  exact⟨y,[],rfl⟩
 ·obtain ⟨L',bo,rfl⟩:=Qk.mp z
  obtain⟨s1,t1,e1,_⟩:=(IF L' bo).cy
  exact⟨s1.1,t1.map (·.1),by rw[e1];rfl⟩
def count_of{es:List Ent}{cs Ls:List (List (Str×Str))}{a9:Nr}{zss:List (List Str)}{zs:Ni}(C:Cert (es.map (·.1)) (row (rsOf es)) cs a9)(IF:zbc (row (rsOf es)) Ls)(pm:zss.Perm ((zcp es).map sing++Ls.map nmL))(hz:zcd (es.map (·.1)) a9 zs) :
  2*zs.length+2*((zss.map λz=>z.headD "").filter λh=>decide (h∈zs)).length=(zs.map λx=>(row (rsOf es) x).length).sum+4:=by
 obtain⟨aG,h1,h2⟩:=faces_cyc C IF
 refine zgm (hc:=Ls.map λL=>(nmL L).headD "") C hz ?_ h1 (hd_cyc IF.fa h2)
 have:=pm.map λz:List Str=>z.headD ""
 rw[Qs,Zk,Zk]at this
 refine this.trans (.of_eq ?_)
 congr 1
 exact List.map_id' _
inductive IspFacesW(C:Nc)(vs:List V)(H:Hp)(Q:VK):Prop
 |mk (x dx d:Nc) (es:List Ent) (cs:List (List (Str×Str))) (a9:Nr) (h0:vs=[.ref x]) (h1:WAt H C x dx d es) (h2:es.length≤40) (h4:Cert (es.map (·.1)) (row (rsOf es)) cs a9) (h5:∀(l:Nc) (as:Nk) (zss:List (List Str)) (Ls:List (List (Str×Str))) (H':Hp),H' l=some (.lst (as.map V.ref))→as.length≤20000→Paired (za5 H') as zss→zss.Perm ((zcp es).map sing++Ls.map nmL)→zss.Pairwise leL→zbc (row (rsOf es)) Ls→H l=none→(∀a∈as,H a=none)→Keep [] H H'→Q (.ref l) H'):IspFacesW C vs H Q
def spFacesW(C:Nc):Sp:=λvs H Q _=>IspFacesW C vs H Q
inductive zhy(C:Nc)(vs:List V)(H:Hp)(Q:VK):Prop
 |mk (x dx d:Nc) (es:List Ent) (cs:List (List (Str×Str))) (a9:Nr) (h0:vs=[.ref x]) (h1:WAt H C x dx d es) (h2:es.length≤40) (h4:Cert (es.map (·.1)) (row (rsOf es)) cs a9) (h5:∀(l:Nc) (as:Nk) (zss:List (List Str)) (H':Hp),H' l=some (.lst (as.map V.ref))→Paired (za5 H') as zss→(∀zs∈zss,zcd (es.map (·.1)) a9 zs)→InRow (es.map (·.1)) zss→H l=none→(∀a∈as,H a=none)→Keep [] H H'→Q (.ref l) H'):zhy C vs H Q
def spPiecesW(C:Nc):Sp:=λvs H Q _=>zhy C vs H Q
inductive IspIsList(vs:List V)(H:Hp)(Q:VK):Prop
 |mk (l m:Nc) (as bs:Nk) (zss:List (List Str)) (h0:vs=[.ref l,.ref m]) (h1:H l=some (.lst (as.map V.ref))) (h2:H m=some (.lst (bs.map V.ref))) (h3:Paired (za5 H) as zss) (h4:Paired (za5 H) bs zss) (h5:∀a∈as,a∉bs) (h6:as.length≤20000) (h7:∀H',Keep [] H H'→Q (.bl true) H'):IspIsList vs H Q
def spIsList:Sp:=λvs H Q _=>IspIsList vs H Q
def same_strs{as:Nk}{zss:List (List Str)}(p:Paired (za5 H) as zss):∀ {bs:Nk},Paired (za5 H) bs zss→(∀ a∈as,a∉bs)→Paired (SameN H 3) (as.map V.ref) (bs.map V.ref):=by
 induction p with
 |nil=>intro bs q _;cases q;exact .nil
 | cons h t ih =>
  intro bs q n
  cases q with
  | cons h' t' =>
   refine .cons (.inr ⟨_,_,_,_,rfl,rfl,λz=>n _ Qd (z▸Qd),.inl ⟨h,h'⟩,?_⟩) (ih t' λa ha z=>n a (Qg _ ha) (Qg _ z))
   generalize zs0:(_:Ni).map V.str=ws
   have:∀ws:List V,(∀v∈ws,zdp v=true)→Paired (SameN H 2) ws ws:=λws=>by
    induction ws with
    |nil=>intro _;exact .nil
    |cons v u ih=>intro hv;exact .cons (.inl ⟨hv v Qd,rfl⟩) (ih λx hx=>hv x (Qg _ hx))
   refine this ws λv hv=>?_
   rw[←zs0]at hv
   obtain⟨x,_,rfl⟩:=Qk.mp hv
   rfl
abbrev csIL:Scope:=scOf (aOf 0 (eOf (sAt zds 1)))
def csIL_k:csIL.kind=.function:=by rfl
def csIL_c:∀y∈csIL.names,y.2≠.cell:=by decide +kernel
def csIL_n:∀y∈csIL.names,y.2=.local→csIL.names.lookup y.1=some .local:=by decide +kernel
def csIL_f:∀y∈csIL.names,y.2=.free→(zag zds).names.lookup y.1=some .cell∨(zag zds).names.lookup y.1=some .free:=by decide +kernel
def ndIL:(["_law_one"]:List Str).Nodup:=by decide +kernel
def lhs:Expr→Expr
 |.BinOp a _ _ _=>a
 |e=>e
abbrev csCA:Scope:=scOf (aOf 0 (lhs (eOf (sAt zc1 0))))
def csCA_k:csCA.kind=.function:=by rfl
def csCA_c:∀y∈csCA.names,y.2≠.cell:=by decide +kernel
def csCA_n:∀y∈csCA.names,y.2=.local→csCA.names.lookup y.1=some .local:=by decide +kernel
def csCA_f:∀y∈csCA.names,y.2=.free→(zag zc1).names.lookup y.1=some .cell∨(zag zc1).names.lookup y.1=some .free:=by decide +kernel
def csCA_l:csCA.names.lookup (qR:Str)=some NameKind.free:=by decide +kernel
def ndCA:(["_law_place",qR]:List Str).Nodup:=by decide +kernel
abbrev csCB:Scope:=scOf (aOf 0 (eOf (sAt zc1 1)))
def csCB_k:csCB.kind=.function:=by rfl
def csCB_c:∀y∈csCB.names,y.2≠.cell:=by decide +kernel
def csCB_n:∀y∈csCB.names,y.2=.local→csCB.names.lookup y.1=some .local:=by decide +kernel
def csCB_f:∀y∈csCB.names,y.2=.free→(zag zc1).names.lookup y.1=some .cell∨(zag zc1).names.lookup y.1=some .free:=by decide +kernel
def csCB_l:csCB.names.lookup ("_law_piece_here" : Str)=some NameKind.free:=by decide +kernel
def ndCB:(["_law_face", "_law_piece_here"]:List Str).Nodup:=by decide +kernel
inductive IspCount0(vs:List V)(H:Hp)(Q:VK):Prop
 |mk (d l p:Nc) (es:List Ent) (cs Ls:List (List (Str×Str))) (a9:Nr) (as:Nk) (zss:List (List Str)) (zs:Ni) (h0:vs=[.ref d,.ref l,.ref p]) (h1:RF H d es) (h2:es.length≤40) (h3:Cert (es.map (·.1)) (row (rsOf es)) cs a9) (h4:H l=some (.lst (as.map V.ref))) (h5:Paired (za5 H) as zss) (h6:zss.Perm ((zcp es).map sing++Ls.map nmL)) (h7:zbc (row (rsOf es)) Ls) (h8:as.length≤20000) (h9:H p=some (.lst (zs.map V.str))) (i8:zcd (es.map (·.1)) a9 zs)
  (on:∀H',Keep [] H H'→Q (.bl true) H'):IspCount0 vs H Q
def spCount0:Sp:=λvs H Q _=>IspCount0 vs H Q
section
variable{P:Nj}{w:Nl}{K:Nb}{mg:Nf}{base:Nn}{C:Nc}
def scFacesW:zas ["web"] ["web"] (zag zid):=fsk
def ok_facesW(F:Fun K "faces" "faces" zid f fd)(cW:Cls K C)(nW:ze7 K C "rounds")(FF:Fun K "faces_of" "faces_of" zeo ff fdf)(bF:Binds K fdf ["rounds"] [])(mF:mg "faces_of" = some (.ref ff))(GF:FnOk P w K mg base CX0 2 ff fdf ["rounds"] zh6):FnOk P w K mg base CX0 3 f fd ["web"] (spFacesW C):=by
 refine F.okL scFacesW (λcdv A outer s H vs Q E hr h=>?_)
 obtain⟨x,dx,d,es,cs,a9,rfl,wt,aF,Ct,k⟩:=h
 refine⟨_,zah (zbh (zam GF hr rfl mF FF.kp bF .nil za2 (zaa (pe_fld (pv 0) rfl) zad))),?_⟩
 refine⟨_,rfl,x,C,dx,_,_,rfl,wt.ob,cW,nW,rfl,d,es,cs,a9,rfl,wt.ta,by omega,λe he=>?_,Ct,λl as zss Ls aG H' h1 h2 h3 h4 h5 h6 _ _ h7 h8 h9=>k l as zss Ls H' h1 h2 h3 h4 h5 h6 h7 h8 h9⟩
 have h1:=Ct.rn e.1
 rw[zb6 Ct.nd he]at h1
 have:∀y∈e.2.1,y∈es.map (·.1):=λy hy=>Ct.inn' (x:=e.1) (by rw[zb6 Ct.nd he];exact hy)
 have:=zcf h1 this
 rw[Qa]at this
 omega
def scPiecesW:zas ["web"] ["web"] (zag zf4):=fsk
def ok_piecesW(F:Fun K "pieces" "pieces" zf4 f fd)(cW:Cls K C)(nW:ze7 K C "rounds")(FF:Fun K "pieces_of" "pieces_of" zgj ff fdf)(bF:Binds K fdf ["rounds"] [])(mF:mg "pieces_of" = some (.ref ff))(GF:FnOk P w K mg base CX0 2 ff fdf ["rounds"] zh5):FnOk P w K mg base CX0 3 f fd ["web"] (spPiecesW C):=by
 refine F.okL scPiecesW (λcdv A outer s H vs Q E hr h=>?_)
 obtain⟨x,dx,d,es,cs,a9,rfl,wt,aF,Ct,k⟩:=h
 refine⟨_,zah (zbh (zam GF hr rfl mF FF.kp bF .nil za2 (zaa (pe_fld (pv 0) rfl) zad))),?_⟩
 exact⟨_,rfl,x,C,dx,_,_,rfl,wt.ob,cW,nW,rfl,d,es,cs,a9,rfl,wt.ta,by omega,Ct,k⟩
def scIsList:zas ["_law_found", "_law_due"] ["_law_found", "_law_due"] (zag zds):=fsk
def ok_islist(F:Fun K "_law_is_list" "_law_is_list" zds f fd)(gv:mg "isinstance" = none)(bQ:mg "list" = none)(be:mg "all" = none):FnOk P w K mg base CX0 1 f fd ["_law_found", "_law_due"] spIsList:=by
 refine F.okL scIsList (λcdv A outer s H vs Q E hr h=>?_)
 obtain⟨l,m,as,bs,zss,rfl,hl,hm,pa,pb,hn,bY,k⟩:=h
 have aP:=sizeLine_eq
 have hu4:(A.deeper (PyProof.Rows.envOfC "_law_is_list" (zag zds) s.heap.objs.size f cdv)).units+4<cLine:=We (Xa (by decide:4≤64) _) hr.units
 refine⟨_,zae (zc2 (PW.pt (pw_or (zfu (zgl (zaj ze6 (by rfl) gv Ky (zaa (pv 0) (zaa (pe_tyN (T := "list") rfl bQ Kj) zad))))) (pw_or1 (za4 (op_ne_deep hu4) (pv 0) (pv 1) (zb8 _))))) (zah ps_no) zbk)
  (zah (zbh (zaj (zi4 rfl) (by rfl) be Bc (zaa (zfx (M:=["_law_one"]) (ix:=[none]) ⟨csIL_k,csIL_c,csIL_n,csIL_f,rfl,ndIL,fun j i x h1 h2=>by
       match j,h1,h2 with
       |0,_,h2=>cases h2
       |n+1,h1,_=>cases h1⟩ rfl (zax (pv 0)) (λC a6 ex s H=>za8 0 ndIL) (λC a6 ex s H=>zca) (λC a6 ex s H=>zaj (zhj (K:=K) rfl) (by rfl) (by exact gv) Ky (zaa (pv 0) (zaa (pe_tyN (T := "list") rfl (by exact bQ) Kj) zad)))) zad)))),?_⟩
 refine⟨_,rfl,l,_,rfl,SqL.of hl,true,rfl,zbs rfl ⟨_,rfl,_,rfl,l,m,_,_,rfl,rfl,hl,hm,same_strs pa pb hn,_,rfl,iteF ?_⟩⟩
 refine⟨_,rfl,l,rfl,⟨_,SqL.of hl⟩,lc_at (xs:=as.map V.ref) (λ τ=>∃x0,τ=[x0]) ((List.replicate as.length true).map V.bl) (by rw[Qa,Qa,Jo]) (SqL.of hl) (by rw[Qa];omega) ⟨none,rfl⟩ ?_ λD hD=>?_⟩
 ·rintro n hn nZ τ ⟨x0,rfl⟩ kc jh
  rw[Qa]at hn
  obtain⟨bd,hp⟩:=zap pa hn
  rw[Zi]
  have:=jh [some (.ref as[n])] ⟨_,rfl⟩
  rw[Zi,List.getElem_replicate]at this
  exact⟨_,rfl,as[n],_,rfl,SqL.of hp,this⟩
 ·refine ⟨D,List.replicate as.length true,rfl,SqL.of zac,?_⟩
  have:(List.replicate as.length true).all id=true:=by simp
  rw[this]
  exact k _ (Keep.new hD)
def zh9:zas [qR, "_law_faces_due", "_law_piece_here", "_law_ties", "_law_own"] [qR, "_law_faces_due", "_law_piece_here"] (zag zc1):=fsk
def ok_count0(F:Fun K "_law_count" "_law_count" zc1 f fd)(aa:mg "len" = none)(iL:mg "sum" = none):FnOk P w K mg base CX0 1 f fd [qR, "_law_faces_due", "_law_piece_here"] spCount0:=by
 refine F.okL zh9 (λcdv A outer s H vs Q E hr h=>?_)
 obtain⟨d,fo,p,es,cs,Ls,a9,fas,zss,zs,rfl,R,aF,Ct,cJ,pf,pm,IF,gA,hp,gT,k⟩:=h
 have hu:=zct hr
 have aP:=sizeLine_eq
 refine⟨_,zae (zaw 3 zh9.nd (zat zfi (zaj (call_sum rfl) (by rfl) iL PyProof.Rows.boot_sum (zaa (zfx (M:=["_law_place",qR]) (ix:=[none,some 0]) ⟨csCA_k,csCA_c,csCA_n,csCA_f,rfl,ndCA,λj i x h1 h2=>by
      match j,h1,h2 with
      |0,_,h2=>cases h2
      |1,h1,h2=>cases h1;cases h2;exact⟨rfl,csCA_l⟩
      |n+2,h1,_=>cases h1⟩ rfl (zax (pv 2)) (λC a6 ex s H=>za8 0 ndCA) (λC a6 ex s H=>zca)
      (λC a6 ex s H=>zaj (ze5 (K:=K) rfl) (by rfl) (by exact aa) Zu (zaa (zgn (by exact hu) (pv 1) (pv 0)) zad))) zad)) zai))
   (zae (zaw 4 zh9.nd (zaj zan (by rfl) aa Zu (zaa (zfx (M:=["_law_face", "_law_piece_here"]) (ix:=[none,some 2]) ⟨csCB_k,csCB_c,csCB_n,csCB_f,rfl,ndCB,λj i x h1 h2=>by
      match j,h1,h2 with
      |0,_,h2=>cases h2
      |1,h1,h2=>cases h1;cases h2;exact⟨rfl,csCB_l⟩
      |n+2,h1,_=>cases h1⟩ rfl (zax (pv 1)) (λC a6 ex s H=>za8 0 ndCB)
      (λC a6 ex s H=>zig (za4 (zfh (K:=K) rfl) (za7 (zis (K:=K) rfl) (pv 0) zai (λ_ _=>rfl)) (pv 1) rfl)) (λC a6 ex s H=>pv 0)) zad)))
   (zah (zbh (pe_cmpR op_eq (zat zbo (zaj zan (by rfl) aa Zu (zaa (pv 2) zad)) (pv 4)) (zat zbo (pv 3) zai) (zb8 _))))),?_⟩
 have cU:=count_of Ct IF pm gT
 have o6:Paired (zd6 H) fas (zss.map λz=>z.headD ""):=hd_pair (ne_faces IF.fa pm) pf
 generalize(zss.map λz=>z.headD "")=hd at cU o6
 have dh:∀z∈zs,z∈es.map (·.1):=λz hz=>by
  obtain⟨_,s,_,hm⟩:=gT
  exact((hm z).mp hz).1
 have dS:zs.length≤100:=by
  have:=zcf gT.1 dh
  rw[Qa]at this
  omega
 have bi:∀x,(row (rsOf es) x).length≤100:=λx=>by
  have:=zcf (Ct.rn x) λy hy=>Ct.inn' hy
  rw[Qa]at this
  omega
 refine⟨_,rfl,p,rfl,⟨_,SqL.of hp⟩,lc_at (xs:=zs.map V.str) (λ τ=>∃x0,τ=[x0,some (.ref d)]) ((zs.map λx=>((row (rsOf es) x).length:Int)).map V.int) (by rw[Qa,Qa,Qa]) (SqL.of hp) (by rw[Qa];omega) ⟨none,rfl⟩ ?_ (λD hD=>?_)⟩
 ·rintro j hj jl τ ⟨x0,rfl⟩ kk hk
  rw[Qa]at hj
  rw[Zi]
  obtain⟨en,bz,bK,dg⟩:=R.inn (dh _ (Qn hj))
  refine⟨_,rfl,_,rfl,d,_,rfl,dg,en.2.2,_,rfl,.inl (SqL.of (R.ro en bz)),?_⟩
  have e:((zs.map λx=>((row (rsOf es) x).length:Int)).map V.int)[j]=V.int ((en.2.1.map V.str).length:Int):=by
   rw[Zi,Zi,←bK,zb6 R.nd bz,Qa]
  rw[e]at hk
  exact hk _ ⟨_,rfl⟩
 ·have k4:Keep [] H (upd H D (.lst ((zs.map fun x=>((row (rsOf es) x).length:Int)).map V.int))):=Keep.new hD
  have mE:(upd H D (.lst ((zs.map λx=>((row (rsOf es) x).length:Int)).map V.int))) D=some (.lst ((zs.map λx=>((row (rsOf es) x).length:Int)).map V.int)):=zac
  generalize upd H D (.lst ((zs.map λx=>((row (rsOf es) x).length:Int)).map V.int))=H4 at k4 mE
  refine⟨D,_,rfl,SqL.of mE,by rw[Qa];omega,λn hn=>?_,?_⟩
  ·obtain ⟨z,hz,rfl⟩:=Qk.mp hn
   have:=bi z
   omega
  ·have dX:(zs.map fun x=>((row (rsOf es) x).length:Int)).sum=(((zs.map fun x=>(row (rsOf es) x).length).sum:Nat):Int):=by
    rw[←sum_cast,Zk];rfl
   rw[dX]
   refine⟨_,_,rfl,rfl,⟨by decide,by decide⟩,?_⟩
   have cx:=k4 _ _ cJ (by simp)
   have cb:=k4 _ _ hp (by simp)
   have eZ:Paired (zd6 H4) fas hd:=zfl (D:=d) (g:=d) k4 o6 (λ_ _ _ _=>by simp)
   refine⟨_,rfl,fo,rfl,⟨_,SqL.of cx⟩,lc_filt (xs:=fas.map V.ref) (λ τ=>∃x0,τ=[x0,some (.ref p)]) (inPc H4 zs) (SqL.of cx) (by rw[Qa];omega) ⟨none,rfl⟩ ?_ (λD2 mG=>?_)⟩
   ·rintro x hx τ ⟨x0,rfl⟩ kk1 kk0 lN lO
    obtain⟨a,ha,rfl⟩:=Qk.mp hx
    obtain⟨j,hj,rfl⟩:=Qx ha
    obtain⟨cc,da⟩:=zap eZ hj
    have aA:=zit (zs:=zs) da
    obtain⟨t,et⟩:=da
    refine⟨_,rfl,fas[j],_,_,_,rfl,rfl,SqL.of et,zav (j:=0) rfl,_,rfl,p,_,rfl,.inl (SqL.of cb),rfl,zcq zs,_,rfl,?_⟩
    cases hb:decide (hd[j]∈zs) with
    |true=>exact zb2 (show inV _ _=true by rw[zef];exact hb) ⟨_,rfl,lN (aA.trans hb) _ ⟨_,rfl⟩⟩
    |false=>exact zbs (show inV _ _=false by rw[zef];exact hb) (lO (aA.trans hb) _ ⟨_,rfl⟩)
   ·have k5:Keep [] H4 (upd H4 D2 (.lst ((fas.map V.ref).filter (inPc H4 zs)))):=Keep.new mG
    have aT:=k5 _ _ cb (by simp)
    refine⟨D2,_,rfl,.inl (SqL.of zac),?_⟩
    rw[filt_len eZ]
    have:=k _ (k4.trans k5)
    refine⟨_,rfl,p,_,rfl,.inl (SqL.of aT),_,rfl,_,_,rfl,rfl,_,rfl,_,_,rfl,rfl,rfl,?_⟩
    rw[decide_eq_true (congrArg V.int (by rw[Qa];omega))]
    exact this
end
end K21
end
section
namespace K21
open PySem L2 Wb
abbrev zgi:Stmt:=top 39
structure Turn2(es ts:List Ent):Prop where
 mm:∀a b,b∈row (rsOf es) a↔b∈row (rsOf ts) a
 nn:∀y,y∈es.map (·.1)↔y∈ts.map (·.1)
 ss:∀s:Str×Str,s.1∈row (rsOf es) s.2→st (row (rsOf ts)) s=st (row (rsOf es)) s
def iso_perm{es ts:List Ent}(T:Turn2 es ts)(nd:(es.map (·.1)).Nodup)(gL:(ts.map (·.1)).Nodup):(zcp es).Perm (zcp ts):=by
 rw[iso_eq nd,iso_eq gL]
 refine(Wv (nd.sublist Uh) (gL.sublist Uh)).mpr λy=>?_
 rw[Uf,Uf,T.nn]
 have:(row (rsOf es) y).isEmpty=(row (rsOf ts) y).isEmpty:=by
  rw[Yr,List.isEmpty_iff,List.isEmpty_iff,List.eq_nil_iff_forall_not_mem,List.eq_nil_iff_forall_not_mem]
  exact⟨λh b hb=>h b ((T.mm y b).mpr hb),λh b hb=>h b ((T.mm y b).mp hb)⟩
 rw[this]
def faces_same{es ts:List Ent}{zss aR:List (List Str)}{Ls cZ:List (List (Str×Str))}(T:Turn2 es ts)(nd:(es.map (·.1)).Nodup)(gL:(ts.map (·.1)).Nodup)(pm:zss.Perm ((zcp es).map sing++Ls.map nmL))(pm':aR.Perm ((zcp ts).map sing++cZ.map nmL))(so:zss.Pairwise leL)(so':aR.Pairwise leL)(I:zbc (row (rsOf es)) Ls)(I':zbc (row (rsOf ts)) cZ):zss=aR:=by
 have I2:=I.turn (r':=row (rsOf ts)) (λs=>T.mm s.2 s.1) T.ss
 have hp:=I2.one I'
 exact rows_one (pm.trans ((((iso_perm T nd gL).map _).append (hp.map _)).trans pm'.symm)) so so'
inductive IspRight(C:Nc)(vs:List V)(H:Hp)(Q:VK):Prop
 |mk (x dx dd d:Nc) (ts es:List Ent) (cs:List (List (Str×Str))) (a9:Nr) (h0:vs=[.ref x,.ref d]) (h1:WAt H C x dx dd ts) (h2:RF H d es) (h3:Cert (es.map (·.1)) (row (rsOf es)) cs a9) (h4:Cert (ts.map (·.1)) (row (rsOf ts)) cs a9) (h5:Turn2 es ts) (h6:es.length≤40) (h7:ts.length≤40)
  (h8:∀H',Keep [] H H'→Q (.bl true) H'):IspRight C vs H Q
def spRight(C:Nc):Sp:=λvs H Q _=>IspRight C vs H Q
abbrev csRi:Scope:=scOf (aOf 0 (eOf (sAt zgi 3)))
def csRi_k:csRi.kind=.function:=by rfl
def csRi_c:∀y∈csRi.names,y.2≠.cell:=by decide +kernel
def csRi_n:∀y∈csRi.names,y.2=.local→csRi.names.lookup y.1=some .local:=by decide +kernel
def csRi_f:∀y∈csRi.names,y.2=.free→(zag zgi).names.lookup y.1=some .cell∨(zag zgi).names.lookup y.1=some .free:=by decide +kernel
def csRi_l:csRi.names.lookup (qR:Str)=some NameKind.free:=by decide +kernel
def csRi_m:csRi.names.lookup ("_law_faces_due" : Str)=some NameKind.free:=by decide +kernel
def ndRi:(["_law_piece_here",qR, "_law_faces_due"]:List Str).Nodup:=by decide +kernel
section
variable{P:Nj}{w:Nl}{K:Nb}{mg:Nf}{base:Nn}{C:Nc}
def zea:zas ["_law_web",qR, "_law_faces_due", "_law_pieces_due", "_law_k", "_law_found", "_law_parts", "_law_one"] ["_law_web",qR] (zag zgi):=fsk
def ok_right(F:Fun K "_law_right" "_law_right" zgi f fd)(FF:Fun K "_law_faces" "_law_faces" zcl ff fdf)(bF:Binds K fdf [qR] [])(mF:mg "_law_faces" = some (.ref ff))(GF:FnOk P w K mg base CX0 3 ff fdf [qR] spLFaces)(FP:Fun K "_law_pieces" "_law_pieces" zcv fp fdp)(bP:Binds K fdp [qR] [])(mP:mg "_law_pieces" = some (.ref fp))(GP:FnOk P w K mg base CX0 2 fp fdp [qR] spLPieces)(FA:Fun K "faces" "faces" zid fa fda)(bA:Binds K fda ["web"] [])(mA:mg "faces" = some (.ref fa))(GA:FnOk P w K mg base CX0 3 fa fda ["web"] (spFacesW C))(FB:Fun K "pieces" "pieces" zf4 fb fdb)(bB:Binds K fdb ["web"] [])(mB:mg "pieces" = some (.ref fb))(GB:FnOk P w K mg base CX0 3 fb fdb ["web"] (spPiecesW C))(FI:Fun K "_law_is_list" "_law_is_list" zds fi fdi)(bI:Binds K fdi ["_law_found", "_law_due"] [])(mI:mg "_law_is_list" = some (.ref fi))(GI:FnOk P w K mg base CX0 1 fi fdi ["_law_found", "_law_due"] spIsList)(FC:Fun K "_law_count" "_law_count" zc1 fc fdc)(bC:Binds K fdc [qR, "_law_faces_due", "_law_piece_here"] [])(mC:mg "_law_count" = some (.ref fc))(GC:FnOk P w K mg base CX0 1 fc fdc [qR, "_law_faces_due", "_law_piece_here"] spCount0)(bu:mg "range" = none)(be:mg "all" = none):FnOk P w K mg base CX0 4 f fd ["_law_web",qR] (spRight C):=by
 refine F.okL zea (λcdv A outer s H vs Q E hr h=>?_)
 obtain⟨x,dx,dd,d,ts,es,cs,a9,rfl,wt,R,Ce,Ct,T,aF,bq,k⟩:=h
 have aW:Room 1 _:=hr.mono (by decide)
 have dM:Room 2 _:=hr.mono (by decide)
 have aP:=sizeLine_eq
 refine⟨_,zae (ps_set (i:=2) zea.nd rfl (Or.inr rfl) (zam GF hr rfl mF FF.kp bF .nil za2 (zaa (pv 1) zad)))
  (zae (zaw 3 zea.nd (zam GP dM rfl mP FP.kp bP .nil za2 (zaa (pv 1) zad)))
  (zae (zbm Zm rfl (zc5 rfl bu (zaa zai zad)) (za8 4 zea.nd)
   (zae (zaw 5 zea.nd (zam GA hr rfl mA FA.kp bA .nil za2 (zaa (pv 0) zad)))
   (zae (zaw 6 zea.nd (zam GB hr rfl mB FB.kp bB .nil za2 (zaa (pv 0) zad)))
   (zae (zc2 (PW.pt (pw_or (zfu (zgl (zam GI aW rfl mI FI.kp bI .nil za2 (zaa (pv 5) (zaa (pv 2) zad))))) (pw_or1 (zfu (zgl (zam GI aW rfl mI FI.kp bI .nil za2 (zaa (pv 6) (zaa (pv 3) zad)))))))) (zah ps_no) zbk)
   (zae (zbm Zm rfl (zax (zat zd4 (pv 5) (pv 6))) (za8 7 zea.nd)
    (zah (zay (zb7 Qy Zq Zp za1 (pv 7) (zaa zd3 zad)))))
   (zae (zay (pe_bm0 Qy PySem.F.slot_list_clear PySem.F.type_list_clear mt_clear (pv 5)))
   (zah (zay (pe_bm0 Qy PySem.F.slot_list_clear PySem.F.type_list_clear mt_clear (pv 6))))))))))
  (zah (zbh (zaj (zi4 rfl) (by rfl) be Bc (zaa (zfx (M:=["_law_piece_here",qR, "_law_faces_due"]) (ix:=[none,some 1,some 2]) ⟨csRi_k,csRi_c,csRi_n,csRi_f,rfl,ndRi,λj i x h1 h2=>by
     match j,h1,h2 with
     |0,_,h2=>cases h2
     |1,h1,h2=>cases h1;cases h2;exact⟨rfl,csRi_l⟩
     |2,h1,h2=>cases h1;cases h2;exact⟨rfl,csRi_m⟩
     |n+3,h1,_=>cases h1⟩ rfl (zax (pv 3)) (λC a6 ex s H=>za8 0 ndRi) (λC a6 ex s H=>zca) (λC a6 ex s H=>zam GC (by exact aW) rfl (by exact mC) FC.kp bC .nil za2 (zaa (pv 1) (zaa (pv 2) (zaa (pv 0) zad))))) zad)))))),?_⟩
 refine⟨_,rfl,d,es,cs,a9,rfl,R,aF,Ce,λl1 sJ fX Ls H1 bx rY pa1 oM so1 oB fl1 k1=>?_⟩
 refine⟨_,rfl,d,es,cs,a9,rfl,R.keep k1,aF,Ce,λl2 aK fW H2 ak jC nh oN ir2 fl2 k2=>?_⟩
 have iw:=k1.trans k2
 have lL:=k2 _ _ bx (by simp)
 have ik:=za0 k2 pa1
 refine⟨(2:Int),rfl,by decide,by omega,?_⟩
 refine zc9 (lo:=0) (λi σ H'=>Aj2 (Ex4 λx4 x5 x6 x7=>σ=[some (.ref x),some (.ref d),some (.ref l1),some (.ref l2),x4,x5,x6,x7]) (Keep [] H2 H')) ⟨⟨_,_,_,_,rfl⟩,Keep.refl⟩ ?_ ?_
 ·rintro i σ H3 hi ⟨⟨x4,x5,x6,x7,rfl⟩,k3⟩
  have cB:=iw.trans k3
  have wt3:WAt H3 C x dx dd ts:=wt.keep cB (by simp) (by simp) λ_ _=>by simp
  refine⟨_,rfl,x,dx,dd,ts,cs,a9,rfl,wt3,bq,Ct,λl4 ci zss4 Ls4 H4 gr rX kO pm4 so4 IF4 fl4 ff4 k4=>?_⟩
  have wt4:WAt H4 C x dx dd ts:=wt3.keep k4 (by simp) (by simp) λ_ _=>by simp
  refine⟨_,rfl,x,dx,dd,ts,cs,a9,rfl,wt4,bq,Ct,λl5 ce zss5 H5 cH dR pc5 ir5 oo sv k5=>?_⟩
  have e4:=faces_same T Ce.nd Ct.nd oM pm4 so1 so4 oB IF4
  have e5:=pieces_one T.nn oN pc5 ir2 ir5
  subst e4 e5
  have cj:=k4.trans k5
  have gq:=k5 _ _ gr (by simp)
  have kN:=za0 k5 kO
  have sr:=cj _ _ (k3 _ _ lL (by simp)) (by simp)
  have h25:=cj _ _ (k3 _ _ ak (by simp)) (by simp)
  have p15:=za0 cj (za0 k3 ik)
  have p25:=za0 cj (za0 k3 nh)
  have n4:∀a∈ci,a∉sJ:=λa ha z=>by
   obtain⟨j,hj,e⟩:=Qx z
   obtain⟨_,hp⟩:=zap (za0 k3 ik) hj
   rw[e]at hp
   have:=ff4 a ha
   rw[show H3 a=_ from hp]at this;cases this
  have n5:∀a∈ce,a∉aK:=λa ha z=>by
   obtain⟨j,hj,e⟩:=Qx z
   obtain⟨_,hp⟩:=zap (za0 k4 (za0 k3 nh)) hj
   rw[e]at hp
   have:=sv a ha
   rw[show H4 a=_ from hp]at this;cases this
  have hal5:ce.length≤40:=by rw[Zx dR,←Zx nh];exact jC
  refine⟨_,rfl,_,rfl,l4,l1,ci,sJ,fX,rfl,gq,sr,kN,p15,n4,rX,λH6 k6=>⟨true,rfl,zbs rfl ?_⟩⟩
  refine⟨_,rfl,_,rfl,l5,l2,ce,aK,fW,rfl,k6 _ _ cH (by simp),k6 _ _ h25 (by simp),za0 k6 dR,za0 k6 p25,n5,by omega,λH7 k7=>⟨true,rfl,iteF ?_⟩⟩
  have nF:=k6.trans k7
  have qB:=nF _ _ gq (by simp)
  have qA:=nF _ _ cH (by simp)
  refine⟨_,rfl,_,rfl,l4,l5,_,_,rfl,rfl,qB,qA,by rw[Qa,Qa];omega,λq hq=>?_⟩
  rw[←Qs]
  have k8:Keep [] H5 (upd H7 q (.lst ((ci++ce).map V.ref))):=nF.trans (Keep.new hq)
  have lC:(upd H7 q (.lst ((ci++ce).map V.ref))) q=some (.lst ((ci++ce).map V.ref)):=zac
  have fq5:H5 q=none:=zaq nF hq (by simp)
  generalize upd H7 q (.lst ((ci++ce).map V.ref))=H8 at k8 lC
  have b1:∀zs∈fX,zs.length≤1600:=λzs hz=>by
   rcases Qe.mp (oM.mem_iff.mp hz) with z | z
   ·obtain ⟨y,_,rfl⟩:=Qk.mp z
    show 1≤1600;decide
   ·obtain ⟨L,hL,rfl⟩:=Qk.mp z
    rw[Qa]
    exact zgd Ce aF (oB.row.2 L hL) λu hu=>(oB.al u).mp (Yf.mpr ⟨L,hL,hu⟩)
  have b2:∀zs∈fW,zs.length≤1600:=λzs hz=>by
   obtain⟨nd,s,_,hm⟩:=oN zs hz
   have:=zcf nd λy hy=>((hm y).mp hy).1
   rw[Qa]at this
   omega
  have at4:∀a∈ci,∃zs∈fX,H5 a=some (.lst (zs.map V.str)):=λa ha=>by
   obtain⟨j,hj,e⟩:=Qx ha
   obtain⟨h2,hp⟩:=zap kN hj
   rw[e]at hp
   exact⟨_,Qn h2,hp⟩
  have at5:∀a∈ce,∃zs∈fW,H5 a=some (.lst (zs.map V.str)):=λa ha=>by
   obtain⟨j,hj,e⟩:=Qx ha
   obtain⟨h2,hp⟩:=zap dR hj
   rw[e]at hp
   exact⟨_,Qn h2,hp⟩
  have ats:∀a∈ci++ce,∃zs:List Str,zs.length≤1600∧H5 a=some (.lst (zs.map V.str)):=λa ha=>by
   rcases Qe.mp ha with z | z
   ·obtain ⟨zs,hz,e⟩:=at4 a z
    exact⟨zs,b1 zs hz,e⟩
   ·obtain ⟨zs,hz,e⟩:=at5 a z
    exact⟨zs,b2 zs hz,e⟩
  have fAS:∀a∈ci++ce,H3 a=none:=λa ha=>by
   rcases Qe.mp ha with z | z
   ·exact ff4 a z
   ·exact zaq k4 (sv a z) (by simp)
  have nq:q∉ci++ce:=λz=>by
   obtain⟨zs,_,e⟩:=ats q z
   rw[fq5]at e;cases e
  have noref:∀(b:Nc) (bs:Nk),H5 b=some (.lst (bs.map V.ref))→b∈ci++ce→bs=[]:=λb bs hb z=>by
   obtain⟨zs,_,e⟩:=ats b z
   rw[hb]at e
   injection e with e;injection e with e
   cases bs with
   |nil=>rfl
   |cons c t=>cases zs with
    |nil=>cases e
    |cons y u=>rw[Qj,Qj]at e;injection e with e1 _;cases e1
  have m4:l4∉ci++ce:=λz=>by
   have e:=noref l4 ci gq z
   rcases Qe.mp z with y | y
   ·rw[e]at y;cases y
   ·have:=sv _ y;rw[gr]at this;cases this
  have m5:l5∉ci++ce:=λz=>by
   have e:=noref l5 ce cH z
   rcases Qe.mp z with y | y
   ·obtain ⟨j,hj,e2⟩:=Qx y
    obtain⟨_,hp⟩:=zap kO hj
    rw[e2]at hp
    rw[show H4 l5=_ from hp]at oo;cases oo
   ·rw[e]at y;cases y
  refine⟨q,rfl,⟨_,SqL.of lC⟩,zbq (xs:=(ci++ce).map V.ref) (λj σ H'=>Aj3 (Ex1 λy7=>σ=[some (.ref x),some (.ref d),some (.ref l1),some (.ref l2),some (.int (0+(i:Int))),some (.ref l4),some (.ref l5),y7]) (Keep (ci++ce) H8 H') (∀a∈ci++ce,∃xs:List V,xs.length≤1600+j∧H' a=some (.lst xs)))
   ⟨⟨_,rfl⟩,Keep.refl,λa ha=>by obtain⟨zs,h1,h2⟩:=ats a ha;exact⟨_,by rw[Qa];omega,k8 _ _ h2 (by simp)⟩⟩ (λj σ H' _ hh=>SqL.of (hh.2 _ _ lC nq)) ?_ ?_⟩
  ·rintro j v σ H9 hv ⟨⟨y7,rfl⟩,k9,hA⟩
   have hjl:j<(ci++ce).length:=by
    have:=(Zg.mp hv).1
    rwa[Qa]at this
   obtain⟨a,ha,rfl⟩:=Qk.mp (Yq hv)
   obtain⟨xs,jR,gd⟩:=hA a ha
   rw[Ql]at hjl
   refine⟨_,rfl,.inl ⟨rfl,_,SqL.of gd⟩,a,_,_,rfl,rfl,gd,by omega,⟨_,rfl⟩,k9.trans (Keep.wr ha),λb hb=>?_⟩
   by_cases e:b=a
   ·subst e
    exact⟨_,by rw[Ql,Jm];omega,zac⟩
   ·obtain ⟨ys,h1,h2⟩:=hA b hb
    exact⟨ys,by omega,by rw[zaf e];exact h2⟩
  ·rintro σ H9 ⟨⟨y7,rfl⟩,k9,hA⟩
   have h49:=k9 _ _ (k8 _ _ gq (by simp)) m4
   have h59:=k9 _ _ (k8 _ _ cH (by simp)) m5
   have n45:l4≠l5:=zab gr oo
   refine⟨_,rfl,.inl ⟨rfl,_,SqL.of h49⟩,l4,_,rfl,rfl,h49,_,rfl,.inl ⟨rfl,_,SqL.of ((zaf (Zo n45)).trans h59)⟩,l5,_,rfl,rfl,(zaf (Zo n45)).trans h59,⟨_,_,_,_,rfl⟩,λc u ec _=>?_⟩
   have e3:=k3 c u ec (by simp)
   have e5:=cj c u e3 (by simp)
   rw[zaf (zab (k4 c u e3 (by simp)) oo),zaf (zab e3 fl4)]
   refine k9 c u (k8 c u e5 (by simp)) λz=>?_
   have:=fAS c z
   rw[e3]at this;cases this
 ·rintro σ H3 ⟨⟨x4,x5,x6,x7,rfl⟩,k3⟩
  have cB:=iw.trans k3
  have h13:=k3 _ _ lL (by simp)
  have h23:=k3 _ _ ak (by simp)
  refine⟨_,rfl,l2,rfl,⟨_,SqL.of h23⟩,⟨λn m ys τ H'=>Aj5 (m=aK.length-n) (n≤aK.length) (ys=(List.replicate n true).map V.bl) (Ex1 λx0=>τ=[x0,some (.ref d),some (.ref l1)]) (Keep [] H3 H'),⟨_,rfl,Zn _,rfl,⟨none,rfl⟩,Keep.refl⟩,?_⟩⟩
  rintro n m ys τ H4 ⟨rfl,hn,rfl,⟨x0,rfl⟩,k4⟩
  have sn:=k4 _ _ h23 (by simp)
  by_cases ad:n<aK.length
  ·refine .inr ⟨⟨_,.ref aK[n],SqL.of sn,by rw [Qu,Qc ad];rfl⟩,by rw [Qa,Jo];omega,?_⟩
   rintro v H' ⟨rfl,hv⟩
   have dI:=hv _ (SqL.of sn)
   rw[Qu,Qc ad]at dI
   have hve:V.ref aK[n]=v:=Qt dI
   subst hve
   obtain⟨bd,hp⟩:=zap nh ad
   have k34:=k3.trans k4
   refine⟨_,rfl,_,rfl,_,rfl,d,l1,aK[n],es,cs,Ls,a9,sJ,fX,fW[n],rfl,R.keep (cB.trans k4),aF,Ce,k4 _ _ h13 (by simp),za0 k34 ik,oM,oB,rY,k34 _ _ hp (by simp),oN _ (Qn bd),λH5 k5=>⟨_,by exact zar1 ‹_›,rfl,ad,?_,⟨_,rfl⟩,k4.trans k5⟩⟩
   rw[List.replicate_succ',Qs];rfl
  ·have aH:n=aK.length:=by omega
   subst aH
   refine .inl ⟨⟨_,SqL.of sn,by rw[Qa];exact Qf _⟩,λD hD=>?_⟩
   refine⟨D,List.replicate aK.length true,rfl,SqL.of zac,?_⟩
   have:(List.replicate aK.length true).all id=true:=by simp
   rw[this]
   exact k _ ((cB.trans k4).trans (Keep.new hD))
end
end K21
end
section
namespace L2
open PySem PySem.Spec PyProof.Rows
def zi2{X:Cx}{K:Nb}(hK:X.K=K):zce X (.type "list") (λxs H Q=>Ex2 λp ys=>Aj3 (xs=[.ref p]) ((SqL K H p ys)∨(SqT K H p ys)) (∀l,H l=none→Q (.ref l) (upd H l (.lst ys)))):=hK▸zfw
end L2
namespace K21
open PySem L2 Wb
abbrev sLaw:Stmt:=top 40
inductive IspLaw(K:Nb)(vs:List V)(H:Hp)(Q:VK):Prop
 |mk (a:Nc) (ns:List Int) (h0:vs=[.ref a]) (h1:SqL K H a (ns.map V.int)) (h2:ns.length≤63) (h3:∀H',Q (.bl true) H'):IspLaw K vs H Q
def spLaw(K:Nb):Sp:=λvs H Q _=>IspLaw K vs H Q
abbrev SameR:List Ent→List Ent→Prop:=Paired λe' e=>e'.1=e.1∧e'.2.1=e.2.1
def sameR_rs(h:SameR cY es):rsOf cY=rsOf es:=by
 unfold rsOf
 induction h with
 |nil=>rfl
 |cons h _ ih=>rw[Qj,Qj,ih,h.1,h.2]
def sameR_names(h:SameR cY es):cY.map (·.1)=es.map (·.1):=by
 induction h with
 |nil=>rfl
 |cons h _ ih=>rw[Qj,Qj,ih,h.1]
inductive OKp(C:Nc)(H:Hp)(m x d:Nc):Prop
 |mk (dx dd:Nc) (ts es:List Ent) (cs:List (List (Str×Str))) (a9:Nr) (h1:WAt H C x dx dd ts) (h2:H d=some (.dK (es.map λe=>((Sum.inr e.1:Key),V.ref e.2.2)))) (h3:∀e∈es,H e.2.2=some (.lst (e.2.1.map V.str))∧e.2.2≠m) (h4:Cert (es.map (·.1)) (row (rsOf es)) cs a9) (h5:Cert (ts.map (·.1)) (row (rsOf ts)) cs a9) (h6:Turn2 es ts) (h7:es.length≤40) (h8:ts.length≤40):OKp C H m x d
def OKp.keep{m:Nc}(h:OKp C H m x d)(k:Keep [] H H'):OKp C H' m x d:=by
 obtain⟨dx,dd,ts,es,cs,a9,h1,h2,h3,h⟩:=h
 exact⟨dx,dd,ts,es,cs,a9,h1.keep k (by simp) (by simp) λ_ _=>by simp,k _ _ h2 (by simp),λe he=>⟨k _ _ (h3 e he).1 (by simp),(h3 e he).2⟩,h,‹_›,‹_›,‹_›,‹_›⟩
def OKp.put{m:Nc}(h:OKp C H m x d)(k:Keep [m] H H')(hm:H m=some (.lst xs)):OKp C H' m x d:=by
 obtain⟨dx,dd,ts,es,cs,a9,h1,h2,h3,h4,h5,h6,h7,h8⟩:=h
 exact⟨dx,dd,ts,es,cs,a9,h1.keep k (by simpa using za3 h1.ob hm (by intro z;cases z)) (by simpa using za3 h1.ta.dc hm (by intro z;cases z)) λe he=>by simpa using za3 (h1.ta.ro e he) hm (by intro z;cases z),k _ _ h2 (by simpa using za3 h2 hm (by intro z;cases z)),λe he=>⟨k _ _ (h3 e he).1 (by simpa using(h3 e he).2),(h3 e he).2⟩,h4,h5,h6,h7,h8⟩
def PrO(C:Nc)(H:Hp)(m:Nc)(xs:List V):Prop:=∀v∈xs,∃a x d,v=.ref a∧H a=some (.tup [.ref x,.ref d])∧OKp C H m x d
def PrO.keep{m:Nc}(h:PrO C H m xs)(k:Keep [] H H'):PrO C H' m xs:=λv hv=>by
 obtain⟨a,x,d,e,h1,h2⟩:=h v hv
 exact⟨a,x,d,e,k _ _ h1 (by simp),h2.keep k⟩
def PrO.put{m:Nc}(h:PrO C H m xs)(k:Keep [m] H H')(hm:H m=some (.lst ys)):PrO C H' m xs:=λv hv=>by
 obtain⟨a,x,d,e,h1,h2⟩:=h v hv
 exact⟨a,x,d,e,k _ _ h1 (by simpa using za3 h1 hm (by intro z;cases z)),h2.put k hm⟩
def turn2_of{es ts:List Ent}{cs:List (List (Str×Str))}{a9:Nr}(C:Cert (es.map (·.1)) (row (rsOf es)) cs a9)(hn:(ts.map (·.1)).Perm (es.map (·.1)))(hr:∀x,∃k,row (rsOf ts) x=(row (rsOf es) x).drop k++(row (rsOf es) x).take k):Turn2 es ts:=by
 refine⟨λa b=>?_,λy=>hn.mem_iff.symm,λs hs=>?_⟩
 ·obtain ⟨k,e⟩:=hr a
  rw[e,(zie _ k).mem_iff]
 ·obtain ⟨k,e⟩:=hr s.2
  unfold st;rw[e,nxt_rot (C.rn _) k hs]
abbrev csLw:Scope:=scOf (aOf 0 (aOf 0 (match aOf 0 (eX (bAt (sAt sLaw 1) 1)) with | .Tuple es _ _=>es.getD 1 (.Name "" ⟨0,0,0,0⟩) | e=>e)))
def csLw_k:csLw.kind=.function:=by rfl
def csLw_c:∀y∈csLw.names,y.2≠.cell:=by decide +kernel
def csLw_n:∀y∈csLw.names,y.2=.local→csLw.names.lookup y.1=some .local:=by decide +kernel
def csLw_f:∀y∈csLw.names,y.2=.free→(zag sLaw).names.lookup y.1=some .cell∨(zag sLaw).names.lookup y.1=some .free:=by decide +kernel
def ndLw:(["_law_place", "_law_around"]:List Str).Nodup:=by decide +kernel
section
variable{P:Nj}{w:Nl}{K:Nb}{mg:Nf}{base:Nn}{C:Nc}
def scLaw:zas [qS, "_law_made", "_law_k", "_law_rows_here", "_law_web",qR] [qS] (zag sLaw):=fsk
def ok_law(F:Fun K "law" "law" sLaw f fd)(FP:Fun K "_law_pot" "_law_pot" sPot fp fdp)(bP:Binds K fdp [qS, "_law_k"] [])(mP:mg "_law_pot" = some (.ref fp))(GP:FnOk P w K mg base CX0 1 fp fdp [qS, "_law_k"] (spPot K))(FD:Fun K "_law_drawn" "_law_drawn" sDrawn fd' fdd)(bD:Binds K fdd [qP] [])(mD:mg "_law_drawn" = some (.ref fd'))(GD:FnOk P w K mg base CX0 5 fd' fdd [qP] spDrawnD)(MW:Mk K C fi)(mW:mg "Web" = some (.ref C))(bI:Binds K fdi ["self", "rows"] [])(GI:FnOk P w K mg base CX0 4 fi fdi ["self", "rows"] (spInit C))(FR:Fun K "_law_right" "_law_right" zgi fr fdr)(bR:Binds K fdr ["_law_web",qR] [])(mR:mg "_law_right" = some (.ref fr))(GR:FnOk P w K mg base CX0 4 fr fdr ["_law_web",qR] (spRight C))(fA:mg "dict" = none)(bQ:mg "list" = none)(bu:mg "range" = none)(aa:mg "len" = none)(eM:mg "min" = none)(ja:mg "max" = none):FnOk P w K mg base CX0 6 f fd [qS] (spLaw K):=by
 refine F.okL scLaw (λcdv A outer s0 H vs Q E hr h=>?_)
 obtain⟨a,ns,rfl,ha,nV,kq⟩:=h
 have hu:=zct hr
 have aW:Room 1 _:=hr.mono (by decide)
 have qc:Room 4 _:=hr.mono (by decide)
 have aP:=sizeLine_eq
 refine⟨_,zae (zaw 1 scLaw.nd (zbi zad))
  (zae (zbm Zm rfl (zc5 rfl bu (zaa (zaj (call_max2 rfl) (by rfl) ja PyProof.Rows.boot_max (zaa zai (zaa (zaj (call_min2 rfl) (by rfl) eM Bb (zaa (zaj zan (by rfl) aa Zu (zaa (pv 0) zad)) (zaa zai zad))) zad))) zad)) (za8 2 scLaw.nd)
   (zae (zaw 3 scLaw.nd (zam GD hr rfl mD FD.kp bD .nil za2 (zaa (zam GP aW rfl mP FP.kp bP .nil za2 (zaa (pv 0) (zaa (pv 2) zad))) zad)))
   (zah (zay (zb7 Qy Zq Zp za1 (pv 1) (zaa (zdl (zaa (pe_make MW GI hr rfl mW bI .nil za2 (zaa (pv 3) zad)) (zaa (zc6 (zd5 rfl) (by rfl) fA PyProof.Rows.boot_dict (zaa (zfx (M:=["_law_place", "_law_around"]) (ix:=[none,none]) ⟨csLw_k,csLw_c,csLw_n,csLw_f,rfl,ndLw,λj i x h1 h2=>by
     match j,h1,h2 with
     |0,_,h2=>cases h2
     |1,_,h2=>cases h2
     |n+2,h1,_=>cases h1⟩ rfl (zax (pv 3)) (λC a6 ex s H=>zii (K:=K) (n:=2) rfl rfl (zbb (za8 0 ndLw) (zbb (za8 1 ndLw) zdf))) (λC a6 ex s H=>zca)
     (λC a6 ex s H=>zdl (zaa (pv 0) (zaa (zc6 (zi2 (K:=K) rfl) (by rfl) (by exact bQ) Kj (zaa (pv 1) zad)) zad)))) zad)) zad))) zad))))))
  (zae (zbm Zm rfl (zax (zat zd4 (pv 1) (zby zdd (pv 1) zb1 (zcb zai)))) (zhp rfl (zbb (za8 4 scLaw.nd) (zbb (za8 5 scLaw.nd) zdf)))
   (zah (zc2 (zfu (zgl (zam GR qc rfl mR FR.kp bR .nil za2 (zaa (pv 4) (zaa (pv 5) zad))))) (zah ps_no) zbk)))
  (zah (zbh pe_bl)))),?_⟩
 refine⟨(by show 0≤sizeLine;decide),λm eO=>?_⟩
 have km:Keep [] H (upd H m (.lst [])):=Keep.new eO
 have eN:(upd H m (.lst [])) m=some (.lst []):=zac
 generalize upd H m (.lst [])=H0 at km eN
 refine⟨_,rfl,a,_,rfl,.inl (sq_keep ha km),_,_,rfl,_,_,rfl,_,rfl,?_,?_,?_⟩
 ·split<;>split<;>omega
 ·rw[Qa];split<;>split<;>omega
 refine zc9 (lo:=0) (λi σ H'=>Aj3 (Keep [] H H') (Ex2 λx2 x3=>σ=[some (.ref a),some (.ref m),x2,x3,none,none]) (Ex1 λxs=>Aj3 (H' m=some (.lst xs)) (PrO C H' m xs) (xs.length≤i))) ⟨km,⟨_,_,rfl⟩,[],eN,(λv hv=>by cases hv),Qf _⟩ ?_ ?_
 ·rintro i σ H1 hi ⟨k1,⟨x2,x3,rfl⟩,xs,jR,gJ,gc⟩
  have hi8:i≤1000:=by
   rw[Qa]at hi
   split at hi<;>split at hi<;>omega
  have ei:(0:Int)+(i:Int)=(i:Int):=by omega
  rw[ei]
  refine⟨_,rfl,_,rfl,a,ns,i,rfl,sq_keep ha k1,hi8,by omega,λp b2 m2 H2 hpf aL k2=>?_⟩
  have fpH:H p=none:=zaq k1 hpf (by simp)
  refine⟨p,b2,m2,rfl,aL,λt bs es cs a9 b3 m3 H3 RW Ct kj hok bJ k3=>?_⟩
  have pe:Keep [] H1 H3:=λc u ec _=>k3 c u (k2 _ _ ec (by simp)) (by simpa using zab ec hpf)
  have cB:Keep [] H H3:=k1.trans pe
  have hx3:=pe _ _ jR (by simp)
  refine⟨_,rfl,.inl ⟨rfl,_,SqL.of hx3⟩,_,rfl,λx dx hx hdx aH=>?_⟩
  have k4:Keep [] H3 (upd (upd H3 dx (.own x)) x (.ins C dx [])):=λc u ec _=>by
   rw[zaf (zab ec hx),zaf (zab ec hdx)];exact ec
  have hx4:(upd (upd H3 dx (.own x)) x (.ins C dx [])) x=some (.ins C dx []):=zac
  generalize upd (upd H3 dx (.own x)) x (.ins C dx [])=H4 at k4 hx4
  refine⟨x,dx,t,bs,es,cs,a9,rfl,hx4,RW.keep k4,kj,λe he=>(hok e he).1,Ct,λd2 ts es2 H5 wt aT jX k5=>⟨rfl,?_⟩⟩
  have cj:Keep [] H3 H5:=λc u ec _=>k5 c u (k4 c u ec (by simp)) (by simpa using zab ec hx)
  have tu:=RW.keep cj
  have aZ:(es.map (·.1)).Nodup:=Ct.nd
  have fE:bs.length=es.length:=Zx tu.ts
  have iX:(ts.map (·.1)).Perm (es.map (·.1)):=by rw[zb5 jX];exact aT.map _
  have ai:=zfb jX aT aZ
  have Ct2:=ze4 Ct iX ai
  have T2:=turn2_of Ct iX ai
  have jU:ts.length=es.length:=by have:=iX.length_eq;rwa[Qa,Qa]at this
  have iu:=cB.trans cj
  have hx5:=cj _ _ hx3 (by simp)
  refine⟨_,rfl,t,rfl,⟨_,SqL.of tu.ls⟩,λn q ys τ H'=>Ex2 λ(aK:Nk) (fs:List Ent)=>Aj8 (q=es.length-n) (n≤es.length) (ys=aK.map V.ref) (Ex2 λx0 x1=>τ=[x0,x1]) (Paired (λa (e:Ent)=>H' a=some (.tup [.str e.1,.ref e.2.2])) aK fs) (∀e∈fs,H' e.2.2=some (.lst (e.2.1.map V.str))∧H5 e.2.2=none) (SameR fs (es.take n)) (Keep [] H5 H'),
   ⟨es.length,[],[],rfl,Zn _,rfl,⟨none,none,rfl⟩,.nil,(λe he=>by cases he),.nil,Keep.refl⟩,?_⟩
  rintro n q ys τ H6 ⟨aK,fs,rfl,hn,rfl,⟨x0,x1,rfl⟩,bq,cL,jZ,k6⟩
  have bY:aK.length=n:=by rw[Zx bq,Zx jZ,Zf];omega
  have R6:=tu.keep k6
  by_cases ad:n<es.length
  ·have qz:n < bs.length:=by omega
   refine .inr ⟨⟨_,.ref bs[n],SqL.of R6.ls,by rw[Qu,Qc qz];rfl⟩,by rw[Qa];omega,?_⟩
   rintro v H7 ⟨rfl,hv⟩
   have dI:=hv _ (SqL.of R6.ls)
   rw[Qu,Qc qz]at dI
   obtain rfl:V.ref bs[n]=v:=Qt dI
   obtain⟨aE,cX⟩:=zap R6.ts qz
   have dB:es[n]∈es:=Qn ad
   have tk:es.take (n+1)=es.take n++[es[n]]:=Qo ad
   have ly:=R6.ro _ dB
   generalize es[n]=e at dB tk cX ly
   refine⟨bs[n],_,rfl,SqT.of cX,rfl,_,_,rfl,_,_,rfl,rfl,_,rfl,_,rfl,e.2.2,_,rfl,.inl (SqL.of ly),λl7 aQ=>⟨(by show 2≤sizeLine;decide),λt7 nK=>?_⟩⟩
   have k7:Keep [] H7 (upd H7 l7 (.lst (e.2.1.map V.str))):=Keep.new aQ
   have bw:(upd H7 l7 (.lst (e.2.1.map V.str))) l7=some (.lst (e.2.1.map V.str)):=zac
   have k8:Keep [] H7 (upd (upd H7 l7 (.lst (e.2.1.map V.str))) t7 (.tup [.str e.1,.ref l7])):=k7.trans (Keep.new nK)
   refine⟨_,by exact zar1 ‹_›,aK++[t7],fs++[(e.1,e.2.1,l7)],rfl,ad,by rw[Qs];rfl,⟨_,_,rfl⟩,?_,λe' cS=>?_,?_,k6.trans k8⟩
   ·exact zao (Paired.imp' (λa e h=>k8 _ _ h (by simp)) bq) (.cons zac .nil)
   ·rcases Qe.mp cS with z | z
    ·exact⟨k8 _ _ (cL e' z).1 (by simp),(cL e' z).2⟩
    ·rw [Qb.mp z]
     exact⟨by rw[zaf (zab bw nK)];exact bw,zaq k6 aQ (by simp)⟩
   ·rw[tk];exact zao jZ (.cons ⟨rfl,rfl⟩ .nil)
  have lR:n=es.length:=by omega
  subst lR
  rw[Qv (Qf _)]at jZ
  refine .inl ⟨⟨_,SqL.of R6.ls,by rw[Qa,fE];exact Qf _⟩,λD hD=>?_⟩
  have k7:Keep [] H6 (upd H6 D (.lst (aK.map V.ref))):=Keep.new hD
  have kE:(upd H6 D (.lst (aK.map V.ref))) D=some (.lst (aK.map V.ref)):=zac
  generalize upd H6 D (.lst (aK.map V.ref))=H7 at k7 kE
  have pW:=sameR_rs jZ
  have qp:=sameR_names jZ
  have gA:fs.length=es.length:=Zx jZ
  have nQ:(fs.map λe:Ent=>(e.1,V.ref e.2.2)).map (·.1)=fs.map (·.1):=by rw[Zk];rfl
  refine⟨D,aK,fs.map λe=>(e.1,V.ref e.2.2),rfl,kE,zhr (Paired.imp' (λa e h=>k7 _ _ h (by simp)) bq),by rw[nQ,qp];exact aZ,λd hd=>⟨(by show 2≤sizeLine;decide),λtt pH=>?_⟩⟩
  have qh:((fs.map λe:Ent=>(e.1,V.ref e.2.2)).map λp=>((Sum.inr p.1:Key),p.2))=fs.map λe=>((Sum.inr e.1:Key),V.ref e.2.2):=by rw[Zk];rfl
  rw[qh]at pH ⊢
  have k8:Keep [] H7 (upd H7 d (.dK (fs.map λe=>((Sum.inr e.1:Key),V.ref e.2.2)))):=Keep.new hd
  have hd8:(upd H7 d (.dK (fs.map λe=>((Sum.inr e.1:Key),V.ref e.2.2)))) d=some (.dK (fs.map λe=>((Sum.inr e.1:Key),V.ref e.2.2))):=zac
  generalize upd H7 d (.dK (fs.map λe=>((Sum.inr e.1:Key),V.ref e.2.2)))=H8 at k8 hd8 pH
  have k9:Keep [] H8 (upd H8 tt (.tup [.ref x,.ref d])):=Keep.new pH
  have gP:(upd H8 tt (.tup [.ref x,.ref d])) tt=some (.tup [.ref x,.ref d]):=zac
  generalize upd H8 tt (.tup [.ref x,.ref d])=H9 at k9 gP
  have nE:Keep [] H5 H9:=((k6.trans k7).trans k8).trans k9
  have hx9:=nE _ _ hx5 (by simp)
  refine⟨m,_,_,rfl,rfl,hx9,by omega,?_⟩
  have kw:Keep [m] H9 (upd H9 m (.lst (xs++[.ref tt]))):=Keep.wr (by simp)
  refine⟨((iu.trans nE).fr eO),⟨_,_,rfl⟩,xs++[.ref tt],zac,?_,by rw[Ql,Jm];omega⟩
  refine PrO.put (H:=H9) (λv hv=>?_) kw hx9
  rcases Qe.mp hv with z | z
  ·exact(gJ.keep ((pe.trans cj).trans nE)) v z
  ·rw [Qb.mp z]
   have k79:=k8.trans k9
   exact⟨tt,x,d,rfl,gP,dx,d2,ts,fs,cs,a9,wt.keep nE (by simp) (by simp) (λ_ _=>by simp),k9 _ _ hd8 (by simp),λe he=>⟨k79 _ _ (k7 _ _ (cL e he).1 (by simp)) (by simp),λz=>by have:=(cL e he).2;rw[z,hx5]at this;cases this⟩,by rw[qp,pW];exact Ct,Ct2,⟨λa b=>by rw[pW];exact T2.mm a b,λy=>by rw[qp];exact T2.nn y,λs hs=>by rw[pW]at hs ⊢;exact T2.ss s hs⟩,by omega,by omega⟩
 ·rintro σ H1 ⟨k1,⟨x2,x3,rfl⟩,xs,jR,gJ,gc⟩
  rw[Qa]at gc
  have hxl':xs.length≤1000:=by split at gc<;>split at gc<;>omega
  have c1:=zb3 xs none (some 1)
  refine⟨_,rfl,_,rfl,_,rfl,m,_,rfl,SqL.of jR,λq hq=>?_⟩
  have nmq:m≠q:=zab jR hq
  have p1:PrO C H1 m (cutV xs none (some 1)):=λv hv=>gJ v (Wi (Wd hv))
  generalize cutV xs none (some 1)=us at c1 p1 ⊢
  refine⟨m,q,xs,us,rfl,rfl,(by rw[zaf nmq];exact jR),zac,by omega,λl hl=>?_⟩
  have k2:Keep [] H1 (upd (upd H1 q (.lst us)) l (.lst (xs++us))):=(Keep.new hq).trans (Keep.new hl)
  have ak:(upd (upd H1 q (.lst us)) l (.lst (xs++us))) l=some (.lst (xs++us)):=zac
  generalize upd (upd H1 q (.lst us)) l (.lst (xs++us))=H2 at k2 ak
  have p2:PrO C H2 m (xs++us):=λv hv=>(Qe.mp hv).elim ((gJ.keep k2) v) ((p1.keep k2) v)
  refine⟨l,rfl,⟨_,SqL.of ak⟩,zbq (xs:=xs++us) (λj σ H'=>Aj2 (Ex2 λx4 x5=>σ=[some (.ref a),some (.ref m),x2,x3,x4,x5]) (Keep [] H2 H')) ⟨⟨_,_,rfl⟩,Keep.refl⟩ (λj σ H' _ hh=>SqL.of (hh.2 _ _ ak (by simp))) ?_ ?_⟩
  ·rintro j v σ H3 hv ⟨⟨y4,y5,rfl⟩,k3⟩
   obtain⟨u,x,d,rfl,hu3,dx,dd,ts,es,cs,a9,h1,h2,h3,h4,h5,h6,h7,h8⟩:=(p2.keep k3) v (Yq hv)
   exact⟨u,_,rfl,SqT.of hu3,rfl,_,_,rfl,_,_,rfl,rfl,_,rfl,_,rfl,x,dx,dd,d,ts,es,cs,a9,rfl,h1,⟨.inl h2,h4.nd,λe he=>(h3 e he).1⟩,h4,h5,h6,h7,h8,λH4 k4=>⟨true,rfl,iteF ⟨⟨_,_,rfl⟩,k3.trans k4⟩⟩⟩
  ·rintro σ H3 ⟨⟨y4,y5,rfl⟩,k3⟩
   exact kq _
end
end K21
end
section
namespace L2
open PySem
section
variable{K:Nb}{x qual p1 p2 p3 p4 p5:Str}{st:Stmt}{f:Nc}{fd:Nt}(F:Fun K x qual st f fd)
include F
theorem Fun.b1(h:∀(kV doc pm:Value) (an:Option Addr) (cdv ct a1:Value),bindArgs (PySem.W.fnOf x qual (zdi st) (zcc st) (zag st) .none kV doc pm an cdv ct) ⟨[a1],[]⟩=pure [(p1,a1)]):Binds K fd [p1] [] :=
 F.binds λkV doc pm an cdv ct us hl=>by
  obtain _ | ⟨a1,_ | ⟨z,t⟩⟩:=us
  ·cases hl
  ·exact h kV doc pm an cdv ct a1
  ·cases hl
theorem Fun.b2(h:∀(kV doc pm:Value) (an:Option Addr) (cdv ct a1 a2:Value),bindArgs (PySem.W.fnOf x qual (zdi st) (zcc st) (zag st) .none kV doc pm an cdv ct) ⟨[a1,a2],[]⟩=pure [(p1,a1),(p2,a2)]):Binds K fd [p1,p2] [] :=
 F.binds λkV doc pm an cdv ct us hl=>by
  obtain _ | ⟨a1,_ | ⟨a2,_ | ⟨z,t⟩⟩⟩:=us
  ·cases hl
  ·cases hl
  ·exact h kV doc pm an cdv ct a1 a2
  ·cases hl
theorem Fun.b3(h:∀(kV doc pm:Value) (an:Option Addr) (cdv ct a1 a2 a3:Value),bindArgs (PySem.W.fnOf x qual (zdi st) (zcc st) (zag st) .none kV doc pm an cdv ct) ⟨[a1,a2,a3],[]⟩=pure [(p1,a1),(p2,a2),(p3,a3)]):Binds K fd [p1,p2,p3] [] :=
 F.binds λkV doc pm an cdv ct us hl=>by
  obtain _ | ⟨a1,_ | ⟨a2,_ | ⟨a3,_ | ⟨z,t⟩⟩⟩⟩:=us
  ·cases hl
  ·cases hl
  ·cases hl
  ·exact h kV doc pm an cdv ct a1 a2 a3
  ·cases hl
end
end L2
namespace K21
open PySem L2 Wb PyProof.Rows
theorem all_mk{l:PySem.W.OpenLaw}{w:Nl}{K:Nb}{h:Nn}{mg:Nf}{fa C fL f0 f1 f2 f3 f4 f5 f6 f7 f8 f9 f10 f11 f12 f13 f14 f15 f16 f17 f18 f19 f20 f21 f22 f23 f24 f25 f26 f27 g0:Nc}(X:K.In h)(G:h.Ns mainGlobals mg)(hfa:mg "law" = some (.ref fa))(af0:PySem.W.nsIn K mainGlobals "steps_behind" = some (some (.ref f0)))(hf0:∃fd,Fun K "steps_behind" "steps_behind" sSteps f0 fd)(af1:PySem.W.nsIn K mainGlobals "faces_of" = some (some (.ref f1)))(fq:∃fd,Fun K "faces_of" "faces_of" zeo f1 fd)(af2:PySem.W.nsIn K mainGlobals "piece_from" = some (some (.ref f2)))(fm:∃fd,Fun K "piece_from" "piece_from" sPiece f2 fd)(af3:PySem.W.nsIn K mainGlobals "pieces_of" = some (some (.ref f3)))(jt:∃fd,Fun K "pieces_of" "pieces_of" zgj f3 fd)(af4:PySem.W.nsIn K mainGlobals "faces" = some (some (.ref f4)))(kh:∃fd,Fun K "faces" "faces" zid f4 fd)(af5:PySem.W.nsIn K mainGlobals "pieces" = some (some (.ref f5)))(o8:∃fd,Fun K "pieces" "pieces" zf4 f5 fd)(af6:PySem.W.nsIn K mainGlobals "is_name" = some (some (.ref f6)))(hf6:∃fd,Fun K "is_name" "is_name" zeb f6 fd)(af7:PySem.W.nsIn K mainGlobals "refuse_no_names" = some (some (.ref f7)))(hf7:∃fd,Fun K "refuse_no_names" "refuse_no_names" zf5 f7 fd)(af8:PySem.W.nsIn K mainGlobals "refuse_twice" = some (some (.ref f8)))(hf8:∃fd,Fun K "refuse_twice" "refuse_twice" zd2 f8 fd)(af9:PySem.W.nsIn K mainGlobals "refuse_one_way" = some (some (.ref f9)))(hf9:∃fd,Fun K "refuse_one_way" "refuse_one_way" zic f9 fd)(tm:PySem.W.nsIn K mainGlobals "refuse_not_flat" = some (some (.ref f10)))(rH:∃fd,Fun K "refuse_not_flat" "refuse_not_flat" zhg f10 fd)(tf:PySem.W.nsIn K mainGlobals "from_least" = some (some (.ref f11)))(rG:∃fd,Fun K "from_least" "from_least" sLeast f11 fd)(t8:PySem.W.nsIn K mainGlobals "_law_pot" = some (some (.ref f12)))(rF:∃fd,Fun K "_law_pot" "_law_pot" sPot f12 fd)(t6:PySem.W.nsIn K mainGlobals "_law_digit" = some (some (.ref f13)))(rE:∃fd,Fun K "_law_digit" "_law_digit" zfs f13 fd)(sZ:PySem.W.nsIn K mainGlobals "_law_counted" = some (some (.ref f14)))(rD:∃fd,Fun K "_law_counted" "_law_counted" sCount f14 fd)(sY:PySem.W.nsIn K mainGlobals "_law_names" = some (some (.ref f15)))(rC:∃fd,Fun K "_law_names" "_law_names" sNames f15 fd)(sX:PySem.W.nsIn K mainGlobals "_law_behind" = some (some (.ref f16)))(rB:∃fd,Fun K "_law_behind" "_law_behind" zff f16 fd)(sW:PySem.W.nsIn K mainGlobals "_law_steps" = some (some (.ref f17)))(rA:∃fd,Fun K "_law_steps" "_law_steps" zfe f17 fd)(sV:PySem.W.nsIn K mainGlobals "_law_tie" = some (some (.ref f18)))(rq:∃fd,Fun K "_law_tie" "_law_tie" sTie f18 fd)(sU:PySem.W.nsIn K mainGlobals "_law_rounds" = some (some (.ref f19)))(rp:∃fd,Fun K "_law_rounds" "_law_rounds" zib f19 fd)(sT:PySem.W.nsIn K mainGlobals "_law_rows" = some (some (.ref f20)))(rl:∃fd,Fun K "_law_rows" "_law_rows" sRows f20 fd)(sS:PySem.W.nsIn K mainGlobals "_law_drawn" = some (some (.ref f21)))(rj:∃fd,Fun K "_law_drawn" "_law_drawn" sDrawn f21 fd)(sR:PySem.W.nsIn K mainGlobals "_law_faces" = some (some (.ref f22)))(rh:∃fd,Fun K "_law_faces" "_law_faces" zcl f22 fd)(sQ:PySem.W.nsIn K mainGlobals "_law_piece" = some (some (.ref f23)))(rg:∃fd,Fun K "_law_piece" "_law_piece" zdr f23 fd)(sP:PySem.W.nsIn K mainGlobals "_law_pieces" = some (some (.ref f24)))(rf:∃fd,Fun K "_law_pieces" "_law_pieces" zcv f24 fd)(sO:PySem.W.nsIn K mainGlobals "_law_is_list" = some (some (.ref f25)))(r9:∃fd,Fun K "_law_is_list" "_law_is_list" zds f25 fd)(sM:PySem.W.nsIn K mainGlobals "_law_count" = some (some (.ref f26)))(r8:∃fd,Fun K "_law_count" "_law_count" zc1 f26 fd)(sL:PySem.W.nsIn K mainGlobals "_law_right" = some (some (.ref f27)))(r6:∃fd,Fun K "_law_right" "_law_right" zgi f27 fd)(ag0:PySem.W.findIn K (.ref C) "__init__" = some (some (.ref g0)))(ig0:PySem.W.isFn K (.ref g0)=true)(kg0:PySem.W.keepIn K (.ref g0)=true)(hg0:∃fd,Fun K "__init__" "Web.__init__" sInit g0 fd){odfL anfL:Option Addr}{slfL:Array (Option Value)}{ocfL kVfL dcfL pmfL cdfL ctfL:Value}(afL:PySem.W.nsIn K mainGlobals "law" = some (some (.ref fL)))(lfL:K.lookup fL=some ⟨ocfL,odfL,.func (PySem.W.fnOf "law" "law" (zdi sLaw) (zcc sLaw) (zag sLaw) .none kVfL dcfL pmfL anfL cdfL ctfL),slfL⟩)(cfL:PySem.W.codeIn K cdfL "law" = true)(kfL:PySem.W.keepIn K (.ref fL)=true)(aC:PySem.W.nsIn K mainGlobals "Web" = some (some (.ref C))){tkM:Tok}(aM:PySem.W.nsIn K mainGlobals "MOST_LETTERS" = some (some (.int 8 tkM)))(pg:PySem.W.plainGet K C Str.empty=true)(ju:PySem.W.hasDictIn K C=true)(po:PySem.W.plainOver K C=true)(sa:PySem.W.findIn K (.ref C) "__setattr__" = some (some (.builtin "object.__setattr__")))(mk:PySem.W.makesIn K C=true)(kc:PySem.W.keepIn K (.ref C)=true)(nR:PySem.W.findIn K (.ref C) "rounds" = some none)(z_len:PySem.W.nsIn K mainGlobals "len" = some none)(z_sorted:PySem.W.nsIn K mainGlobals "sorted" = some none)(z_range:PySem.W.nsIn K mainGlobals "range" = some none)(z_min:PySem.W.nsIn K mainGlobals "min" = some none)(z_max:PySem.W.nsIn K mainGlobals "max" = some none)(z_tuple:PySem.W.nsIn K mainGlobals "tuple" = some none)(z_list:PySem.W.nsIn K mainGlobals "list" = some none)(z_dict:PySem.W.nsIn K mainGlobals "dict" = some none)(z_set:PySem.W.nsIn K mainGlobals "set" = some none)(z_isinstance:PySem.W.nsIn K mainGlobals "isinstance" = some none)(z_str:PySem.W.nsIn K mainGlobals "str" = some none)(z_all:PySem.W.nsIn K mainGlobals "all" = some none)(z_sum:PySem.W.nsIn K mainGlobals "sum" = some none)(z_enumerate:PySem.W.nsIn K mainGlobals "enumerate" = some none)(z_any:PySem.W.nsIn K mainGlobals "any" = some none) :
  ∃fd:FuncData,(∀(s:Ng) (v:Value),BindsTo s fd ⟨[v],[]⟩ [("_law_script",v)])∧∀base:Heap,K.In base→base.Ns mainGlobals mg→FnOk l.prog w K mg base CX0 6 fa fd ["_law_script"] (spLaw K):=by
 have e:=hfa.symm.trans (Zs X G afL)
 cases e
 obtain⟨_,F0⟩:=hf0
 have b0:=F0.b1 (p1 := "rounds") λ_ _ _ _ _ _ _=>rfl
 have m0:=Zs X G af0
 obtain⟨_,F1⟩:=fq
 have b1:=F1.b1 (p1 := "rounds") λ_ _ _ _ _ _ _=>rfl
 have m1:=Zs X G af1
 obtain⟨_,F2⟩:=fm
 have b2:=F2.b2 (p1 := "rounds") (p2 := "start") λ_ _ _ _ _ _ _ _=>rfl
 have m2:=Zs X G af2
 obtain⟨_,F3⟩:=jt
 have b3:=F3.b1 (p1 := "rounds") λ_ _ _ _ _ _ _=>rfl
 have m3:=Zs X G af3
 obtain⟨_,F4⟩:=kh
 have b4:=F4.b1 (p1 := "web") λ_ _ _ _ _ _ _=>rfl
 have m4:=Zs X G af4
 obtain⟨_,F5⟩:=o8
 have b5:=F5.b1 (p1 := "web") λ_ _ _ _ _ _ _=>rfl
 have m5:=Zs X G af5
 obtain⟨_,F6⟩:=hf6
 have b6:=F6.b1 (p1 := "thing") λ_ _ _ _ _ _ _=>rfl
 have m6:=Zs X G af6
 obtain⟨_,F7⟩:=hf7
 have b7:=F7.b1 (p1 := "rows") λ_ _ _ _ _ _ _=>rfl
 have m7:=Zs X G af7
 obtain⟨_,F8⟩:=hf8
 have b8:=F8.b1 (p1 := "rows") λ_ _ _ _ _ _ _=>rfl
 have m8:=Zs X G af8
 obtain⟨_,F9⟩:=hf9
 have b9:=F9.b1 (p1 := "rows") λ_ _ _ _ _ _ _=>rfl
 have m9:=Zs X G af9
 obtain⟨_,tR⟩:=rH
 have b10:=tR.b1 (p1 := "rounds") λ_ _ _ _ _ _ _=>rfl
 have m10:=Zs X G tm
 obtain⟨_,tQ⟩:=rG
 have b11:=tQ.b1 (p1 := "around") λ_ _ _ _ _ _ _=>rfl
 have m11:=Zs X G tf
 obtain⟨_,tP⟩:=rF
 have b12:=tP.b2 (p1 := "_law_script") (p2 := "_law_k") λ_ _ _ _ _ _ _ _=>rfl
 have m12:=Zs X G t8
 obtain⟨_,jL⟩:=rE
 have mX:=jL.b2 (p1 := "_law_pot_here") (p2 := "_law_many") λ_ _ _ _ _ _ _ _=>rfl
 have kS:=Zs X G t6
 obtain⟨_,tO⟩:=rD
 have b14:=tO.b2 (p1 := "_law_number") (p2 := "_law_letters") λ_ _ _ _ _ _ _ _=>rfl
 have m14:=Zs X G sZ
 obtain⟨_,tN⟩:=rC
 have b15:=tN.b2 (p1 := "_law_pot_here") (p2 := "_law_many") λ_ _ _ _ _ _ _ _=>rfl
 have m15:=Zs X G sY
 obtain⟨_,mZ⟩:=rB
 have b16:=mZ.b2 (p1 := "_law_around") (p2 := "_law_one") λ_ _ _ _ _ _ _ _=>rfl
 have m16:=Zs X G sX
 obtain⟨_,mY⟩:=rA
 have b17:=mY.b3 (p1 := "_law_rounds_here") (p2 := "_law_p") (p3 := "_law_q") λ_ _ _ _ _ _ _ _ _=>rfl
 have m17:=Zs X G sW
 obtain⟨_,tM⟩:=rq
 have b18:=tM.b2 (p1 := "_law_pot_here") (p2 := "_law_rounds_here") λ_ _ _ _ _ _ _ _=>rfl
 have m18:=Zs X G sV
 obtain⟨_,tL⟩:=rp
 have b19:=tL.b2 (p1 := "_law_pot_here") (p2 := "_law_most") λ_ _ _ _ _ _ _ _=>rfl
 have m19:=Zs X G sU
 obtain⟨_,tK⟩:=rl
 have b20:=tK.b3 (p1 := "_law_pot_here") (p2 := "_law_rounds_here") (p3 := "_law_names_here") λ_ _ _ _ _ _ _ _ _=>rfl
 have m20:=Zs X G sT
 obtain⟨_,tJ⟩:=rj
 have b21:=tJ.b1 (p1 := "_law_pot_here") λ_ _ _ _ _ _ _=>rfl
 have m21:=Zs X G sS
 obtain⟨_,tI⟩:=rh
 have b22:=tI.b1 (p1 := "_law_rounds_here") λ_ _ _ _ _ _ _=>rfl
 have m22:=Zs X G sR
 obtain⟨_,tH⟩:=rg
 have b23:=tH.b2 (p1 := "_law_rounds_here") (p2 := "_law_place") λ_ _ _ _ _ _ _ _=>rfl
 have m23:=Zs X G sQ
 obtain⟨_,tG⟩:=rf
 have b24:=tG.b1 (p1 := "_law_rounds_here") λ_ _ _ _ _ _ _=>rfl
 have m24:=Zs X G sP
 obtain⟨_,tF⟩:=r9
 have b25:=tF.b2 (p1 := "_law_found") (p2 := "_law_due") λ_ _ _ _ _ _ _ _=>rfl
 have m25:=Zs X G sO
 obtain⟨_,tE⟩:=r8
 have b26:=tE.b3 (p1 := "_law_rounds_here") (p2 := "_law_faces_due") (p3 := "_law_piece_here") λ_ _ _ _ _ _ _ _ _=>rfl
 have m26:=Zs X G sM
 obtain⟨_,tD⟩:=r6
 have b27:=tD.b2 (p1 := "_law_web") (p2 := "_law_rounds_here") λ_ _ _ _ _ _ _ _=>rfl
 have m27:=Zs X G sL
 obtain⟨_,FG0⟩:=hg0
 have bG0:=FG0.b2 (p1 := "self") (p2 := "rows") λ_ _ _ _ _ _ _ _=>rfl
 have FL:=fun_mk (st:=sLaw) lfL cfL kfL
 have cW:Cls K C:=⟨pg,ju,po,sa⟩
 have mC:=Zs X G aC
 have mM:=Zs X G aM
 have y_len:=Yn X G z_len
 have y_sorted:=Yn X G z_sorted
 have y_range:=Yn X G z_range
 have y_min:=Yn X G z_min
 have y_max:=Yn X G z_max
 have y_tuple:=Yn X G z_tuple
 have y_list:=Yn X G z_list
 have y_dict:=Yn X G z_dict
 have y_set:=Yn X G z_set
 have y_isinstance:=Yn X G z_isinstance
 have y_str:=Yn X G z_str
 have y_all:=Yn X G z_all
 have y_sum:=Yn X G z_sum
 have y_enumerate:=Yn X G z_enumerate
 have y_any:=Yn X G z_any
 refine⟨PySem.W.fnOf "law" "law" (zdi sLaw) (zcc sLaw) (zag sLaw) .none kVfL dcfL pmfL anfL cdfL ctfL,λs v=>.of_eq rfl,λbase _ _=>?_⟩
 have GTake:=ok_digit (P:=l.prog) (w:=w) (mg:=mg) (base:=base) jL
 have GPot:=ok_pot (P:=l.prog) (w:=w) (base:=base) tP y_len y_min y_max y_list
 have GCount:=ok_count (P:=l.prog) (w:=w) (base:=base) tO y_len
 have GNames:=ok_names (P:=l.prog) (w:=w) (base:=base) tN jL mX kS GTake tO b14 m14 GCount y_len y_range
 have GBehind:=ok_behind (P:=l.prog) (w:=w) (base:=base) mZ y_len
 have GSteps0:=ok_steps0 (P:=l.prog) (w:=w) (base:=base) mY mZ b16 m16 GBehind
 have GTie:=ok_tie (P:=l.prog) (w:=w) (base:=base) tM jL mX kS GTake mY b17 m17 GSteps0 y_len
 have GRounds:=ok_rounds (P:=l.prog) (w:=w) (base:=base) tL jL mX kS GTake tM b18 m18 GTie y_len y_range
 have GRows:=ok_rows (P:=l.prog) (w:=w) (base:=base) tK jL mX kS GTake y_len y_range
 have GDrawn:=ok_drawn (P:=l.prog) (w:=w) (base:=base) tJ jL mX kS GTake tL b19 m19 GRounds tK b20 m20 GRows tN b15 m15 GNames y_len
 have GIsName:=ok_isname (P:=l.prog) (w:=w) (base:=base) F6 mM y_isinstance y_str y_len y_all
 have GNo:=ok_nonames (P:=l.prog) (w:=w) (base:=base) F7 F6 b6 m6 GIsName
 have GTw:=ok_twice (P:=l.prog) (w:=w) (base:=base) F8 y_len y_set
 have GOne:=ok_oneway (P:=l.prog) (w:=w) (base:=base) F9 y_dict
 have GLeast:=ok_least (P:=l.prog) (w:=w) (base:=base) tQ y_min y_tuple
 have GSteps:=ok_steps (P:=l.prog) (w:=w) (base:=base) F0 y_enumerate
 have GFacesO:=ok_facesO (P:=l.prog) (w:=w) (base:=base) F1 F0 b0 m0 GSteps y_sorted
 have GFaces:=ok_faces GFacesO
 have GPiece:=ok_piece (P:=l.prog) (w:=w) (base:=base) F2 y_sorted
 have GPieces:=ok_pieces (P:=l.prog) (w:=w) (base:=base) F3 F2 b2 m2 GPiece y_sorted
 have GFlat:=ok_flat (P:=l.prog) (w:=w) (base:=base) tR F1 b1 m1 GFaces F3 b3 m3 GPieces y_len y_sum
 have GInit:=ok_init (P:=l.prog) (w:=w) (base:=base) FG0 cW nR F7 b7 m7 GNo F8 b8 m8 GTw F9 b9 m9 GOne tQ b11 m11 GLeast tR b10 m10 GFlat y_sorted
 have GBehindS:=ok_behindS (P:=l.prog) (w:=w) (base:=base) mZ y_len
 have GStepsS:=ok_stepsS (P:=l.prog) (w:=w) (base:=base) mY mZ b16 m16 GBehindS
 have GLFaces:=ok_lfaces (P:=l.prog) (w:=w) (base:=base) tI mY b17 m17 GStepsS y_sorted
 have GLPiece:=ok_lpiece (P:=l.prog) (w:=w) (base:=base) tH y_sorted y_len
 have GLPieces:=ok_lpieces (P:=l.prog) (w:=w) (base:=base) tG tH b23 m23 GLPiece y_sorted y_any
 have GFacesW:=ok_facesW (P:=l.prog) (w:=w) (base:=base) F4 cW nR F1 b1 m1 GFacesO
 have GPiecesW:=ok_piecesW (P:=l.prog) (w:=w) (base:=base) F5 cW nR F3 b3 m3 GPieces
 have GIsList:=ok_islist (P:=l.prog) (w:=w) (base:=base) tF y_isinstance y_list y_all
 have GCount0:=ok_count0 (P:=l.prog) (w:=w) (base:=base) tE y_len y_sum
 have GRight:=ok_right (P:=l.prog) (w:=w) (base:=base) tD tI b22 m22 GLFaces tG b24 m24 GLPieces F4 b4 m4 GFacesW F5 b5 m5 GPiecesW tF b25 m25 GIsList tE b26 m26 GCount0 y_range y_all
 exact ok_law FL tP b12 m12 GPot tJ b21 m21 GDrawn ⟨mk,ag0,ig0,kc⟩ mC bG0 GInit tD b27 m27 GRight y_dict y_list y_range y_len y_min y_max
def walk{l:PySem.W.OpenLaw}{q:Nj}{loose:Ni}{XP:(Str→Option Value)→Heap→Prop}{d:DefRec}{K:Params→PySem.W.Frag}(hn:l.most=some 63)(md:d.params.defaults=[])(F:∀ (w:Nl) (mg:Nf) (fa:Nc) (h:Nn),(K w.params).In h→h.Ns mainGlobals mg→mg d.name=some (.ref fa) →
   ∃fd:FuncData,(∀(s:Ng) (u:Value),BindsTo s fd ⟨[u],[]⟩ [("_law_script",u)])∧∀base:Heap,(K w.params).In base→base.Ns mainGlobals mg→FnOk l.prog w (K w.params) mg base CX0 6 fa fd ["_law_script"] (spLaw (K w.params))) :
  PySem.W.WalkO q loose XP (λw h=>(K w.params).In h) l.row.toRowW d [] (λf vs=>PySem.call f vs) :=
 L2.walk_of (n:=63) (k:=6) (x := "_law_script") (CX:=λ_=>CX0) (sp:=λw=>spLaw (K w.params)) hn (by decide) md ⟨rfl,by decide,by decide⟩ (λ_ _ z=>z) F (λ_ _ a ns hl _ hS=>⟨a,ns,rfl,hS,hl,λ_=>rfl⟩) λ_ _ _ _ _ z=>z
end K21
end
section
set_option Elab.async false
set_option linter.all false
open PySem PySem.W PySem.W.X PyProof.Rows
def PySem.W.Fast.tw1527411097806335159:Unit:=()
def PySem.W.Fast.tw15825779877645533392:Unit:=()
def PySem.W.Fast.tw4662678184171461633:Unit:=()
def PySem.W.Fast.tw7716121912115134184:Unit:=()
def PySem.W.Fast.tw9732301132056715737:Unit:=()
def PySem.W.Fast.tw7061866925408949027:Unit:=()
def PySem.W.Fast.tw6186105653912712746:Unit:=()
def PySem.W.Fast.tw4863538010117783223:Unit:=()
def PySem.W.Fast.tw16152257111187970797:Unit:=()
def PySem.W.Fast.tw355279368529071160:Unit:=()
def PySem.W.Fast.tw3575886139704934339:Unit:=()
def PySem.W.Fast.tw14360149165247260241:Unit:=()
def PySem.W.Fast.tw2255810757011469841:Unit:=()
def PySem.W.Fast.tw7967063219415667884:Unit:=()
def PySem.W.Fast.tw8282906191872853286:Unit:=()
def PySem.W.Fast.tw2119988397453453420:Unit:=()
def PySem.W.Fast.tw3920676647865959355:Unit:=()
def PySem.W.Fast.tw15890785573773193180:Unit:=()
def PySem.W.Fast.tw8435718075309159281:Unit:=()
def PySem.W.Fast.tw4418707595673383656:Unit:=()
def PySem.W.Fast.tw11565901631739601586:Unit:=()
def PySem.W.Fast.tw4714705472356115419:Unit:=()
set_option maxRecDepth 100000 in
set_option maxHeartbeats 0 in
theorem PySem.Challenge.cw_fivehues_k12_faces_and_pieces_holds : PySem.Challenge.rw_fivehues_k12_faces_and_pieces.Holds := by
 w_on;o_law;z_head;(case hw=>w_witness2)
 k_fill
 intro w s0 s1 mg mb G y fa o pm cd doc dV kV ho hd hcd hD hmg hg args vals as L hpre hlay hrd hwl hlo
 z_open y L KX ZH ZN ZT
 refine K21.walk (l:=PySem.Challenge.rw_fivehues_k12_faces_and_pieces) rfl rfl ?F w s0 s1 mg mb G KX fa o pm cd doc dV kV ho hd hcd hD hmg hg args vals as hpre hlay hrd hwl hlo
 case F =>
  clear KX ZH ZN ZT L y G hmg hg hpre hlay hrd hwl hlo ho hd hcd hD
  intro w mg fa h KX G hmg
  refine' K21.all_mk KX G hmg ?_ ?_ ?_ ?_ ?_ ?_ ?_ ?_ ?_ ?_ ?_ ?_ ?_ ?_ ?_ ?_ ?_ ?_ ?_ ?_ ?_ ?_ ?_ ?_ ?_ ?_ ?_ ?_ ?_ ?_ ?_ ?_ ?_ ?_ ?_ ?_ ?_ ?_ ?_ ?_ ?_ ?_ ?_ ?_ ?_ ?_ ?_ ?_ ?_ ?_ ?_ ?_ ?_ ?_ ?_ ?_ ?_ ?_ ?_ ?_ ?_ ?_ ?_ ?_ ?aC ?_ ?_ ?_ ?_ ?_ ?_ ?_ ?_ ?_ ?_ ?_ ?_ ?_ ?_ ?_ ?_ ?_ ?_ ?_ ?_ ?_ ?_ ?_
  (case aC=>k_is)
  all_goals(try first|k_is|kit_is|kts_exm|k_exc|exact⟨_,L2.fun_mk (by k_is) (by k_is) (by k_is)⟩)
end
