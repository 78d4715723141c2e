import PyProof.Rows.All
import KE.KDictOf
import KE.KDictSum
import KE.KEqDict
import KE.KSortTup
import KE.KTryMore
import KE.RegKIsAll
import KE.RegKTryMore
import Lean
import OpenK.AllK
import PyProof.DictUpdate
import PyProof.EqAt
import PyProof.EqKinds
import PyProof.NsDelKeeps
import PyProof.Rows.StrMadeLen
import PyProof.SliceStr2
import PyProof.StrLaws
import PyProof.TupleCall
import Wide.All
import Wide.FinOn
import PySem.Challenge.RW_fivehues_k72_rings_of_a_tree
set_option Elab.async false
set_option linter.all false
set_option maxRecDepth 100000
set_option maxHeartbeats 4000000
abbrev Qa:=@List.length_map
abbrev Qb:=@List.mem_singleton
abbrev Qc:=@List.getElem?_eq_getElem
abbrev Qd:=@List.mem_append
abbrev Qe:=@List.mem_cons_self
abbrev Qf:=@PySem.Heap.get?_push_of_some
abbrev Qg:=@Nat.le_refl
abbrev Qh:=@List.mem_cons
abbrev Qi:=@List.mem_cons_of_mem
abbrev Qj:=@List.length_append
abbrev Qk:=@List.mem_append_right
abbrev Ql:=@List.map_cons
abbrev Qm:=@List.mem_map
abbrev Qn:=@List.mem_append_left
abbrev Qo:=@List.take_succ_eq_append_getElem
abbrev Qp:=@List.getElem_mem
abbrev Qq:=@List.size_toArray
abbrev Qr:=@PySem.Heap.lt_size
abbrev Qs:=@List.map_append
abbrev Qt:=@List.getElem?_map
abbrev Qu:=@List.append_assoc
abbrev Qv:=@Option.some.inj
abbrev Qw:=@PySem.Heap.get?_push_size
abbrev Qx:=@PySem.F.plainAttrs_list
abbrev Qy:=@List.getD_eq_getElem?_getD
abbrev Qz:=@List.take_of_length_le
abbrev Za:=@List.nodup_append
abbrev Zb:=@List.nodup_cons
abbrev Zc:=@Bool.false_ne_true
abbrev Zd:=@PySem.PassesOwn.never
abbrev Ze:=@List.getElem?_eq_some_iff
abbrev Zf:=@List.length_cons
abbrev Zg:=@PySem.W.mg_of
abbrev Zh:=@Int.eq_ofNat_of_zero_le
abbrev Zi:=@Ne.symm
abbrev Zj:=@Nat.ne_of_lt
abbrev Zk:=@Nat.le_trans
abbrev Zl:=@PySem.F.type_list_append
abbrev Zm:=@PySem.F.slot_list_append
abbrev Zn:=@List.length_take
abbrev Zo:=@PySem.boot_len
abbrev Zp:=@Nat.zero_le
abbrev Zq:=@List.getElem_of_mem
abbrev Zr:=@List.map_map
abbrev Zs:=@Nat.lt_of_lt_of_le
abbrev Zt:=@List.nodup_nil
abbrev Zu:=@List.getElem_map
abbrev Zv:=@PyProof.Rows.boot_isinstance
abbrev Zw:=@List.append_nil
abbrev Zx:=@List.length_singleton
abbrev Zy:=@List.Perm.append_left
abbrev Zz:=@PySem.W.mg_none_of
abbrev Ya:=@Nat.lt_succ_self
abbrev Yb:=@List.sum_cons
abbrev Yc:=@List.cons_append
abbrev Yd:=@PySem.Heap.get?_update_other
abbrev Yf:=@PySem.Paired.length
abbrev Yh:=@List.mem_range
abbrev Yi:=@Array.perm_iff_toList_perm
abbrev Yj:=@List.filter_cons_of_pos
abbrev Yl:=@List.filter_cons_of_neg
abbrev Ym:=@Nat.lt_irrefl
abbrev Yn:=@Array.toList_append
abbrev Yo:=@List.mem_of_getElem?
abbrev Yp:=@PyProof.Rows.boot_sorted
abbrev Yq:=@Nat.ne_of_gt
abbrev Yr:=@List.mem_flatten
abbrev Ys:=@List.mem_of_mem_take
abbrev Yu:=@Bool.eq_iff_iff
abbrev Yv:=@List.length_drop
abbrev Yw:=@List.any_eq_true
abbrev Yx:=@List.take_append_drop
abbrev Yy:=@List.length_range
abbrev Yz:=@List.pairwise_singleton
abbrev Wa:=@List.map_congr_left
abbrev Wc:=@List.perm_append_comm
abbrev Wd:=@List.mem_of_mem_drop
abbrev We:=@List.getElem_inj
abbrev Wf:=@PySem.Obj.data_mapFields
abbrev Wg:=@Nat.lt_trans
abbrev Wh:=@List.lt_irrefl
abbrev Wi:=@PySem.Around.under_plainId
abbrev Wj:=@PySem.mem_of_lookup
abbrev Wk:=@Array.length_toList
abbrev Wl:=@PySem.Heap.size_push
abbrev Wm:=@PySem.F.slot_tuple_iterator_next
abbrev Wn:=@PySem.Heap.SameBut.update
abbrev Wo:=@PySem.F.called_set
abbrev Wp:=@Nat.le_add_right
abbrev Wq:=@List.filter_append
abbrev Wr:=@List.append_of_mem
abbrev Ws:=@Int.toNat_natCast
abbrev Wu:=@List.nil_append
abbrev Wv:=@List.length_pos_iff
abbrev Ww:=@Nat.le_of_lt
abbrev Wx:=@List.find?_cons_of_pos
abbrev Wy:=@List.find?_cons_of_neg
abbrev Wz:=@Array.getD_eq_getD_getElem?
abbrev Ua:=@List.map_drop
abbrev Ub:=@List.lookup_cons
abbrev Uc:=@PySem.F.slot_dict_keyiterator_next
abbrev Ud:=@Nat.mod_lt
abbrev Ue:=@List.Nodup.sublist
abbrev Uf:=@List.getElem?_eq_none
abbrev Ug:=@Array.getElem?_toList
abbrev Uh:=@List.pairwise_iff_getElem
abbrev Ui:=@List.mem_filter
abbrev Uj:=@List.length_set
abbrev Uk:=@List.length_nil
abbrev Ul:=@Nat.lt_succ_of_lt
abbrev Um:=@List.getElem_toArray
abbrev Uo:=@PySem.Heap.get?_update_self
abbrev Uq:=@List.map_take
abbrev Ur:=@List.idxOf_lt_length_iff
abbrev Us:=@List.length_reverse
abbrev Ut:=@PySem.F.type_list_index
abbrev Uu:=@PySem.F.slot_list_index
abbrev Uv:=@Sum.inr.inj
abbrev Uw:=@PyProof.Rows.boot_list
abbrev Ux:=@List.pairwise_map
abbrev Uy:=@List.getElem_take
abbrev Uz:=@Prod.mk.inj
abbrev Ja:=@List.getElem?_append_right
abbrev Jb:=@PyProof.Rows.KeyOrd.kle_trans
abbrev Jc:=@PySem.Obj.isFreed_of_fields
abbrev Jd:=@List.all_eq_true
abbrev Je:=@PySem.F.type_list_insert
abbrev Jf:=@PySem.F.slot_list_insert
abbrev Jg:=@List.find?_cons
abbrev Jh:=@List.ne_nil_of_mem
abbrev Ji:=@List.getElem_range
abbrev Jj:=@Int.emod_lt_of_pos
abbrev Jk:=@Nat.le_succ
abbrev Jl:=@List.reverse_perm
abbrev Jm:=@List.length_pos_of_mem
abbrev Jn:=@Bool.not_eq_true'
abbrev Jo:=@Array.toList_push
abbrev Jp:=@List.singleton_append
abbrev Jq:=@Bool.and_eq_true
abbrev Jr:=@List.perm_cons_erase
abbrev Js:=@Array.toList_reverse
abbrev Jt:=@List.idxOf_cons
abbrev Ju:=@List.foldl_cons
abbrev Jv:=@PyProof.Rows.KeyOrd.kle_refl
abbrev Jw:=@Int.emod_nonneg
abbrev Jx:=@List.perm_iff_count
abbrev Jy:=@List.getElem_set_ne
abbrev Jz:=@List.flatten_append
abbrev Ka:=@List.filter_sublist
abbrev Kb:=@PyProof.Rows.callWith_type1
abbrev Kc:=@PySem.W.callWith_K
abbrev Kd:=@Prod.ext
abbrev Ke:=@Nat.lt_of_le_of_lt
abbrev Kf:=@List.getElem_idxOf
abbrev Kg:=@Bool.false_eq_true
abbrev Kh:=@Array.getElem?_eq_some_iff
abbrev Ki:=@PyProof.Rows.KeyOrd.kle_of_klt
abbrev Kj:=@List.extract_eq_take_drop
abbrev Kk:=@List.drop_eq_getElem_cons
abbrev Kl:=@PySem.F.args_tuple_iterator_next_1
abbrev Km:=@Decidable.byContradiction
abbrev Kn:=@Array.getElem?_eq_getElem
abbrev Ko:=@Nat.lt_of_succ_lt
abbrev Kp:=@List.take_sublist
abbrev Kq:=@List.reverse_cons
abbrev Kr:=@List.flatten_cons
abbrev Ks:=@List.count_append
abbrev Kt:=@PySem.Heap.SameBut.extBut
abbrev Ku:=@List.any_cons
abbrev Kv:=@PySem.W.KasT.kasWp_bind
abbrev Kw:=@PySem.F.entry_tuple_iterator_next
abbrev Kx:=@Nat.succ_ne_self
abbrev Ky:=@List.nodup_range
abbrev Kz:=@Array.toList_map
abbrev Xa:=@Array.toList_inj
abbrev Xb:=@List.map_nil
abbrev Xc:=@Int.zero_add
abbrev Xd:=@PySem.Obj.cls_mapFields
abbrev Xe:=@List.range_succ
abbrev Xf:=@List.filter_nil
abbrev Xg:=@List.count_cons
abbrev Xh:=@PySem.F.slot_dict_get
abbrev Xi:=@PyProof.Rows.boot_min
abbrev Xj:=@List.mem_of_mem_erase
abbrev Xk:=@List.length_replicate
abbrev Xl:=@List.length_filter_le
abbrev Xm:=@PySem.F.slot_list_getattribute
abbrev Na:=PySem.Value→PySem.Shared→Prop
abbrev Nb:=PySem.W.Frag
abbrev Nc:=List (PySem.Addr×PySem.Obj)
abbrev Nd:=PySem.Addr
abbrev Nf:=List PySem.Str
abbrev Ng:=PySem.Str→Option PySem.Value
abbrev Nh:=PySem.Shared
abbrev Ni:=List PySem.Value
abbrev Nj:=PySem.Program
abbrev Nk:=PySem.World
abbrev Nl:=List PySem.Addr
abbrev Nm:=PySem.Heap
abbrev Nn:=PySem.Str→Option PySem.Str
abbrev No:=PySem.Around
abbrev Np:=List PySem.Expr
abbrev Nq:=PySem.FuncData
abbrev Nr:=List (Option Nat)
abbrev Nt:=PySem.Str→List PySem.Str
abbrev Nu:=PySem.Result→PySem.Shared→Prop
abbrev Nv:=List (PySem.Str×PySem.Str)
abbrev Nw:=PySem.Str→PySem.Str
section
set_option Elab.async false
inductive Ex1{T0:Sort _}(P:T0→Prop):Prop
 |mk (x0:T0) (h:P x0):Ex1 P
inductive Ex2{T0:Sort _}{T1:Sort _}(P:T0→T1→Prop):Prop
 |mk (x0:T0) (x1:T1) (h:P x0 x1):Ex2 P
inductive Ex3{T0:Sort _}{T1:Sort _}{T2:Sort _}(P:T0→T1→T2→Prop):Prop
 |mk (x0:T0) (x1:T1) (x2:T2) (h:P x0 x1 x2):Ex3 P
inductive Ex4{T0:Sort _}{T1:Sort _}{T2:Sort _}{T3:Sort _}(P:T0→T1→T2→T3→Prop):Prop
 |mk (x0:T0) (x1:T1) (x2:T2) (x3:T3) (h:P x0 x1 x2 x3):Ex4 P
inductive Ex5{T0:Sort _}{T1:Sort _}{T2:Sort _}{T3:Sort _}{T4:Sort _}(P:T0→T1→T2→T3→T4→Prop):Prop
 |mk (x0:T0) (x1:T1) (x2:T2) (x3:T3) (x4:T4) (h:P x0 x1 x2 x3 x4):Ex5 P
inductive Ex6{T0:Sort _}{T1:Sort _}{T2:Sort _}{T3:Sort _}{T4:Sort _}{T5:Sort _}(P:T0→T1→T2→T3→T4→T5→Prop):Prop
 |mk (x0:T0) (x1:T1) (x2:T2) (x3:T3) (x4:T4) (x5:T5) (h:P x0 x1 x2 x3 x4 x5):Ex6 P
inductive Ex7{T0:Sort _}{T1:Sort _}{T2:Sort _}{T3:Sort _}{T4:Sort _}{T5:Sort _}{T6:Sort _}(P:T0→T1→T2→T3→T4→T5→T6→Prop):Prop
 |mk (x0:T0) (x1:T1) (x2:T2) (x3:T3) (x4:T4) (x5:T5) (x6:T6) (h:P x0 x1 x2 x3 x4 x5 x6):Ex7 P
structure Aj2(p0 p1:Prop):Prop where
 h0:p0
 h1:p1
structure Aj3(p0 p1 p2:Prop):Prop where
 h0:p0
 h1:p1
 h2:p2
structure Aj4(p0 p1 p2 p3:Prop):Prop where
 h0:p0
 h1:p1
 h2:p2
 h3:p3
structure Aj5(p0 p1 p2 p3 p4:Prop):Prop where
 h0:p0
 h1:p1
 h2:p2
 h3:p3
 h4:p4
structure Aj6(p0 p1 p2 p3 p4 p5:Prop):Prop where
 h0:p0
 h1:p1
 h2:p2
 h3:p3
 h4:p4
 h5:p5
structure Aj7(p0 p1 p2 p3 p4 p5 p6:Prop):Prop where
 h0:p0
 h1:p1
 h2:p2
 h3:p3
 h4:p4
 h5:p5
 h6:p6
structure Aj8(p0 p1 p2 p3 p4 p5 p6 p7:Prop):Prop where
 h0:p0
 h1:p1
 h2:p2
 h3:p3
 h4:p4
 h5:p5
 h6:p6
 h7:p7
structure Aj9(p0 p1 p2 p3 p4 p5 p6 p7 p8:Prop):Prop where
 h0:p0
 h1:p1
 h2:p2
 h3:p3
 h4:p4
 h5:p5
 h6:p6
 h7:p7
 h8:p8
def zar1{a b:Nat}(h:a<b):b-(a+1)<b-a:=Nat.sub_lt_sub_left h (Ya a)
def zar3{a b:Nat}(h:a≤b)(k:¬a<b):a=b:=Nat.le_antisymm h (Nat.le_of_not_lt k)
def zar4{a b:Nat}(h:a≤b):a+1≤b+1:=Nat.succ_le_succ h
def zar6{a b c:Nat}(e:a=b)(h:c<b):c<a:=e▸h
def zar7{a b c:Nat}(e:a=b)(h:c<a):c<b:=e▸h
def zar8{a b:Nat}(h:(a:Int)<(b:Int)):a<b:=Int.ofNat_lt.mp h
def zar9{a b:Nat}(h:a<b):(a:Int)<(b:Int):=Int.ofNat_lt.mpr h
def zar10{a b:Nat}(h:a<b)(k:b≤a):False:=Ym _ (Zs h k)
def zd7{a b c:Nat}(h:a≤b)(e:a=c):c≤b:=e▸h
def zar16{a b:Nat}(h:a≤b):a≤b+1:=Nat.le_succ_of_le h
end
section
set_option Elab.async false
set_option linter.all false
set_option maxRecDepth 100000
namespace L2
open PySem PySem.Spec PyProof.Rows
abbrev Key:=Sum Int Str
def keyIs:Key→Value→Bool
 |.inl k,v=>Value.isInt k v
 |.inr x,v=>Value.isStrOf x v
def keyH(w:Nk):Key→Int
 |.inl k=>hashInt k
 |.inr x=>hashStr w x
theorem zbd:∀{k:Key} {v:Value},keyIs k v=true→(∃i t,k=Sum.inl i∧v=Value.int i t)∨(∃x t,k=Sum.inr x∧v=Value.str x t)
 |.inl i,v,h=>by
  obtain⟨t,e⟩:=Value.isInt_shape (k:=i) (v:=v) h
  exact .inl ⟨i,t,rfl,e⟩
 |.inr x,v,h=>by
  obtain⟨t,e⟩:=Value.isStrOf_shape (x:=x) (v:=v) h
  exact .inr ⟨x,t,rfl,e⟩
def keyIs_int(i:Int)(t:Tok):keyIs (.inl i) (.int i t)=true:=by simp[keyIs,Value.isInt]
def keyIs_str(x:Str)(t:Tok):keyIs (.inr x) (.str x t)=true:=by simp[keyIs,Value.isStrOf]
def key_ll(a b:Int):decide ((Sum.inl a:Key)=Sum.inl b)=(a==b):=by
 by_cases e:a=b
 ·subst e;simp
 ·have h:¬ (Sum.inl a:Key)=Sum.inl b:=fun q=>e (Sum.inl.inj q)
  rw[decide_eq_false h]
  exact(beq_eq_false_iff_ne.mpr e).symm
def key_rr(a b:Str):decide ((Sum.inr a:Key)=Sum.inr b)=decide (a=b):=by
 by_cases e:a=b
 ·subst e;simp
 ·have h:¬ (Sum.inr a:Key)=Sum.inr b:=fun q=>e (Uv q)
  rw[decide_eq_false h,decide_eq_false e]
def key_lr(a:Int)(b:Str):decide ((Sum.inl a:Key)=Sum.inr b)=false:=decide_eq_false (λq=>nomatch q)
def key_rl(a:Str)(b:Int):decide ((Sum.inr a:Key)=Sum.inl b)=false:=decide_eq_false (λq=>nomatch q)
def zaq(prog:Nj)(w:Nk):PySem.KeyKind prog w Key where
 is:=keyIs
 hash:=keyH w
 inj:=λv a b ha hb=>by
  rcases zbd ha with⟨i,t,rfl,rfl⟩ | ⟨x,t,rfl,rfl⟩
  ·rcases zbd hb with ⟨j,u,rfl,e⟩ | ⟨y,u,rfl,e⟩
   ·injection e with e1 _;rw[e1]
   ·exact nomatch e
  ·rcases zbd hb with ⟨j,u,rfl,e⟩ | ⟨y,u,rfl,e⟩
   ·exact nomatch e
   ·injection e with e1 _;rw[e1]
 byValue:=λk v h=>by
  rcases zbd h with⟨i,t,rfl,rfl⟩ | ⟨x,t,rfl,rfl⟩<;>rfl
 pyHash:=λhv h=>by
  rcases zbd hv with⟨i,t,rfl,rfl⟩ | ⟨x,t,rfl,rfl⟩
  ·exact wpAny_pyHash_int h
  ·exact wpAny_pyHash_str h
 eqBool:=λhu hv h=>by
  rcases zbd hu with⟨i,t,rfl,rfl⟩ | ⟨x,t,rfl,rfl⟩
  ·rcases zbd hv with ⟨j,u,rfl,rfl⟩ | ⟨y,u,rfl,rfl⟩
   ·rw[key_ll]at h;exact wpAny_eqBool_int h
   ·rw[key_lr]at h;exact SeqAt.EqAt.int_str i t y u _ _ _ _ h
  ·rcases zbd hv with ⟨j,u,rfl,rfl⟩ | ⟨y,u,rfl,rfl⟩
   ·rw[key_rl]at h;exact SeqAt.EqAt.str_int x t j u _ _ _ _ h
   ·rw[key_rr]at h;exact wpAny_eqBool_str h
 «strs»:=λk x t v h=>by
  rcases zbd h with⟨i,u,rfl,e⟩ | ⟨y,u,rfl,e⟩
  ·exact nomatch e
  ·injection e with e1 _
   subst e1
   cases v<;>rfl
def mixKind_int(prog:Nj)(w:Nk)(i:Int)(t:Tok):(zaq prog w).is (.inl i) (.int i t)=true:=keyIs_int i t
def zgf(prog:Nj)(w:Nk)(x:Str)(t:Tok):(zaq prog w).is (.inr x) (.str x t)=true:=keyIs_str x t
end L2
namespace L2
open PySem PySem.Spec PyProof.Rows
inductive V where
 |non | bl (b:Bool) | int (i:Int) | str (x:Str) | byt (b:Array UInt8) | flt (b:UInt64) | ref (a:Nd) | ty (n:String)
 deriving DecidableEq
def RelV:V→Value→Prop
 |.non,u=>u=Value.none
 |.bl b,u=>u=Value.bool b
 |.int i,u=>∃t,u=Value.int i t
 |.str x,u=>∃t,u=Value.str x t
 |.byt b,u=>∃t,u=Value.bytes b t
 |.flt b,u=>∃t,u=Value.float b t
 |.ref a,u=>u=Value.ref a
 |.ty n,u=>u=Value.type n
abbrev Vals:List V→List Value→Prop:=Paired RelV
def Vals.length{xs:List V}{us:Ni}(r:Vals xs us):xs.length=us.length:=Yf r
theorem Vals.get:∀{xs:List V} {us:Ni} {i:Nat} {x:V},Vals xs us→xs[i]?=some x→∃u,us[i]?=some u∧RelV x u
 |_,_,_,_,.nil,e=>by simp at e
 |_,_,0,_,.cons r _,e=>by simp at e;subst e;exact⟨_,rfl,r⟩
 |_,_,i+1,x,.cons _ t,e=>by
  obtain⟨u,h1,h2⟩:=Vals.get (i:=i) (x:=x) t (by simpa using e)
  exact⟨u,by simpa using h1,h2⟩
theorem Vals.set{x:V}{u:Value}(r:RelV x u):∀{xs:List V} {us:Ni} (i:Nat),Vals xs us→Vals (xs.set i x) (us.set i u)
 |_,_,_,.nil=>.nil
 |_,_,0,.cons _ t=>.cons r t
 |_,_,i+1,.cons q t=>.cons q (Vals.set r i t)
theorem Vals.append:∀{xs ys:List V} {us ws:Ni},Vals xs us→Vals ys ws→Vals (xs++ys) (us++ws)
 |_,_,_,_,.nil,s=>s
 |_,_,_,_,.cons r t,s=>.cons r (Vals.append t s)
theorem Vals.take:∀{xs:List V} {us:Ni} (n:Nat),Vals xs us→Vals (xs.take n) (us.take n)
 |_,_,0,_=>.nil
 |_,_,_+1,.nil=>.nil
 |_,_,n+1,.cons r t=>.cons r (Vals.take n t)
theorem Vals.drop:∀{xs:List V} {us:Ni} (n:Nat),Vals xs us→Vals (xs.drop n) (us.drop n)
 |_,_,0,r=>r
 |_,_,_+1,.nil=>.nil
 |_,_,n+1,.cons _ t=>Vals.drop n t
def RelO:Option V→Option Value→Prop
 |some v,some u=>RelV v u
 |none,none=>True
 |_,_=>False
def KV{κ:Type}:List (κ×V)→List (κ×Value)→Prop:=Paired λ(p:κ×V) (q:κ×Value)=>p.1=q.1∧RelV p.2 q.2
def kV:Key→V
 |.inl i=>.int i
 |.inr x=>.str x
inductive HO where
 /-- a list -/
 |lst (xs:List V)
 /-- a tuple (never changes) -/
 |tup (xs:List V)
 /-- a dict whose keys are ints and texts;one whose keys are tuples of ints and texts (the empty one is both) -/
 |dK (kvs:List (Key×V)) | dT (kvs:List (List Key×V))
 /-- a set of ints: a7 members,a7 size -/
 |set (S:Int→Bool) (n:Nat)
 /-- an instance of the class at C,a7 dict at dx,a7 attributes -/
 |ins (C dx:Nd) (fs:List (Str×V))
 /-- the dict of the instance at x -/
 |own (x:Nd)
 /-- the dict of an exception -/
 |xd (fs:List (Str×V))
 /-- a bound method,f of x -/
 |met (f x:Nd)
 /-- a range object lo,lo+1,.. below hi -/
 |rng (lo hi:Int)
 /-- a thing that is known to the object (the script;a dict while a loop walks it): read,never written while it is so -/
 |frz (o:Obj) (u:HO)
 /-- a code object's table -/
 |tbl (ps:Array Value)
 /-- any other thing,by what is true of a7 one object (a def of one's own: SetO a S n:=HO.ext λh=>..) -/
 |ext (φ:Heap→Prop)
abbrev Hp:=Addr→Option HO
def upd(H:Hp)(a:Nd)(o:HO):Hp:=λb=>if b=a then some o else H b
def zac{H:Hp}{a:Nd}{o:HO}:upd H a o a=some o:=by unfold upd;rw[if_pos rfl]
def zad{H:Hp}{a b:Nd}{o:HO}(h:b≠a):upd H a o b=H b:=by unfold upd;rw[if_neg h]
def upd_upd{H:Hp}{a:Nd}{o u:HO}:upd (upd H a o) a u=upd H a u:=by
 funext b;unfold upd;split<;>rfl
def zbc{H:Hp}{a b:Nd}{o u:HO}(h:H a=some o)(h':H b=some u)(d:o≠u):a≠b:=by
 intro e;subst e;rw[h]at h';exact d (Qv h')
def zab{H:Hp}{a b:Nd}{o:HO}(h:H a=some o)(h':H b=none):a≠b:=by
 intro e;subst e;rw[h]at h';cases h'
section
variable(P:Nj)(w:Nk)
def zbr(H:Hp)(h:Nm)(a:Nd):HO→Prop
 |.lst xs=>xs.length≤sizeLine∧∃(a7:Ni) (n:Nat),Vals xs a7∧h.get? a=some {cls:=.type "list",data:=.seq a7.toArray n}
 |.tup xs=>xs.length≤sizeLine∧∃a7:List Value,Vals xs a7∧IsTup h a a7.toArray
 |.dK kvs=>kvs.length≤sizeLine∧(a==sysModules)=false∧∃vs,KV kvs vs∧h.DictOf (zaq P w) a vs
 | .dT kvs=>kvs.length≤sizeLine∧(a == sysModules)=false∧∃ xs:List (List Key×Addr×Value),
   Paired (λ(p:List Key×V) (q:List Key×Addr×Value)=>p.1=q.1∧H q.2.1=some (.tup (p.1.map kV))∧RelV p.2 q.2.2) kvs xs ∧
   ∃o es ep,h.get? a=some o∧o.ExactDict∧o.data=.dict es ep∧es.toList=xs.map (entryOfKey (tupleKind (zaq P w)))∧(xs.map (·.1)).Nodup
 |.set S n=>h.SetOf (intKind P w) a S n
 | .ins C dx fs=>H dx=some (.own a)∧fs.length≤1000∧dx≠a∧h.get? a=some (PySem.W.instObj C dx) ∧
   ∃mA,h.Ns1 dx mA∧(∀f,RelO (fs.lookup f) (mA f))∧PySem.Within mA (fs.map (·.1))
 |.own _=>∃o,h.get? a=some o
 |.xd fs=>∃mA,h.Ns1 a mA∧∀f,RelO (fs.lookup f) (mA f)
 |.rng lo hi=>∃t u v,h.get? a=some {cls:=.type "range",data:=.fields #[.int lo t,.int hi u,.int 1 v]}
 |.frz o u=>h.get? a=some o∧zbr H h a u
 |.tbl ps=>h.get? a=some {cls:=.none,data:=.fields ps}
 |.met f x=>h.get? a=some (PySem.W.methodObj (.ref f) (.ref x))
 |.ext φ=>φ h∧(∃o,h.get? a=some o)∧∀h1 h2:Heap,φ h1→(∀o,h1.get? a=some o→h2.get? a=some o)→φ h2
def HOk(H:Hp)(h:Nm):Prop:=∀a o,H a=some o→zbr P w H h a o
end
section
variable{P:Nj}{w:Nk}{H H':Hp}{h h':Nm}{a:Nd}{o:HO}
def zbr.lt(x:zbr P w H h a o):a<h.objs.size:=by
 cases o with
 |lst xs=>obtain⟨_,_,_,_,e⟩:=x;exact Qr e
 |tup xs=>obtain⟨_,_,_,p⟩:=x;exact p.lt
 |dK kvs=>obtain⟨_,_,_,_,o,_,_,e,_⟩:=x;exact Qr e
 |dT kvs=>obtain⟨_,_,_,_,o,_,_,e,_⟩:=x;exact Qr e
 |set S n=>obtain⟨o,_,_,_,e,_⟩:=x;exact Qr e
 |ins C dx fs=>obtain⟨_,_,_,e,_⟩:=x;exact Qr e
 |own y=>obtain⟨_,e⟩:=x;exact Qr e
 |xd fs=>obtain⟨_,⟨_,_,_,e,_⟩,_⟩:=x;exact Qr e
 |rng lo hi=>obtain⟨_,_,_,e⟩:=x;exact Qr e
 |frz ob u=>obtain⟨e,_⟩:=x;exact Qr e
 |tbl ps=>exact Qr (show h.get? a=some _ from x)
 |met f y=>exact Qr (show h.get? a=some _ from x)
 |ext φ=>obtain⟨_,⟨_,e⟩,_⟩:=x;exact Qr e
theorem Paired.mapP{α β:Type}{F G:α→β→Prop}:∀{l₁:List α} {l₂:List β},Paired F l₁ l₂→(∀a b,F a b→G a b)→Paired G l₁ l₂
 |_,_,.nil,_=>.nil
 |_,_,.cons r t,f=>.cons (f _ _ r) (Paired.mapP t f)
def Paired.imp'{α β:Type}{F G:α→β→Prop}(f:∀a b,F a b→G a b){l₁:List α}{l₂:List β}(r:Paired F l₁ l₂):Paired G l₁ l₂:=Paired.mapP r f
def zbr.stay(x:zbr P w H h a o)(k:∀b u,(b=a∨H b=some (.own a))→h.get? b=some u→h'.get? b=some u)(ho:∀b,H b=some (.own a)→H' b=some (.own a))(ht:∀b xs,H b=some (.tup xs)→H' b=some (.tup xs)):zbr P w H' h' a o:=by
 induction o with
 |lst xs=>obtain⟨z,a7,n,r,e⟩:=x;exact⟨z,a7,n,r,k _ _ (.inl rfl) e⟩
 |tup xs=>obtain⟨z,a7,r,ob,e,c⟩:=x;exact⟨z,a7,r,ob,k _ _ (.inl rfl) e,c⟩
 |dK kvs=>obtain⟨z,y,vs,r,ob,es,ep,e,c⟩:=x;exact⟨z,y,vs,r,ob,es,ep,k _ _ (.inl rfl) e,c⟩
 |dT kvs =>
  obtain⟨z,y,xs,r,ob,es,ep,e,c⟩:=x
  exact⟨z,y,xs,Paired.mapP r λp q z=>⟨z.1,ht _ _ z.2.1,z.2.2⟩,ob,es,ep,k _ _ (.inl rfl) e,c⟩
 |set S n=>obtain⟨ob,es,ep,t,e,c⟩:=x;exact⟨ob,es,ep,t,k _ _ (.inl rfl) e,c⟩
 |ins C dx fs =>
  obtain⟨d,z,ne,e,mA,⟨od,es,ep,e2,c⟩,r⟩:=x
  exact⟨ho _ d,z,ne,k _ _ (.inl rfl) e,mA,⟨od,es,ep,k _ _ (.inr d) e2,c⟩,r⟩
 |own y=>obtain⟨ob,e⟩:=x;exact⟨ob,k _ _ (.inl rfl) e⟩
 |xd fs=>obtain⟨mA,⟨od,es,ep,e,c⟩,r⟩:=x;exact⟨mA,⟨od,es,ep,k _ _ (.inl rfl) e,c⟩,r⟩
 |rng lo hi=>obtain⟨t,u,v,e⟩:=x;exact⟨t,u,v,k _ _ (.inl rfl) e⟩
 |frz ob u ih=>obtain⟨e,q⟩:=x;exact⟨k _ _ (.inl rfl) e,ih q⟩
 |tbl ps =>
  have e:h.get? a=some {cls:=.none,data:=.fields ps}:=x
  show h'.get? a=some {cls:=.none,data:=.fields ps}
  exact k a _ (.inl rfl) e
 |met f y =>
  have e:h.get? a=some (PySem.W.methodObj (.ref f) (.ref y)):=x
  show h'.get? a=some (PySem.W.methodObj (.ref f) (.ref y))
  exact k a _ (.inl rfl) e
 |ext φ=>obtain⟨p,⟨o,e⟩,st⟩:=x;exact⟨st _ _ p λo q=>k _ _ (.inl rfl) q,⟨o,k _ _ (.inl rfl) e⟩,st⟩
def HOk.lt(x:HOk P w H h)(e:H a=some o):a<h.objs.size:=(x a o e).lt
def HOk.fresh(x:HOk P w H h)(e:h.objs.size≤a):H a=none:=by
 cases q:H a with
 |none=>rfl
 |some u=>exact absurd (Zs (x.lt q) e) (Ym _)
def HOk.kept(x:HOk P w H h)(k:∀b u,h.get? b=some u→h'.get? b=some u):HOk P w H h':=λa o e =>
 (x a o e).stay (λb u _ q=>k b u q) (λ_ q=>q) λ_ _ q=>q
def HOk.laid(x:HOk P w H h)(k:∀b u,h.get? b=some u→h'.get? b=some u)(hp:h.objs.size≤a)(new:zbr P w (upd H a o) h' a o):HOk P w (upd H a o) h':=λb u e=>by
 have hn:=x.fresh hp
 by_cases hb:b=a
 ·subst hb;rw[zac]at e;cases e;exact new
 ·rw [zad hb] at e
  exact(x b u e).stay (λc v _ q=>k c v q) (λc q=>by rw[zad (zab q hn)];exact q) λc xs q=>by rw[zad (zab q hn)];exact q
end
def Rd(H:Hp)(a:Nd)(u:HO):Prop:=H a=some u∨∃o,H a=some (.frz o u)
def Rd.ok{P:Nj}{w:Nk}{H:Hp}{h:Nm}{a:Nd}{u:HO}(r:Rd H a u)(x:HOk P w H h):zbr P w H h a u:=by
 rcases r with r | ⟨o,r⟩
 ·exact x a u r
 ·obtain ⟨_,q⟩:=x a _ r
  exact q
def Mut:Option HO→Prop
 |some (.lst _)=>True
 |some (.dK _)=>True
 |some (.dT _)=>True
 |some (.set _ _)=>True
 |some (.ins _ _ _)=>True
 |some (.ext _)=>True
 |_=>False
section
variable{P:Nj}{w:Nk}{H:Hp}{h h':Nm}{x e:Nd}{o':HO}
def HOk.write(ok:HOk P w H h)(mu:Mut (H x))(he:e=x∨H e=some (.own x))(k:∀ b u,b≠e→h.get? b=some u→h'.get? b=some u)(lp:∃ u,h'.get? e=some u)(new:zbr P w (upd H x o') h' x o'):HOk P w (upd H x o') h':=λb u q=>by
 have nown:∀c y,H c=some (.own y)→c≠x:=λc y r z=>by subst z;rw[r]at mu;exact mu
 have ntup:∀c xs,H c=some (.tup xs)→c≠x:=λc xs r z=>by subst z;rw[r]at mu;exact mu
 by_cases hb:b=x
 ·subst hb;rw[zac]at q;cases q;exact new
 ·rw [zad hb] at q
  by_cases ko:b=e
  ·have q':H b=some (.own x):=by
    rcases he with z | z
    ·exact absurd (ko.trans z) hb
    ·rw[ko];exact z
   rw[q]at q';cases q'
   obtain⟨v,hv⟩:=lp
   exact⟨v,by rw[ko];exact hv⟩
  ·refine (ok b u q).stay (fun c v hc r=>k c v ?_ r) (fun c r=>by rw [zad (nown c b r)];exact r) fun c xs r=>by rw [zad (ntup c xs r)];exact r
   rcases hc with rfl | hc
   ·exact ko
   ·rintro rfl
    rcases he with z | z
    ·exact nown c b hc z
    ·rw[hc]at z;cases z;exact hb rfl
end
structure Un(fs ex:Nl)(H H':Hp)(h h':Nm):Prop where
 keep:∀b o,h.get? b=some o→H b=none→b∉fs→b∉ex→h'.get? b=some o
 slot:∀b o,h.get? b=some o→H b=none→b∈fs→b∉ex→∃sl,h'.get? b=some {o with slots:=sl}
 free:∀b o,h.get? b=some o→H b=none→b∉ex→H' b=none
 there:∀b o,h.get? b=some o→b∉ex→∃o',h'.get? b=some o'
 tups:∀b xs,H b=some (.tup xs)→H' b=some (.tup xs)
 frzs:∀b o u,H b=some (.frz o u)→H' b=some (.frz o u)
 tbls:∀b ps,H b=some (.tbl ps)→∃more,H' b=some (.tbl (ps++more))
section
variable{fs fs' ex ex':Nl}{H H1 H2:Hp}{h h1 h2 h':Nm}{a x e:Nd}{o:HO}
def Un.any(u:Un fs ex H H1 h h1){b:Nd}{ob:Obj}(q:h.get? b=some ob)(n:H b=none)(hx:b∉ex):∃sl,h1.get? b=some {ob with slots:=sl}:=by
 by_cases hb:b∈fs
 ·exact u.slot b ob q n hb hx
 ·exact⟨ob.slots,u.keep b ob q n hb hx⟩
def Un.kept(k:∀b u,h.get? b=some u→h'.get? b=some u):Un fs ex H H h h' :=
 ⟨λb ob q _ _ _=>k b ob q,λb ob q _ _ _=>⟨ob.slots,k b ob q⟩,λ_ _ _ n _=>n,λb ob q _=>⟨ob,k b ob q⟩,λ_ _ q=>q,λ_ _ _ q=>q,λ_ ps q=>⟨#[],by rw[q];simp⟩⟩
def Un.refl:Un fs ex H H h h:=Un.kept λ_ _ q=>q
theorem Un.laid(k:∀b u,h.get? b=some u→h'.get? b=some u)(hp:h.objs.size≤a)(hn:H a=none):Un fs ex H (upd H a o) h h' where
 keep:=λb u q _ _ _=>k b u q
 slot:=λb u q _ _ _=>⟨u.slots,k b u q⟩
 free:=λb u q n _=>by rw[zad (Zj (Zs (Qr q) hp))];exact n
 there:=λb u q _=>⟨u,k b u q⟩
 tups:=λb xs q=>by rw[zad (zab q hn)];exact q
 frzs:=λb u xs q=>by rw[zad (zab q hn)];exact q
 tbls:=λb ps q=>⟨#[],by rw[zad (zab q hn),q];simp⟩
def Un.write(mu:Mut (H x))(he:e=x∨H e=some (.own x))(k:∀b u,b≠e→h.get? b=some u→h'.get? b=some u)(lp:∃u,h'.get? e=some u):Un fs ex H (upd H x o) h h':=by
 have hx:∀b,H b=none→b≠x:=λb n z=>by subst z;rw[n]at mu;exact mu
 have hb:∀b,H b=none→b≠e:=λb n z=>by
  subst z
  rcases he with r | r
  ·exact hx b n r
  ·rw[n]at r;cases r
 have hm:∀b u,H b=some u→¬Mut (some u)→b≠x:=λb u q nm z=>by subst z;rw[q]at mu;exact nm mu
 refine⟨λb u q n _ _=>k b u (hb b n) q,λb u q n _ _=>⟨u.slots,k b u (hb b n) q⟩,λb u q n _=>by rw[zad (hx b n)];exact n,λb u q _=>?_,
  λb xs q=>by rw[zad (hm b _ q λz=>z)];exact q,λb u xs q=>by rw[zad (hm b _ q λz=>z)];exact q,λb ps q=>⟨#[],by rw[zad (hm b _ q λz=>z),q];simp⟩⟩
 by_cases ko:b=e
 ·subst ko;exact lp
 ·exact⟨u,k b u ko q⟩
end
def trk(h:Nm)(H:Hp):List Addr:=(List.range h.objs.size).filter λa=>(H a).isSome
def hidT(h:Nm)(H:Hp):Heap:=PySem.W.hideAll h (trk h H)
def hidT_size(h:Nm)(H:Hp):(hidT h H).objs.size=h.objs.size:=PySem.W.hideAll_size _ _
def hidT_get{h:Nm}{H:Hp}{b:Nd}{o:Obj}(e:h.get? b=some o)(n:H b=none):(hidT h H).get? b=some o :=
 PySem.W.hideAll_get _ e λhm=>by
  have q:(H b).isSome=true:=(Ui.mp hm).2
  rw[n]at q;simp at q
def of_hidT{h:Nm}{H:Hp}{b:Nd}{o:Obj}(e:(hidT h H).get? b=some o):h.get? b=some o∧H b=none:=by
 have e':h.get? b=some o:=PySem.W.of_hideAll (trk h H) e
 refine⟨e',?_⟩
 cases q:H b with
 |none=>rfl
 |some x =>
  have hm:b∈trk h H:=Ui.mpr ⟨Yh.mpr (Qr e'),by simp[q]⟩
  have z:(hidT h H).get? b=none:=PySem.W.hideAll_none (trk h H) hm
  rw[z]at e;cases e
end L2
namespace L2
open PySem PySem.Spec PyProof.Rows
structure Mod(K:Nb)(mg:Ng)(base:Nm):Prop where
 kin:K.In base
 glob:base.Ns mainGlobals mg
 blt:∃mb,base.Ns builtinsNs mb∧∀x:Str,x ≠ "__name__" → mb x=bootBuiltins x
 nolimit:base.NoLimit
structure Cx where
 prog:Program
 w:World
 K:PySem.W.Frag
 mg:Str→Option Value
 base:Heap
 A:Around
 N:List Str
 s₀:Shared
 H₀:Hp
 env:Env
 outer:List Env
 stack:List Env
 ex:List Addr
 fn:Str→Bool
 calm:Bool
 pn:List (Addr×Obj)
 xe:Value→Shared→Prop
def frs(l:List Env):List Addr:=l.filterMap (·.frame)
abbrev Cx.fs(X:Cx):List Addr:=frs X.outer
def Vis(sc:Scope)(x:Str):Prop:=sc.names.lookup x=some .local∨sc.names.lookup x=some .cell∨sc.names.lookup x=some .free
def Loc(sc:Scope)(x:Str):Prop:=sc.names.lookup x=some .local∨sc.names.lookup x=some .cell
def Look(env:Env)(h:Nm)(m:Ng)(x:Str)(u:Value):Prop :=
 (env.kindOf x=some .local∧m x=some u)∨((env.kindOf x=some .cell∨env.kindOf x=some .free)∧∃c,env.cells.lookup x=some c∧h.IsCell c (some u))
structure Cx.Ok(X:Cx):Prop where
 mod:Mod X.K X.mg X.base
 kind:X.env.scope.kind=.function
 glob:X.env.globals=mainGlobals
 blt:X.env.builtins=builtinsNs
 above:X.s₀.heap.objs.size≤X.env.locals
 inj:∀x y c,X.env.cells.lookup x=some c→X.env.cells.lookup y=some c→x=y
 has:∀x,(X.env.kindOf x=some .cell∨X.env.kindOf x=some .free)→∃c,X.env.cells.lookup x=some c
 cab:∀x c,X.fn x=true→X.env.cells.lookup x=some c→X.s₀.heap.objs.size≤c
 hd:X.calm=true→X.A.handled=none
 frames:X.A.frames=some X.stack
 stk:X.stack=X.outer∨(X.stack=X.env::X.outer∧X.env.frame=some X.env.locals)
 exf:∀b∈X.ex,b≠X.env.locals∧∀x c,X.env.cells.lookup x=some c→c≠b
 bs:∀b o,X.base.get? b=some o→X.s₀.heap.get? b=some o∧X.H₀ b=none
 bsz:X.base.objs.size≤X.s₀.heap.objs.size
 noex:∀b o,X.base.get? b=some o→b∉X.ex
 exfs:∀b∈X.ex,b∉X.fs
 funs:X.s₀.heap.FunFrames X.base X.outer
 frf:∀b∈X.fs,X.H₀ b=none
structure Inv(X:Cx)(a6:Nc)(σ:List (Option V))(H:Hp)(s:Nh):Prop where
 ok:X.Ok
 os:s.os=X.s₀.os
 bare:AllBare s.gens
 base:Un X.fs X.ex X.H₀ H X.s₀.heap s.heap
 loc:∃m,s.heap.Ns X.env.locals m∧∀(i:Nat) (x:Str) (v:V),X.N[i]?=some x→σ[i]?=some (some v)→Vis X.env.scope x→∃u,RelV v u∧Look X.env s.heap m x u
 cell:∀x c,X.env.cells.lookup x=some c→∃v,s.heap.IsCell c v
 free:H X.env.locals=none
 freeC:∀x c,X.env.cells.lookup x=some c→H c=none
 pin:∀p∈X.pn++a6,s.heap.get? p.1=some p.2∧H p.1=none∧p.1≠X.env.locals∧p.1∉X.fs∧∀v,p.2.data≠.cell v
 hok:HOk X.prog X.w H s.heap
 len:σ.length=X.N.length
section
variable{X:Cx}{a6:Nc}{σ:List (Option V)}{H H':Hp}{s:Nh}{h':Nm}
def Cx.Ok.nofr(ok:X.Ok){b:Nd}{o:Obj}(e:X.base.get? b=some o):b∉X.fs:=λhb=>by
 have:=(ok.funs.mem hb).1
 rw[e]at this;cases this
def Inv.bs(I:Inv X a6 σ H s):∀b o,X.base.get? b=some o→s.heap.get? b=some o∧H b=none:=λb o e =>
 ⟨I.base.keep b o (I.ok.bs b o e).1 (I.ok.bs b o e).2 (I.ok.nofr e) (I.ok.noex b o e),I.base.free b o (I.ok.bs b o e).1 (I.ok.bs b o e).2 (I.ok.noex b o e)⟩
def Inv.bk(I:Inv X a6 σ H s):∀b o,X.base.get? b=some o→s.heap.get? b=some o:=λb o e=>(I.bs b o e).1
def Inv.mod(I:Inv X a6 σ H s):Mod X.K X.mg X.base:=I.ok.mod
def Inv.kIn(I:Inv X a6 σ H s):X.K.In s.heap:=I.ok.mod.kin.keeps I.bk
def Inv.lt(I:Inv X a6 σ H s):X.env.locals<s.heap.objs.size:=let⟨_,hn,_⟩:=I.loc;hn.lt
def Inv.sz(I:Inv X a6 σ H s):X.s₀.heap.objs.size≤s.heap.objs.size:=Zk I.ok.above (Ww I.lt)
def Inv.nofs(I:Inv X a6 σ H s){a:Nd}(h:s.heap.objs.size≤a):a∉X.fs:=λhb=>by
 obtain⟨_,o,ho,_⟩:=I.ok.funs.mem hb
 exact absurd (Zs (Qr ho) (Zk I.sz h)) (Ym _)
def Inv.cne(I:Inv X a6 σ H s):∀x c,X.env.cells.lookup x=some c→c≠X.env.locals:=λx c e z=>by
 obtain⟨v,o,ho,hd⟩:=I.cell x c e
 obtain⟨m,⟨o',es,ep,aw,gH,_⟩,_⟩:=I.loc
 rw[z,aw]at ho;cases ho;rw[gH]at hd;cases hd
def Inv.funs(I:Inv X a6 σ H s):s.heap.FunFrames X.base X.outer:=by
 have all:∀(l:List Env),(∀b∈frs l,b∈X.fs)→X.s₀.heap.FunFrames X.base l→s.heap.FunFrames X.base l:=by
  intro l
  induction l with
  |nil=>intro _ _;trivial
  |cons env r ih =>
   intro hs hl
   obtain⟨hk,⟨L,o,hf,hn,ho,hd⟩,hr⟩:=hl
   have hL:L∈X.fs:=hs L (by unfold frs;rw[List.filterMap_cons,hf];exact List.mem_cons_self)
   obtain⟨sl,e⟩:=I.base.slot L o ho (I.ok.frf L hL) hL λz=>I.ok.exfs L z hL
   exact⟨hk,⟨L,_,hf,hn,e,hd⟩,ih (λb hb=>hs b (by unfold frs;rw[List.filterMap_cons,hf];exact List.mem_cons_of_mem _ hb)) hr⟩
 exact all X.outer (λ_ hb=>hb) I.ok.funs
def Inv.stack(I:Inv X a6 σ H s):s.heap.FunFrames X.base X.stack:=by
 rcases I.ok.stk with e | ⟨e,hf⟩
 ·rw[e];exact I.funs
 ·rw [e]
  obtain⟨m,hn,_⟩:=I.loc
  refine .cons (by rw[I.ok.kind];decide) hf hn ?_ I.funs
  exact Heap.get?_none_of_le (Zk I.ok.bsz I.ok.above)
def Inv.stkSub(I:Inv X a6 σ H s):∀b∈frs X.stack,b∈X.env.locals::X.fs:=λb hb=>by
 rcases I.ok.stk with e | ⟨e,hf⟩
 ·rw[e]at hb;exact Qi _ hb
 ·rw [e] at hb
  unfold frs at hb
  rw[List.filterMap_cons,hf]at hb
  exact hb
def Inv.stkFree(I:Inv X a6 σ H s):∀b∈frs X.stack,H b=none:=λb hb=>by
 rcases Qh.mp (I.stkSub b hb) with e | hb
 ·rw[e];exact I.free
 ·obtain ⟨_,o,ho,_⟩:=I.ok.funs.mem hb
  exact I.base.free b o ho (I.ok.frf b hb) λz=>I.ok.exfs b z hb
def Inv.step{g':Array GenState}{t':Nat}{d':Drawn}{ch:Nl}(I:Inv X a6 σ H s)(gI:∀b∈ch,(b∈X.ex∨X.s₀.heap.objs.size≤b)∧b≠X.env.locals∧(∀x c,X.env.cells.lookup x=some c→c≠b)∧∀p∈X.pn++a6,p.1≠b)(keep:∀b o,b≠X.env.locals→b∉X.fs→b∉ch→s.heap.get? b=some o→H b=none→h'.get? b=some o)(slot:∀b o,b≠X.env.locals→b∈X.fs→b∉ch→s.heap.get? b=some o→H b=none→∃sl,h'.get? b=some {o with slots:=sl})(free:∀b o,b∉ch→s.heap.get? b=some o→H b=none→H' b=none)(there:∀b o,b∉ch→s.heap.get? b=some o→∃o',h'.get? b=some o')(tups:∀b xs,H b=some (.tup xs)→H' b=some (.tup xs))(frzs:∀b o u,H b=some (.frz o u)→H' b=some (.frz o u))(tbls:∀b ps,H b=some (.tbl ps)→∃more,H' b=some (.tbl (ps++more)))(ns:∀m,s.heap.Ns X.env.locals m→h'.Ns X.env.locals m)(hok:HOk X.prog X.w H' h')(hg:AllBare g') :
  Inv X a6 σ H' {s with heap:=h',gens:=g',drawn:=d',toks:=t'}:=by
 have neL:∀b o,X.s₀.heap.get? b=some o→b≠X.env.locals:=λb o e=>Zj (Zs (Qr e) I.ok.above)
 have neC:∀b o,X.s₀.heap.get? b=some o→b∉X.ex→b∉ch:=λb o e hx hb=>by
  rcases(gI b hb).1 with z | z
  ·exact hx z
  ·exact absurd (Zs (Qr e) z) (Ym _)
 have cellK:∀x c,X.env.cells.lookup x=some c→∀v,s.heap.IsCell c v→h'.IsCell c v:=λx c e v ⟨o,ho,hd⟩=>by
  have nch:c∉ch:=λz=>(gI c z).2.2.1 x c e rfl
  by_cases hc:c∈X.fs
  ·obtain ⟨sl,q⟩:=slot c o (I.cne x c e) hc nch ho (I.freeC x c e)
   exact⟨_,q,hd⟩
  ·exact⟨o,keep c o (I.cne x c e) hc nch ho (I.freeC x c e),hd⟩
 refine⟨I.ok,I.os,hg,⟨λb o e n hb hx=>?_,λb o e n hb hx=>?_,λb o e n hx=>?_,λb o e hx=>?_,λb xs e=>tups b xs (I.base.tups b xs e),λb o xs e=>frzs b o xs (I.base.frzs b o xs e),λb ps e=>?_⟩,?_,λx c e=>?_,?_,λx c e=>?_,λp hp=>?_,hok,I.len⟩
 ·exact keep b o (neL b o e) hb (neC b o e hx) (I.base.keep b o e n hb hx) (I.base.free b o e n hx)
 ·obtain ⟨sl,e1⟩:=I.base.slot b o e n hb hx
  obtain⟨kQ,e2⟩:=slot b _ (neL b o e) hb (neC b o e hx) e1 (I.base.free b o e n hx)
  exact⟨kQ,e2⟩
 ·obtain ⟨o',e1⟩:=I.base.there b o e hx
  exact free b o' (neC b o e hx) e1 (I.base.free b o e n hx)
 ·obtain ⟨o',e1⟩:=I.base.there b o e hx
  exact there b o' (neC b o e hx) e1
 ·obtain ⟨m1,e1⟩:=I.base.tbls b ps e
  obtain⟨m2,e2⟩:=tbls b _ e1
  exact⟨m1++m2,by rw[e2,Array.append_assoc]⟩
 ·obtain ⟨m,hn,hl⟩:=I.loc
  refine⟨m,ns m hn,λi x v e1 e2 e3=>?_⟩
  obtain⟨u,r,l⟩:=hl i x v e1 e2 e3
  refine⟨u,r,?_⟩
  rcases l with l | ⟨k,c,e,z⟩
  ·exact .inl l
  ·exact .inr ⟨k,c,e,cellK x c e _ z⟩
 ·obtain ⟨v,z⟩:=I.cell x c e
  exact⟨v,cellK x c e v z⟩
 ·obtain ⟨m,⟨o,_,_,ho,_⟩,_⟩:=I.loc
  exact free _ o (λz=>(gI _ z).2.1 rfl) ho I.free
 ·obtain ⟨v,o,ho,hd⟩:=I.cell x c e
  exact free c o (λz=>(gI c z).2.2.1 x c e rfl) ho (I.freeC x c e)
 ·obtain ⟨e,n,ne,nf,d⟩:=I.pin p hp
  have nch:p.1∉ch:=λz=>(gI p.1 z).2.2.2 p hp rfl
  exact⟨keep p.1 p.2 ne nf nch e n,free p.1 p.2 nch e n,ne,nf,d⟩
def Inv.un{t':Nat}(I:Inv X a6 σ H s)(u:Un X.fs [] H H' s.heap h')(hok:HOk X.prog X.w H' h'):Inv X a6 σ H' {s with heap:=h',toks:=t'}:=by
 obtain⟨m,⟨o,es,ep,ho,r⟩,_⟩:=id I.loc
 obtain⟨sl,hL⟩:=u.any ho I.free (by simp)
 exact I.step (g':=s.gens) (d':=s.drawn) (ch:=[]) (λ_ z=>nomatch z) (λb o _ hb _ e n=>u.keep b o e n hb (by simp)) (λb o _ hb _ e n=>u.slot b o e n hb (by simp)) (λb o _ e n=>u.free b o e n (by simp)) (λb o _ e=>u.there b o e (by simp)) u.tups u.frzs u.tbls (λm' hm=>by
  obtain⟨o',gu,ep',aw,r'⟩:=hm
  rw[ho]at aw;cases aw
  exact⟨_,gu,ep',hL,r'⟩) hok I.bare
def Inv.call{g':Array GenState}{t':Nat}{d':Drawn}{ch:Nl}(I:Inv X a6 σ H s)(u:Un (frs X.stack) ch H H' s.heap h')(hok:HOk X.prog X.w H' h')(hg:AllBare g')(gI:∀b∈ch,(b∈X.ex∨X.s₀.heap.objs.size≤b)∧b≠X.env.locals∧(∀x c,X.env.cells.lookup x=some c→c≠b)∧∀p∈X.pn++a6,p.1≠b) :
  Inv X a6 σ H' {s with heap:=h',gens:=g',drawn:=d',toks:=t'}:=by
 obtain⟨m,⟨o,es,ep,ho,r⟩,_⟩:=id I.loc
 obtain⟨sl,hL⟩:=u.any ho I.free λz=>(gI _ z).2.1 rfl
 exact I.step (ch:=ch) gI (λb o hL hb hc e n=>u.keep b o e n (λz=>(Qh.mp (I.stkSub b z)).elim hL hb) hc) (λb o _ _ hc e n=>u.any e n hc) (λb o hc e n=>u.free b o e n hc) (λb o hc e=>u.there b o e hc) u.tups u.frzs u.tbls (λm' hm=>by
  obtain⟨o',gu,ep',aw,r'⟩:=hm
  rw[ho]at aw;cases aw
  exact⟨_,gu,ep',hL,r'⟩) hok hg
def Inv.turned{t':Nat}{it:Nd}(I:Inv X a6 σ H s)(k:∀b o,b≠it→s.heap.get? b=some o→h'.get? b=some o)(hn:H it=none)(hL:it≠X.env.locals)(h1:it∈X.ex∨X.s₀.heap.objs.size≤it)(h2:∀x c,X.env.cells.lookup x=some c→c≠it)(h3:∀p∈X.pn++a6,p.1≠it):Inv X a6 σ H {s with heap:=h',toks:=t'}:=by
 have nit:∀b u,H b=some u→b≠it:=λb u e z=>by rw[z,hn]at e;cases e
 refine I.step (g':=s.gens) (d':=s.drawn) (ch:=[it]) (λb hb=>?_) (λb o _ _ hc e _=>k b o (λz=>hc (by simp[z])) e) (λb o _ _ hc e _=>⟨o.slots,k b o (λz=>hc (by simp[z])) e⟩) (λ_ _ _ _ n=>n)
  (λb o hc e=>⟨o,k b o (λz=>hc (by simp[z])) e⟩) (λ_ _ e=>e) (λ_ _ _ e=>e) (λb ps e=>⟨#[],by rw[e];simp⟩) (λm hm=>?_) (λb u e=>?_) I.bare
 ·have e:b=it:=by simpa using hb
  subst e
  exact⟨h1,hL,h2,h3⟩
 ·obtain ⟨o,es,ep,ho,r⟩:=hm
  exact⟨o,es,ep,k _ o (Zi hL) ho,r⟩
 ·refine (I.hok b u e).stay (fun c v hc q=>k c v ?_ q) (fun _ q=>q) fun _ _ q=>q
  rcases hc with z | z
  ·rw[z];exact nit b u e
  ·exact nit c _ z
def Inv.tok(I:Inv X a6 σ H s)(t:Nat):Inv X a6 σ H {s with toks:=t}:=I.un (h':=s.heap) (t':=t) Un.refl I.hok
def Inv.kept{t':Nat}(I:Inv X a6 σ H s)(k:∀b u,s.heap.get? b=some u→h'.get? b=some u):Inv X a6 σ H {s with heap:=h',toks:=t'}:=I.un (Un.kept k) (I.hok.kept k)
def Inv.laid{a:Nd}{o:HO}{t':Nat}(I:Inv X a6 σ H s)(k:∀b u,s.heap.get? b=some u→h'.get? b=some u)(hp:s.heap.objs.size≤a)(new:zbr X.prog X.w (upd H a o) h' a o) :
  Inv X a6 σ (upd H a o) {s with heap:=h',toks:=t'}:=I.un (Un.laid k hp (I.hok.fresh hp)) (I.hok.laid k hp new)
def Inv.write{x e:Nd}{o:HO}{t':Nat}(I:Inv X a6 σ H s)(mu:Mut (H x))(he:e=x∨H e=some (.own x))(k:∀b u,b≠e→s.heap.get? b=some u→h'.get? b=some u)(lp:∃u,h'.get? e=some u)(new:zbr X.prog X.w (upd H x o) h' x o):Inv X a6 σ (upd H x o) {s with heap:=h',toks:=t'}:=I.un (Un.write mu he k lp) (I.hok.write mu he k lp new)
def Inv.pins_of{pins':Nc}(I:Inv X a6 σ H s)(h:∀p∈pins',s.heap.get? p.1=some p.2∧H p.1=none∧p.1≠X.env.locals∧p.1∉X.fs∧∀v,p.2.data≠.cell v):Inv X pins' σ H s :=
 ⟨I.ok,I.os,I.bare,I.base,I.loc,I.cell,I.free,I.freeC,λp hp=>(Qd.mp hp).elim (λz=>I.pin p (Qn _ z)) (h p),I.hok,I.len⟩
def zh7{N:Nf}(hN:N.Nodup){i j:Nat}{x:Str}(a:N[i]?=some x)(b:N[j]?=some x):i=j:=by
 obtain⟨h1,e1⟩:=Ze.mp a
 obtain⟨h2,e2⟩:=Ze.mp b
 exact(We hN).mp (e1.trans e2.symm)
def zfz{M:Model}{A:No}{E:Na}{i:Nat}{x:Str}{v:V}{u:Value}{Q:Unit→Shared→Prop}(I:Inv X a6 σ H s)(hN:X.N.Nodup)(hi:X.N[i]?=some x)(hx:Loc X.env.scope x)(r:RelV v u)(h:∀s',Inv X a6 (σ.set i (some v)) H s'→(∃a,Heap.SameBut a s.heap s'.heap∧(a=X.env.locals∨X.env.cells.lookup x=some a))→Q () s')(hf:X.fn x=true∨X.env.scope.names.lookup x=some .local:=by first | exact .inl rfl | exact .inr rfl | assumption):wpAny M A (storeName X.env x u) Q E s:=by
 obtain⟨m,hn,hl⟩:=id I.loc
 have km:(X.env.scope.kind==.class||(X.env.scope.kind==.module&&X.env.locals != X.env.globals))=false:=by rw[I.ok.kind];rfl
 have hiσ:i<σ.length:=by rw[I.len];exact(Ze.mp hi).1
 have cne:=I.cne
 have tracked:∀{a:Nd} {h':Nm},(∃o,s.heap.get? a=some o∧H a=none)→Heap.SameBut a s.heap h'→HOk X.prog X.w H h':=λ{a h'} ha hs b ob e=>by
  obtain⟨_,_,bq⟩:=ha
  refine(I.hok b ob e).stay (λc w' hc q=>(hs.2 c ?_).trans q) (λ_ q=>q) λ_ _ q=>q
  rintro rfl
  rcases hc with rfl | hc
  ·rw[bq]at e;cases e
  ·rw[bq]at hc;cases hc
 rcases hx with hk | hk
 ·refine wpAny_storeName_local hk hn (fun h' rP hs=>?_) km
  obtain⟨oL,_,_,hoL,_⟩:=id hn
  refine h _ ⟨I.ok,I.os,I.bare,⟨λb o e n hb hx=>?_,λb o e n hb hx=>?_,I.base.free,λb o e hx=>?_,I.base.tups,I.base.frzs,I.base.tbls⟩,⟨_,rP,λj y v' e1 e2 e3=>?_⟩,λy c e=>?_,I.free,I.freeC,λp hp=>?_,tracked ⟨oL,hoL,I.free⟩ hs,by simpa using I.len⟩ ⟨_,hs,.inl rfl⟩
  ·exact(hs.2 b (Zj (Zs (Qr e) I.ok.above))).trans (I.base.keep b o e n hb hx)
  ·obtain ⟨sl,e1⟩:=I.base.slot b o e n hb hx
   exact⟨sl,(hs.2 b (Zj (Zs (Qr e) I.ok.above))).trans e1⟩
  ·obtain ⟨o',e1⟩:=I.base.there b o e hx
   exact⟨o',(hs.2 b (Zj (Zs (Qr e) I.ok.above))).trans e1⟩
  ·by_cases hj:j=i
   ·subst hj
    rw[hi]at e1;cases e1
    rw[List.getElem?_set_self hiσ]at e2
    cases e2
    exact⟨u,r,.inl ⟨hk,by simp⟩⟩
   ·rw [List.getElem?_set_ne (Zi hj)] at e2
    obtain⟨u',r',q⟩:=hl j y v' e1 e2 e3
    refine⟨u',r',?_⟩
    rcases q with⟨k,e⟩ | ⟨k,c,e,z⟩
    ·refine .inl ⟨k,?_⟩
     have:y≠x:=λe=>hj (zh7 hN e1 (e▸hi))
     simp[this,e]
    ·exact .inr ⟨k,c,e,z.sameBut hs (cne y c e)⟩
  ·obtain ⟨w',z⟩:=I.cell y c e
   exact⟨w',z.sameBut hs (cne y c e)⟩
  ·obtain ⟨e,n,ne,nf,d⟩:=I.pin p hp
   exact⟨(hs.2 p.1 ne).trans e,n,ne,nf,d⟩
 ·have sx:X.fn x=true:=by
   rcases hf with z | z
   ·exact z
   ·rw[z]at hk;cases hk
  obtain⟨c,hc⟩:=I.ok.has x (.inl hk)
  obtain⟨w',z⟩:=I.cell x c hc
  refine wpAny_storeName_cell I.ok.kind hk hc z (λh' cq hs=>?_)
  obtain⟨oc,hoc,rN⟩:=id z
  refine h {s with heap:=h'} ⟨I.ok,I.os,I.bare,⟨λb o e n hb hx=>?_,λb o e n hb hx=>?_,I.base.free,λb o e hx=>?_,I.base.tups,I.base.frzs,I.base.tbls⟩,⟨m,hn.sameBut hs (Zi (cne x c hc)),λj y v' e1 e2 e3=>?_⟩,λy c' e=>?_,I.free,I.freeC,λp hp=>?_,tracked ⟨oc,hoc,I.freeC x c hc⟩ hs,by simpa using I.len⟩ ⟨c,hs,.inr hc⟩
  ·exact(hs.2 b (Zj (Zs (Qr e) (I.ok.cab x c sx hc)))).trans (I.base.keep b o e n hb hx)
  ·obtain ⟨sl,e1⟩:=I.base.slot b o e n hb hx
   exact⟨sl,(hs.2 b (Zj (Zs (Qr e) (I.ok.cab x c sx hc)))).trans e1⟩
  ·obtain ⟨o',e1⟩:=I.base.there b o e hx
   exact⟨o',(hs.2 b (Zj (Zs (Qr e) (I.ok.cab x c sx hc)))).trans e1⟩
  ·by_cases hj:j=i
   ·subst hj
    rw[hi]at e1;cases e1
    rw[List.getElem?_set_self hiσ]at e2
    cases e2
    exact⟨u,r,.inr ⟨.inl hk,c,hc,cq⟩⟩
   ·rw [List.getElem?_set_ne (Zi hj)] at e2
    obtain⟨u',r',q⟩:=hl j y v' e1 e2 e3
    refine⟨u',r',?_⟩
    rcases q with q | ⟨k,c',e,z'⟩
    ·exact .inl q
    ·refine .inr ⟨k,c',e,z'.sameBut hs ?_⟩
     rintro rfl
     exact hj (zh7 hN e1 (I.ok.inj _ _ _ e hc▸hi))
  ·by_cases gq:c'=c
   ·subst gq;exact⟨_,cq⟩
   ·obtain ⟨w2,z2⟩:=I.cell y c' e
    exact⟨w2,z2.sameBut hs gq⟩
  ·obtain ⟨e,n,ne,nf,d⟩:=I.pin p hp
   refine⟨(hs.2 p.1 ?_).trans e,n,ne,nf,d⟩
   intro q
   rw[q,hoc]at e
   have q':oc=p.2:=Qv e
   exact d w' (by rw[←q'];exact rN)
def zhq{M:Model}{A:No}{E:Na}{i:Nat}{x:Str}{v:V}{u:Value}{Q:Unit→Shared→Prop}(I:Inv X a6 σ H s)(hN:X.N.Nodup)(hi:X.N[i]?=some x)(hx:Loc X.env.scope x)(r:RelV v u)(h:∀s',Inv X a6 (σ.set i (some v)) H s'→Q () s')(hf:X.fn x=true∨X.env.scope.names.lookup x=some .local:=by first | exact .inl rfl | exact .inr rfl | assumption):wpAny M A (storeName X.env x u) Q E s :=
 zfz I hN hi hx r (λs' I' _=>h s' I') hf
def Inv.call'{s':Nh}{ch:Nl}(I:Inv X a6 σ H s)(ho:s'.os=s.os)(u:Un (frs X.stack) ch H H' s.heap s'.heap)(hok:HOk X.prog X.w H' s'.heap)(hg:AllBare s'.gens)(gI:∀b∈ch,(b∈X.ex∨X.s₀.heap.objs.size≤b)∧b≠X.env.locals∧(∀x c,X.env.cells.lookup x=some c→c≠b)∧∀p∈X.pn++a6,p.1≠b):Inv X a6 σ H' s':=by
 obtain⟨h',g',d',t',o'⟩:=s'
 have e:o'=s.os:=ho
 subst e
 exact I.call (g':=g') (t':=t') (d':=d') u hok hg gI
end
abbrev XK:=Value→Option Addr→Hp→Prop
abbrev St:=List (Option V)
abbrev VK:=V→Hp→Prop
abbrev TE:=St→Hp→VK→Prop
abbrev TT:=St→Hp→(Bool→Hp→Prop)→Prop
abbrev TA:=St→Hp→(List V→Hp→Prop)→Prop
structure Ends where
 nx:St→Hp→Prop
 rt:VK
 bk:St→Hp→Prop:=λ_ _=>False
 ct:St→Hp→Prop:=λ_ _=>False
abbrev TS:=Ends→St→Hp→Prop
inductive EP(X:Cx)(a6:Nc)(σ:St)(Q:VK)(u:Value)(s':Nh):Prop
 |mk (v:V) (H':Hp) (i:Inv X a6 σ H' s') (r:RelV v u) (q:Q v H'):EP X a6 σ Q u s'
inductive TP(X:Cx)(a6:Nc)(σ:St)(Q:Bool→Hp→Prop)(b:Bool)(s':Nh):Prop
 |mk (H':Hp) (i:Inv X a6 σ H' s') (q:Q b H'):TP X a6 σ Q b s'
inductive AP(X:Cx)(a6:Nc)(σ:St)(Q:List V→Hp→Prop)(us:Ni)(s':Nh):Prop
 |mk (vs:List V) (H':Hp) (i:Inv X a6 σ H' s') (r:Vals vs us) (q:Q vs H'):AP X a6 σ Q us s'
def SP(X:Cx)(a6:Nc)(D:Ends)(f:Flow)(s':Nh):Prop :=
 match f with
 |.next=>Ex2 λ σ' H'=>Aj2 (Inv X a6 σ' H' s') (D.nx σ' H')
 |.brk=>Ex2 λ σ' H'=>Aj2 (Inv X a6 σ' H' s') (D.bk σ' H')
 |.cont=>Ex2 λ σ' H'=>Aj2 (Inv X a6 σ' H' s') (D.ct σ' H')
 |.ret u=>Ex3 λv σ' H'=>Aj3 (Inv X a6 σ' H' s') (RelV v u) (D.rt v H')
def PE(X:Cx)(e:Expr)(t:TE):Prop :=
 ∀(a6:Nc) (s:Nh) (σ:St) (H:Hp) (Q:VK),Inv X a6 σ H s→t σ H Q→wpAny (model X.prog X.w) X.A (eval e X.env) (EP X a6 σ Q) X.xe s
def PT(X:Cx)(e:Expr)(t:TT):Prop :=
 ∀(a6:Nc) (s:Nh) (σ:St) (H:Hp) (Q:Bool→Hp→Prop),Inv X a6 σ H s→t σ H Q→wpAny (model X.prog X.w) X.A (isTrue e X.env (eval e X.env)) (TP X a6 σ Q) X.xe s
def PW(X:Cx)(e:Expr)(t:TT):Prop :=
 ∀(whole:Sem Value) (a6:Nc) (s:Nh) (σ:St) (H:Hp) (Q:Bool→Hp→Prop),Inv X a6 σ H s→t σ H Q→wpAny (model X.prog X.w) X.A (isTrue e X.env whole) (TP X a6 σ Q) X.xe s
def PW.pt{X:Cx}{e:Expr}{t:TT}(h:PW X e t):PT X e t:=h _
def PA(X:Cx)(es:Np)(t:TA):Prop :=
 ∀(pos:Pos) (a6:Nc) (s:Nh) (σ:St) (H:Hp) (Q:List V→Hp→Prop),Inv X a6 σ H s→t σ H Q→wpAny (model X.prog X.w) X.A (spliced (backTo pos (starEach es X.env))) (AP X a6 σ Q) X.xe s
def PS(X:Cx)(st:Stmt)(t:TS):Prop :=
 ∀(a6:Nc) (s:Nh) (σ:St) (H:Hp) (D:Ends),Inv X a6 σ H s→t D σ H→wpAny (model X.prog X.w) X.A (exec st X.env) (SP X a6 D) X.xe s
def PSs(X:Cx)(st:List Stmt)(t:TS):Prop :=
 ∀(a6:Nc) (s:Nh) (σ:St) (H:Hp) (D:Ends),Inv X a6 σ H s→t D σ H→wpAny (model X.prog X.w) X.A (execs st X.env) (SP X a6 D) X.xe s
def thn{α:Type}{t:Sem α}{Q Q':α→Shared→Prop}{M:Model}{A:No}{E:Na}{s:Nh}(h:wpAny M A t Q E s)(hQ:∀a s,Q a s→Q' a s):wpAny M A t Q' E s:=wpAny_mono h hQ λ_ _ x=>x
end L2
namespace L2
open PySem PySem.Spec PyProof.Rows
section
variable{X:Cx}
def bin{a b:Expr}{ta tb:TE}(ha:PE X a ta)(hb:PE X b tb){a6:Nc}{s:Nh}{σ:St}{H:Hp}{R:V→V→Hp→Prop}(I:Inv X a6 σ H s)(h:ta σ H λx H1=>tb σ H1 λy H2=>R x y H2){α:Type}{Q:α→Shared→Prop}{f:Value→Value→Sem α}(hf:∀v u s2 x y H2,Inv X a6 σ H2 s2→RelV x v→RelV y u→R x y H2→wpAny (model X.prog X.w) X.A (f v u) Q X.xe s2) :
  wpAny (model X.prog X.w) X.A (eval a X.env) (λv s₁=>wpAny (model X.prog X.w) X.A (eval b X.env) (λu s₂=>wpAny (model X.prog X.w) X.A (f v u) Q X.xe s₂) X.xe s₁) X.xe s:=by
 refine thn (ha a6 s σ H _ I h) λv s1 ⟨x,H1,I1,r1,q1⟩=>?_
 refine thn (hb a6 s1 σ H1 _ I1 q1) λu s2 ⟨y,H2,I2,r2,q2⟩=>?_
 exact hf v u s2 x y H2 I2 r1 r2 q2
inductive RVar(o:Option (Option V))(H:Hp)(Q:VK):Prop
 |mk (v:V) (e:o=some (some v)) (q:Q v H):RVar o H Q
def tVar(i:Nat):TE:=λ σ H Q=>RVar σ[i]? H Q
def tC(v:V):TE:=λ_ H Q=>Q v H
def pe_var{i:Nat}{x:Str}{pos:Pos}(hN:X.N[i]?=some x)(hv:Vis X.env.scope x)(hd:(x==("__debug__" : Str))=false:=by decide)(aO:(x==("__classdict__" : Str))=false:=by decide):PE X (.Name x pos) (tVar i):=by
 intro a6 s σ H Q I h
 obtain⟨v,e,h⟩:=h
 obtain⟨m,hn,hl⟩:=I.loc
 obtain⟨u,r,l⟩:=hl i x v hN e hv
 have fin:EP X a6 σ Q u s:=⟨v,H,I,r,h⟩
 rcases l with⟨hk,hm⟩ | ⟨hk,c,hc,iT⟩
 ·exact wpAny_Name (wpAny_loadName_local I.ok.kind hk hn hm fin) hd
 ·rcases hk with hk | hk
  ·exact wpAny_Name (wpAny_loadName_cell I.ok.kind hk hc iT fin) hd
  ·exact wpAny_Name (wpAny_loadName_free I.ok.kind hk hc iT fin aO) hd
def zai{i j pos}:PE X (.Constant (.int i) j pos) (tC (.int i)):=λ_ _ _ H _ I h=>wpAny_Constant_int ⟨.int i,H,I.tok _,⟨_,rfl⟩,h⟩
def pe_bl{b j pos}:PE X (.Constant (.bool b) j pos) (tC (.bl b)):=λ_ _ _ H _ I h=>Constant_bool ⟨.bl b,H,I,rfl,h⟩
def pe_non{j pos}:PE X (.Constant .none j pos) (tC .non):=λ_ _ _ H _ I h=>Constant_none ⟨.non,H,I,rfl,h⟩
def zbu{x j pos}:PE X (.Constant (.str x) j pos) (tC (.str x)):=λ_ _ _ H _ I h=>Calls.Constant_str ⟨.str x,H,I.tok _,⟨_,rfl⟩,h⟩
def Gl(X:Cx)(x:Str):Prop:=X.env.kindOf x=some .globalImplicit
def ze2{E:Na}{a6:Nc}{s:Nh}{σ:St}{H:Hp}{x:Str}{u:Value}{pos:Pos}{Q:Na}(I:Inv X a6 σ H s)(hg:Gl X x)(hm:X.mg x=some u)(h:Q u s)(hd:(x==("__debug__" : Str))=false:=by decide):wpAny (model X.prog X.w) X.A (eval (.Name x pos) X.env) Q E s :=
 Calls.Name_function_global I.ok.kind hg (Calls.loadGlobal_global (by rw[I.ok.glob];exact I.mod.glob.keeps I.bk) hm h) hd
def ld_blt{E:Na}{a6:Nc}{s:Nh}{σ:St}{H:Hp}{x:Str}{u:Value}{pos:Pos}{Q:Na}(I:Inv X a6 σ H s)(hg:Gl X x)(hm:X.mg x=none)(hv:bootBuiltins x=some u)(h:Q u s)(hn:x ≠ "__name__" := by decide)(hd:(x==("__debug__" : Str))=false:=by decide):wpAny (model X.prog X.w) X.A (eval (.Name x pos) X.env) Q E s:=by
 obtain⟨mb,h1,h2⟩:=I.mod.blt
 exact Calls.Name_function_global I.ok.kind hg (Calls.loadGlobal_builtin (by rw[I.ok.glob];exact I.mod.glob.keeps I.bk) hm (by rw[I.ok.blt];exact h1.keeps I.bk) ((h2 x hn).trans hv) h) hd
def ze0{x:Str}{v:V}{u:Value}{pos:Pos}(hg:Gl X x)(hm:X.mg x=some u)(r:RelV v u)(hd:(x==("__debug__" : Str))=false:=by decide):PE X (.Name x pos) (tC v) :=
 λ_ _ _ H _ I h=>ze2 I hg hm ⟨v,H,I,r,h⟩ hd
variable{a b:Expr}{ta tb:TE}{pos:Pos}
def PC(X:Cx)(op:CmpOp)(a b:Expr)(t:TE):Prop :=
 ∀(a6:Nc) (s:Nh) (σ:St) (H:Hp) (Q:VK),Inv X a6 σ H s→t σ H Q →
  wpAny (model X.prog X.w) X.A (eval a X.env) (λv s₁=>wpAny (model X.prog X.w) X.A (eval b X.env) (λu s₂=>wpAny (model X.prog X.w) X.A (compareOp op v u) (EP X a6 σ Q) X.xe s₂) X.xe s₁) X.xe s
inductive RB(x:V)(H:Hp)(Q:Bool→Hp→Prop):Prop
 |mk (c:Bool) (e:x=.bl c) (q:Q c H):RB x H Q
def tB(t:TE):TT:=λ σ H Q=>t σ H λx H1=>RB x H1 Q
def zb8{op:CmpOp}{t:TE}(h:PC X op a b t)(h1:behindInMarks op b=false:=by first | exact nobehind _ (by decide) (by decide) | rfl):PT X (.Compare a [op] [b] pos) (tB t):=by
 intro a6 s σ H Q I hw
 refine wpAny_isTrue_Compare1 (thn (h a6 s σ H _ I hw) λv s1 h1=>thn h1 λu s2 h2=>thn h2 λc s3 ⟨x,H1,I1,r1,q1⟩=>?_) h1
 obtain⟨d,rfl,q⟩:=q1
 cases r1
 exact wpAny_truthy_bool ⟨H1,I1,q⟩
def zdv{e:Expr}{t:TE}(h:PE X e t)(he:∀whole,isTrue e X.env whole=(do let v ←whole;standAt e.pos;holding [v] (truthy v)):=by intro _;rfl):PT X e (tB t):=by
 intro a6 s σ H Q I hw
 refine isTrue_plain (thn (h a6 s σ H _ I hw) λv s1 ⟨x,H1,I1,r1,q1⟩=>?_) (he _)
 obtain⟨d,rfl,q⟩:=q1
 cases r1
 exact wpAny_truthy_bool ⟨H1,I1,q⟩
variable{tA oE:TT}{rest:Np}
def tAnd(t u:TT):TT:=λ σ H Q=>t σ H λc H1=>if c=true then u σ H1 Q else Q false H1
def tOr(t u:TT):TT:=λ σ H Q=>t σ H λc H1=>if c=true then Q true H1 else u σ H1 Q
def tNot(t:TT):TT:=λ σ H Q=>t σ H λc H1=>Q (!c) H1
def zh0(ha:PT X a tA):PW X (.BoolOp .And [a] pos) tA:=by
 intro wh a6 s σ H Q I h
 refine isTrue_and (thn (ha a6 s σ H Q I h) λc s1 e=>?_)
 cases c with
 |true=>exact isTrue_and_nil e
 |false=>exact e
def zf4(ha:PT X a tA):PW X (.BoolOp .Or [a] pos) tA:=by
 intro wh a6 s σ H Q I h
 refine isTrue_or (thn (ha a6 s σ H Q I h) λc s1 e=>?_)
 cases c with
 |false=>exact isTrue_or_nil e
 |true=>exact e
def pw_and(ha:PT X a tA)(hb:PW X (.BoolOp .And (b::rest) pos) oE):PW X (.BoolOp .And (a::b::rest) pos) (tAnd tA oE):=by
 intro wh a6 s σ H Q I h
 refine isTrue_and (thn (ha a6 s σ H _ I h) λc s1 ⟨H1,I1,q1⟩=>?_)
 cases c with
 |true=>exact hb wh a6 s1 σ H1 Q I1 q1
 |false=>exact⟨H1,I1,q1⟩
def zf5(ha:PT X a tA)(hb:PW X (.BoolOp .Or (b::rest) pos) oE):PW X (.BoolOp .Or (a::b::rest) pos) (tOr tA oE):=by
 intro wh a6 s σ H Q I h
 refine isTrue_or (thn (ha a6 s σ H _ I h) λc s1 ⟨H1,I1,q1⟩=>?_)
 cases c with
 |true=>exact⟨H1,I1,q1⟩
 |false=>exact hb wh a6 s1 σ H1 Q I1 q1
def zej(ha:PT X a tA):PT X (.UnaryOp .Not a pos) (tNot tA):=by
 intro a6 s σ H Q I h
 exact isTrue_not (wpAny_mono (ha a6 s σ H (λc H1=>Q (!c) H1) I h) (λc s2 z=>by obtain⟨a,b,d⟩:=z;exact⟨a,b,d⟩) λ_ _ e=>e)
def tAndV(ta tb:TE):TE:=λ σ H Q=>ta σ H λx H1=>RB x H1 λc H1=>if c=true then tb σ H1 Q else Q (.bl false) H1
def tNotV(ta:TE):TE:=λ σ H Q=>ta σ H λx H1=>∃c,x=.bl c∧Q (.bl (!c)) H1
def pe_one{op}{t:TE}(h:PE X a t):PE X (.BoolOp op [a] pos) t:=λa6 s σ H Q I hw=>BoolOp_one (h a6 s σ H Q I hw)
def pe_and(ha:PE X a ta)(hb:PE X (.BoolOp .And (b::rest) pos) tb):PE X (.BoolOp .And (a::b::rest) pos) (tAndV ta tb):=by
 intro a6 s σ H Q I h
 refine BoolOp_and (thn (ha a6 s σ H _ I h) λv s1 ⟨x,H1,I1,r1,q1⟩=>?_)
 obtain⟨c,rfl,q1⟩:=q1
 cases r1
 refine wpAny_truthy_bool ?_
 cases c with
 |true=>exact hb a6 s1 σ H1 Q I1 q1
 |false=>exact⟨.bl false,H1,I1,rfl,q1⟩
def pe_not(ha:PE X a ta):PE X (.UnaryOp .Not a pos) (tNotV ta):=by
 intro a6 s σ H Q I h
 refine UnaryOp_ (thn (ha a6 s σ H _ I h) λv s1 ⟨x,H1,I1,r1,q1⟩=>?_)
 obtain⟨c,rfl,q1⟩:=q1
 cases r1
 exact not_of (wpAny_truthy_bool ⟨.bl (!c),H1,I1,rfl,q1⟩)
def tIf(t:TT)(ta tb:TE):TE:=λ σ H Q=>t σ H λc H1=>if c=true then ta σ H1 Q else tb σ H1 Q
def pe_ifExp{c:Expr}(hc:PT X c tA)(ha:PE X a ta)(hb:PE X b tb):PE X (.IfExp c a b pos) (tIf tA ta tb):=by
 intro a6 s σ H Q I h
 refine wpAny_IfExp (thn (hc a6 s σ H _ I h) λd s1 ⟨H1,I1,q1⟩=>?_)
 cases d with
 |true=>exact ha a6 s1 σ H1 Q I1 q1
 |false=>exact hb a6 s1 σ H1 Q I1 q1
end
end L2
namespace L2
open PySem PySem.Spec PyProof.Rows
def SqL(K:Nb)(H:Hp)(a:Nd)(xs:List V):Prop :=
 Rd H a (.lst xs) ∨
  ∃(o:Obj) (a7:Array Value) (n:Nat),K.lookup a=some o∧o.cls=.type "list" ∧ o.dict=none∧o.data=.seq a7 n∧a7.size≤sizeLine∧Vals xs a7.toList
def SqT(K:Nb)(H:Hp)(a:Nd)(xs:List V):Prop :=
 Rd H a (.tup xs) ∨
  ∃(o:Obj) (a7:Array Value) (n:Nat),K.lookup a=some o∧o.cls=.type "tuple" ∧ o.data=.seq a7 n∧a7.size≤sizeLine∧Vals xs a7.toList
def absV:Value→Option V
 |.none=>some .non
 |.bool b=>some (.bl b)
 |.int i _=>some (.int i)
 |.str x _=>some (.str x)
 |.bytes b _=>some (.byt b)
 |.float b _=>some (.flt b)
 |.ref a=>some (.ref a)
 |.type n=>some (.ty n)
 |_=>none
def RelV.abs{x:V}{u:Value}(r:RelV x u):absV u=some x:=by
 cases x with
 |non=>cases r;rfl
 |bl _=>cases r;rfl
 |int _=>obtain⟨t,rfl⟩:=r;rfl
 |str _=>obtain⟨t,rfl⟩:=r;rfl
 |byt _=>obtain⟨t,rfl⟩:=r;rfl
 |flt _=>obtain⟨t,rfl⟩:=r;rfl
 |ref _=>cases r;rfl
 |ty _=>cases r;rfl
def RelV.inj{x y:V}{u:Value}(r:RelV x u)(q:RelV y u):x=y:=Qv (r.abs.symm.trans q.abs)
theorem Vals.inj:∀{xs ys:List V} {us:Ni},Vals xs us→Vals ys us→xs=ys
 |_,_,_,.nil,.nil=>rfl
 |_,_,_,.cons r t,.cons r' t'=>by rw[r.inj r',Vals.inj t t']
section
variable{X:Cx}{a6:Nc}{σ:St}{H:Hp}{s:Nh}{a:Nd}{xs ys:List V}
def SqL.of{K:Nb}(h:H a=some (.lst xs)):SqL K H a xs:=.inl (.inl h)
def SqT.of{K:Nb}(h:H a=some (.tup xs)):SqT K H a xs:=.inl (.inl h)
def Inv.list(I:Inv X a6 σ H s)(h:SqL X.K H a xs):∃a7:List Value,Vals xs a7∧PlainL s.heap a a7.toArray∧xs.length≤sizeLine:=by
 rcases h with h | ⟨o,a7,n,hk,hc,hd,hs,hz,r⟩
 ·obtain ⟨z,a7,n,r,e⟩:=h.ok I.hok
  exact⟨a7,r,⟨_,n,e,rfl,rfl,rfl⟩,z⟩
 ·refine ⟨a7.toList,r,⟨o,n,I.kIn a o hk,hc,hd,by simpa using hs⟩,?_⟩
  have e:=r.length
  simp only[Wk]at e
  lia
def Inv.tuple(I:Inv X a6 σ H s)(h:SqT X.K H a xs):∃a7:List Value,Vals xs a7∧IsTup s.heap a a7.toArray∧xs.length≤sizeLine:=by
 rcases h with h | ⟨o,a7,n,hk,hc,hs,hz,r⟩
 ·obtain ⟨z,a7,r,p⟩:=h.ok I.hok
  exact⟨a7,r,p,z⟩
 ·refine ⟨a7.toList,r,⟨o,I.kIn a o hk,hc,n,by simpa using hs⟩,?_⟩
  have e:=r.length
  simp only[Wk]at e
  lia
def Inv.list_inj(I:Inv X a6 σ H s)(h:SqL X.K H a xs)(h':SqL X.K H a ys):xs=ys:=by
 obtain⟨a7,r,⟨o,n,e,_,_,d⟩,_⟩:=I.list h
 obtain⟨its',r',⟨o',n',e',_,_,d'⟩,_⟩:=I.list h'
 rw[e]at e';cases e'
 rw[d]at d'
 injection d' with d1 _
 have:a7=its':=by simpa using congrArg Array.toList d1
 subst this
 exact r.inj r'
def Inv.tuple_inj(I:Inv X a6 σ H s)(h:SqT X.K H a xs)(h':SqT X.K H a ys):xs=ys:=by
 obtain⟨a7,r,⟨o,e,_,n,d⟩,_⟩:=I.tuple h
 obtain⟨its',r',⟨o',e',_,n',d'⟩,_⟩:=I.tuple h'
 rw[e]at e';cases e'
 rw[d]at d'
 injection d' with d1 _
 have:a7=its':=by simpa using congrArg Array.toList d1
 subst this
 exact r.inj r'
end
abbrev Cx.wish(X:Cx)(E:Na):Cx:={X with xe:=E}
abbrev Cx.nox(X:Cx):Cx:=X.wish λ_ _=>False
def Cx.Ok.wish{X:Cx}(ok:X.Ok)(E:Na):(X.wish E).Ok :=
 ⟨ok.mod,ok.kind,ok.glob,ok.blt,ok.above,ok.inj,ok.has,ok.cab,ok.hd,ok.frames,ok.stk,ok.exf,ok.bs,ok.bsz,ok.noex,ok.exfs,ok.funs,ok.frf⟩
def Cx.Ok.unwish{X:Cx}{E:Na}(ok:(X.wish E).Ok):X.Ok :=
 ⟨ok.mod,ok.kind,ok.glob,ok.blt,ok.above,ok.inj,ok.has,ok.cab,ok.hd,ok.frames,ok.stk,ok.exf,ok.bs,ok.bsz,ok.noex,ok.exfs,ok.funs,ok.frf⟩
section
variable{X:Cx}{a6:Nc}{σ:St}{H:Hp}{s:Nh}{E:Na}
def Inv.wish(I:Inv X a6 σ H s)(E:Na):Inv (X.wish E) a6 σ H s:=⟨I.ok.wish E,I.os,I.bare,I.base,I.loc,I.cell,I.free,I.freeC,I.pin,I.hok,I.len⟩
def Inv.unwish(I:Inv (X.wish E) a6 σ H s):Inv X a6 σ H s:=⟨I.ok.unwish,I.os,I.bare,I.base,I.loc,I.cell,I.free,I.freeC,I.pin,I.hok,I.len⟩
def SP.unwish{D:Ends}{f:Flow}{s':Nh}(h:SP (X.wish E) a6 D f s'):SP X a6 D f s':=by
 cases f with
 |next=>obtain⟨σ',H',I,q⟩:=h;exact⟨σ',H',I.unwish,q⟩
 |brk=>obtain⟨σ',H',I,q⟩:=h;exact⟨σ',H',I.unwish,q⟩
 |cont=>obtain⟨σ',H',I,q⟩:=h;exact⟨σ',H',I.unwish,q⟩
 |ret u=>obtain⟨v,σ',H',I,r,q⟩:=h;exact⟨v,σ',H',I.unwish,r,q⟩
def PSs.nox{st:List Stmt}{t:TS}(h:PSs X.nox st t):PSs X st t:=λa6 s σ H D I hw =>
 wpAny_mono (h a6 s σ H D (I.wish _) hw) (λ_ _ q=>q.unwish) λ_ _ z=>False.elim z
end
section
variable{X:Cx}{st:Stmt}{rest:List Stmt}{t u:TS}{e:Expr}{te:TE}{pos:Pos}
def tNext:TS:=λD σ H=>D.nx σ H
def tSeq(t u:TS):TS:=λD σ H=>t {D with nx:=u D} σ H
def zax:PSs X [] tNext:=λ_ _ σ H _ I h=>wpAny_execs_nil ⟨σ,H,I,h⟩
def zae(h1:PS X st t)(h2:PSs X rest u):PSs X (st::rest) (tSeq t u):=by
 intro a6 s σ H D I h
 refine wpAny_execs_cons (thn (h1 a6 s σ H {D with nx:=u D} I h) λf s1 q=>?_)
 cases f with
 |next =>
  obtain⟨σ',H',I',q⟩:=q
  exact h2 a6 s1 σ' H' D I' q
 |ret v=>exact q
 |brk=>exact q
 |cont=>exact q
def zag(h1:PS X st t):PSs X [st] t:=by
 intro a6 s σ H D I h
 refine wpAny_execs_cons (thn (h1 a6 s σ H D I h) λf s1 q=>?_)
 cases f with
 |next=>exact wpAny_execs_nil q
 |ret v=>exact q
 |brk=>exact q
 |cont=>exact q
def Inv.quiet{a6:Nc}{σ:St}{H:Hp}{s:Nh}(I:Inv X a6 σ H s):interactive X.env=false:=by simp[interactive,I.ok.kind]
def tDrop(te:TE):TS:=λD σ H=>te σ H λ_ H1=>D.nx σ H1
def zay(he:PE X e te)(hs:swapsWith e none pos.line X.env=pure false:=by rfl):PS X (.Expr e pos) (tDrop te):=by
 intro a6 s σ H D I h
 exact wpAny_Expr_any (thn (he a6 s σ H _ I h) λv s1 ⟨x,H1,I1,r1,q1⟩=>⟨σ,H1,I1,q1⟩) I.quiet hs
def tRet(te:TE):TS:=λD σ H=>te σ H D.rt
def za3(he:PE X e te):PS X (.Return (some e) pos) (tRet te):=by
 intro a6 s σ H D I h
 exact wpAny_Return_some (thn (he a6 s σ H _ I h) λv s1 ⟨x,H1,I1,r1,q1⟩=>⟨x,σ,H1,I1,r1,q1⟩)
def tRetN:TS:=λD _ H=>D.rt .non H
def ps_retN:PS X (.Return none pos) tRetN:=λ_ _ σ H _ I h=>wpAny_Return_none ⟨.non,σ,H,I,rfl,h⟩
def tIfS(c:TT)(t u:TS):TS:=λD σ H=>c σ H λb H1=>if b=true then t D σ H1 else u D σ H1
def zb1{c:Expr}{a b:List Stmt}{tc:TT}(hc:PT X c tc)(ha:PSs X a t)(hb:PSs X b u):PS X (.If c a b pos) (tIfS tc t u):=by
 intro a6 s σ H D I h
 refine wpAny_If (thn (hc a6 s σ H _ I h) λd s1 ⟨H1,I1,q1⟩=>?_)
 cases d with
 |true=>exact ha a6 s1 σ H1 D I1 q1
 |false=>exact hb a6 s1 σ H1 D I1 q1
end
abbrev TG:=V→St→Hp→(St→Hp→Prop)→Prop
abbrev TGs:=List V→St→Hp→(St→Hp→Prop)→Prop
def PG(X:Cx)(target:Expr)(t:TG):Prop :=
 ∀(a6:Nc) (s:Nh) (σ:St) (H:Hp) (v:V) (u:Value) (Q:St→Hp→Prop),Inv X a6 σ H s→RelV v u→t v σ H Q →
  wpAny (model X.prog X.w) X.A (assign target X.env u) (λ_ s'=>Ex2 λ σ' H'=>Aj2 (Inv X a6 σ' H' s') (Q σ' H')) X.xe s
def PGs(X:Cx)(ts:Np)(t:TGs):Prop :=
 ∀(a6:Nc) (s:Nh) (σ:St) (H:Hp) (vs:List V) (us:Ni) (Q:St→Hp→Prop),Inv X a6 σ H s→Vals vs us→t vs σ H Q →
  wpAny (model X.prog X.w) X.A (assignInOrder ((assignEach ts X.env).map (·.2)) us) (λ_ s'=>Ex2 λ σ' H'=>Aj2 (Inv X a6 σ' H' s') (Q σ' H')) X.xe s
abbrev TSet:=V→V→V→Hp→(Hp→Prop)→Prop
def PSet(X:Cx)(t:TSet):Prop :=
 ∀(a6:Nc) (s:Nh) (σ:St) (H:Hp) (o i v:V) (ov iv u:Value) (Q:Hp→Prop),Inv X a6 σ H s→RelV o ov→RelV i iv→RelV v u→t o i v H Q →
  wpAny (model X.prog X.w) X.A (setItem ov iv u) (λ_ s'=>∃H',Inv X a6 σ H' s'∧Q H') X.xe s
section
variable{X:Cx}{pos:Pos}
def gName(i:Nat):TG:=λv σ H Q=>Q (σ.set i (some v)) H
def zez{i:Nat}{x:Str}(hN:X.N.Nodup)(hi:X.N[i]?=some x)(hx:Loc X.env.scope x)(hf:X.fn x=true∨X.env.scope.names.lookup x=some .local:=by first | exact .inl rfl | exact .inr rfl | assumption):PG X (.Name x pos) (gName i):=by
 intro a6 s σ H v u Q I r h
 exact wpAny_assign_Name (zhq I hN hi hx r (λs' I'=>⟨_,H,I',h⟩) hf)
def gNil:TGs:=λvs σ H Q=>vs=[]∧Q σ H
inductive RGC(vs:List V)(R:V→List V→Prop):Prop
 |mk (v:V) (r:List V) (e:vs=v::r) (q:R v r):RGC vs R
def gCons(t:TG)(u:TGs):TGs:=λvs σ H Q=>RGC vs λv r=>t v σ H λ σ' H'=>u r σ' H' Q
def zc4:PGs X [] gNil:=by
 intro a6 s σ H vs us Q I r h
 obtain⟨e,h⟩:=h
 subst e
 cases r
 exact assignInOrder_nil ⟨σ,H,I,h⟩
def zba{e:Expr}{es:Np}{t:TG}{u:TGs}(h1:PG X e t)(h2:PGs X es u)(hs:(assignEach (e::es) X.env).map (·.2)=assign e X.env::(assignEach es X.env).map (·.2):=by rfl):PGs X (e::es) (gCons t u):=by
 intro a6 s σ H vs us Q I r h
 obtain⟨v,vr,e1,h⟩:=h
 subst e1
 cases r with
 |cons r rr =>
  rw[hs]
  refine assignInOrder_cons (thn (h1 a6 s σ H _ _ _ I r h) λ_ s1 ⟨σ1,H1,I1,q1⟩=>?_)
  exact h2 a6 s1 σ1 H1 _ _ Q I1 rr q1
inductive RGT(K:Nb)(n:Nat)(v:V)(H:Hp)(R:List V→Prop):Prop
 |mk (a:Nd) (xs:List V) (e:v=.ref a) (s:SqT K H a xs) (l:xs.length=n) (q:R xs):RGT K n v H R
def gTup(K:Nb)(n:Nat)(t:TGs):TG:=λv σ H Q=>RGT K n v H λxs=>t xs σ H Q
def zg6{es:Np}{k:Nat}{t:TGs}{n:Nat}(hc:X.calm=true)(h:PGs X es t)(hn:(assignEach es X.env).length=n:=by rfl)(ap:(assignEach es X.env).findIdx? (·.1)=none:=by rfl):PG X (.Tuple es k pos) (gTup X.K n t):=by
 intro a6 s σ H v u Q I r hw
 obtain⟨a,xs,e1,hq,hl,hw⟩:=hw
 subst e1
 cases r
 obtain⟨a7,rv,ht,hz⟩:=I.tuple hq
 refine assign_Tuple_tuple (I.ok.hd hc) ht (by simp[hn,←hl,rv.length]) ap λh' hx=>?_
 have I1:Inv X a6 σ H {s with heap:=h'}:=I.kept (t':=s.toks) λb o e=>hx b o (Zj (Qr e)) e
 exact h a6 _ σ H xs _ Q I1 (by simpa using rv) hw
def gSub(to ti:TE)(t:TSet):TG:=λv σ H Q=>to σ H λo H1=>ti σ H1 λi H2=>t o i v H2 λH3=>Q σ H3
def pg_sub{o i:Expr}{to ti:TE}{t:TSet}(ho:PE X o to)(hi:PE X i ti)(hs:PSet X t)(ha:∀ v,assign (.Subscript o i pos) X.env v=(do
   let ov ←holding [v] (eval o X.env)
   let iv ←holding [v,ov] (eval i X.env)
   standAt pos
   holding [v,ov,iv] (setItem ov iv v)
   release [v,ov,iv] []):=by intro _;rfl):PG X (.Subscript o i pos) (gSub to ti t):=by
 intro a6 s σ H v u Q I r h
 rw[ha]
 refine wpAny_bind (wpAny_holding (thn (ho a6 s σ H _ I h) λov s1 ⟨x,H1,I1,r1,q1⟩=>?_))
 refine wpAny_bind (wpAny_holding (thn (hi a6 s1 σ H1 _ I1 q1) λiv s2 ⟨y,H2,I2,r2,q2⟩=>?_))
 refine wpAny_bind (wpAny_standAt (wpAny_bind (wpAny_holding (thn (hs a6 s2 σ H2 x y v ov iv u _ I2 r1 r2 r q2) λ_ s3 ⟨H3,I3,q3⟩=>?_))))
 exact wpAny_release ⟨σ,H3,I3,q3⟩
def tAsg(te:TE)(g:TG):TS:=λD σ H=>te σ H λx H1=>g x σ H1 D.nx
def ps_asg{tg e:Expr}{te:TE}{g:TG}(he:PE X e te)(hg:PG X tg g)(hs:swapsWithSole [tg] e pos.line X.env=pure false:=by rfl)(hw:swappedStores [tg] e X.env=pure none:=by rfl)(h1:(assignEach [tg] X.env).map (·.2)=[assign tg X.env]:=by rfl):PS X (.Assign [tg] e pos) (tAsg te g):=by
 intro a6 s σ H D I h
 refine wpAny_Assign_stores (thn (he a6 s σ H _ I h) λv s1 ⟨x,H1,I1,r1,q1⟩=>?_) hs hw
 rw[h1]
 exact thn (hg a6 s1 σ H1 x v _ I1 r1 q1) λ_ s2 q=>q
def zdw{i:Nat}{x:Str}{e:Expr}{te:TE}{bn:Pos}(hN:X.N.Nodup)(hi:X.N[i]?=some x)(hx:Loc X.env.scope x)(he:PE X e te)(hs:swapsWith e (some (.Name x bn)) pos.line X.env=pure false:=by rfl)(hf:X.fn x=true∨X.env.scope.names.lookup x=some .local:=by first | exact .inl rfl | exact .inr rfl | assumption) :
  PS X (.Assign [.Name x bn] e pos) (tAsg te (gName i)):=by
 intro a6 s σ H D I h
 refine wpAny_Assign_Name (thn (he a6 s σ H _ I h) λv s1 ⟨y,H1,I1,r1,q1⟩=>?_) hs
 exact zhq I1 hN hi hx r1 (λs2 I2=>⟨_,H1,I2,q1⟩) hf
end
section
variable{X:Cx}{pos:Pos}
def tWhile(c:TT)(tb:TS):TS:=λD σ H=>∃W:Nat→St→Hp→Prop,(∃m,W m σ H)∧∀m σ H,W m σ H →
 c σ H λb H1=>if b=true then ∃N:St→Hp→Prop,(∀σ' H',N σ' H'→∃m',m'<m∧W m' σ' H')∧tb {D with nx:=N,ct:=N,bk:=D.nx} σ H1 else D.nx σ H1
def zcj{c:Expr}{body:List Stmt}{tc:TT}{tb:TS}(hp:PassesOwn (model X.prog X.w) X.A X.env X.xe)(hc:PT X c tc)(hb:PSs X body tb):PS X (.While c body [] pos) (tWhile tc tb):=by
 intro a6 s σ H D I h
 obtain⟨W,⟨m0,w0⟩,turn⟩:=h
 refine wpAny_While (codeAny_whileLoop (λn s'=>∃σ' H',Inv X a6 σ' H' s'∧W n σ' H') ?_ m0 ⟨σ,H,I,w0⟩)
 rintro n s1 ⟨σ1,H1,I1,w1⟩
 refine wpAny_passesOwn hp (thn (hc a6 s1 σ1 H1 _ I1 (turn n σ1 H1 w1)) λb s2 ⟨H2,I2,q2⟩=>?_)
 cases b with
 | true =>
  obtain⟨N,hN,q2⟩:=q2
  rw[if_pos rfl]
  refine wpAny_passesOwn hp (thn (hb a6 s2 σ1 H2 _ I2 q2) λf s3 q3=>?_)
  cases f with
  |next =>
   obtain⟨σ3,H3,I3,n3⟩:=q3
   obtain⟨m',hm,w3⟩:=hN σ3 H3 n3
   exact⟨m',hm,σ3,H3,I3,w3⟩
  |cont =>
   obtain⟨σ3,H3,I3,n3⟩:=q3
   obtain⟨m',hm,w3⟩:=hN σ3 H3 n3
   exact⟨m',hm,σ3,H3,I3,w3⟩
  |brk=>exact q3
  |ret v=>exact q3
 |false =>
  rw[if_neg Zc]
  exact wpAny_execs_nil ⟨σ1,H2,I2,q2⟩
end
structure It where
 go:Nat→Hp→Prop
 yld:Nat→Hp→V→Hp→Prop
 stop:Nat→Hp→Prop
def FpOk(X:Cx)(a6:Nc)(H:Hp)(b:Nd):Prop :=
 H b=none∧b≠X.env.locals∧b∉X.fs∧(b∈X.ex∨X.s₀.heap.objs.size≤b)∧(∀x c,X.env.cells.lookup x=some c→c≠b)∧∀p∈X.pn++a6,p.1≠b
def Inv.fpOk{X:Cx}{a6:Nc}{σ:St}{H H':Hp}{s:Nh}{b:Nd}(I:Inv X a6 σ H s)(hb:s.heap.objs.size≤b)(hn:H' b=none):FpOk X a6 H' b:=by
 refine⟨hn,Yq (Zs I.lt hb),I.nofs hb,.inr (Zk I.sz hb),λx c e z=>?_,λp hp z=>?_⟩
 ·obtain ⟨v,q⟩:=I.cell x c e
  exact absurd (Zs q.lt (by rw[z];exact hb)) (Ym _)
 ·exact absurd (Zs (Qr (I.pin p hp).1) (by rw[z];exact hb)) (Ym _)
structure Turn(P:Nj)(w:Nk)(K:Nb)(tg:Expr)(J:It)(fp:Nl)(it:Nd)(tn:Nat→Heap→Prop):Prop where
 mem:it∈fp
 obj:∀i h,tn i h→∀b∈fp,∃o,h.get? b=some o∧∀v,o.data≠.cell v
 keep:∀i h h',tn i h→(∀b∈fp,∀o,h.get? b=some o→h'.get? b=some o)→tn i h'
 item:∀(X:Cx),X.prog=P→X.w=w→X.K=K→X.calm=true→∀(i:Nat) (a6:Nc) (s:Nh) (σ:St) (H:Hp) (E:Na),Inv X a6 σ H s→(∀b∈fp,FpOk X a6 H b)→tn i s.heap→J.go i H →
  wpAny (model P w) X.A (pyNext (.ref it)) (λr s1=>∃u,r=some u ∧
   wpAny (model P w) X.A (letOwnedTupleGo tg (.ref it) u) (λ_ s2=>∃x H',Inv X a6 σ H' s2∧RelV x u∧J.yld i H x H'∧tn (i+1) s2.heap∧∀b∈fp,H' b=none) E s1) E s
 done:∀(X:Cx),X.prog=P→X.w=w→X.K=K→X.calm=true→∀(i:Nat) (a6:Nc) (s:Nh) (σ:St) (H:Hp) (E:Na),Inv X a6 σ H s→(∀b∈fp,FpOk X a6 H b)→tn i s.heap→J.stop i H →
  wpAny (model P w) X.A (pyNext (.ref it)) (λr s1=>r=none∧Inv X a6 σ H s1) E s
 self:∀(A:No) (i:Nat) (s:Nh) (Q:Na) (E:Na),tn i s.heap→Q (.ref it) s→wpAny (model P w) A (pyIter (.ref it)) Q E s
abbrev TI:=St→Hp→(It→Hp→Prop)→Prop
inductive PIE(X:Cx)(a6:Nc)(σ:St)(tg:Expr)(R:It→Hp→Prop)(itv:Value)(s2:Nh):Prop
 |mk (it:Nd) (fp:Nl) (tn:Nat→Heap→Prop) (J:It) (H':Hp) (h0:itv=.ref it) (h1:Inv X a6 σ H' s2) (h2:Turn X.prog X.w X.K tg J fp it tn) (h3:tn 0 s2.heap) (h4:(∀b∈fp,FpOk X a6 H' b)) (h5:R J H'):PIE X a6 σ tg R itv s2
def PI(X:Cx)(tg iter:Expr)(wi:TI):Prop :=
 ∀(a6:Nc) (s:Nh) (σ:St) (H:Hp) (R:It→Hp→Prop),Inv X a6 σ H s→wi σ H R →
  wpAny (model X.prog X.w) X.A (eval iter X.env) (λv s1=>wpAny (model X.prog X.w) X.A (pyIter v) (PIE X a6 σ tg R) X.xe s1) X.xe s
def go_of{M:Model}{A:No}{E:Na}{s:Nh}{tg:Expr}{it:Nd}{u:Value}{o:Obj}{n:String}{vs:Array Value}{Q:Unit→Shared→Prop}(ho:s.heap.get? it=some o)(hc:o.cls=.type n)(hd:o.data=.fields vs)(hn:["enumerate", "zip", "dict_itemiterator", "dict_reverseitemiterator", "odict_iterator", "itertools.zip_longest", "itertools.pairwise"].contains n=false)(hQ:Q () s):wpAny M A (letOwnedTupleGo tg (.ref it) u) Q E s:=by
 unfold letOwnedTupleGo
 cases tg <;> first
  |exact wpAny_pure hQ
  | (cases u <;> first
    |exact wpAny_pure hQ
    | (refine wpAny_bind (wpAny_load ho ?_)
       rw[hc,hd]
       show wpAny M A (if(["enumerate", "zip", "dict_itemiterator", "dict_reverseitemiterator", "odict_iterator", "itertools.zip_longest", "itertools.pairwise"].contains n&&vs[0]?==some (rawInt _))=true then _ else _) Q E s
       rw[if_neg (by intro h;rw[hn,Bool.false_and]at h;cases h)]
       exact wpAny_pure hQ))
def Itl(K:Nb)(a:Nd):It :=
 ⟨λi H=>∃xs x,SqL K H a xs∧xs[i]?=some x,λi H x H'=>H'=H∧∀xs,SqL K H a xs→xs[i]?=some x,λi H=>∃xs,SqL K H a xs∧xs.length≤i⟩
def Itt(K:Nb)(a:Nd):It :=
 ⟨λi H=>∃xs x,SqT K H a xs∧xs[i]?=some x,λi H x H'=>H'=H∧∀xs,SqT K H a xs→xs[i]?=some x,λi H=>∃xs,SqT K H a xs∧xs.length≤i⟩
def Itr(lo:Int)(n:Nat):It:=⟨λi _=>i<n,λi H x H'=>H'=H∧x=.int (lo+i),λi _=>n≤i⟩
theorem zd9{P:Nj}{w:Nk}{K:Nb}{tg:Expr}(a it:Nd):Turn P w K tg (Itl K a) [it] it (λi h=>h.IsListIter it a i) where
 mem:=by simp
 obj:=λi h st b hb=>by
  have e:b=it:=by simpa using hb
  subst e
  obtain⟨o,e,c,d⟩:=st
  exact⟨o,e,λv z=>by rw[d]at z;cases z⟩
 keep:=λi h h' st k=>st.at λo e=>k it (by simp) o e
 item:=by
  intro X hP hw hK hc i a6 s σ H E I hf st hg
  subst hP hw hK
  obtain⟨xs,x,hq,hx⟩:=hg
  obtain⟨a7,rv,p,hz⟩:=I.list hq
  obtain⟨u,hu,ru⟩:=rv.get hx
  obtain⟨f0,f1,f2,f3,f4,f5⟩:=hf it (by simp)
  refine wpAny_pyNext_list_item st p.isList (x:=u) (by simpa using hu) λh' a9 sb=>?_
  have I1:Inv X a6 σ H {s with heap:=h'}:=I.turned (t':=s.toks) (λb o hb e=>(sb.2 b hb).trans e) f0 f1 f3 f4 f5
  obtain⟨o,e,c,d⟩:=id a9
  exact⟨u,rfl,go_of (s:={s with heap:=h'}) e c d (by decide) ⟨x,H,I1,ru,⟨rfl,λys hy=>by rw[I.list_inj hy hq];exact hx⟩,a9,λb hb=>(hf b hb).1⟩⟩
 done:=by
  intro X hP hw hK hc i a6 s σ H E I hf st hg
  subst hP hw hK
  obtain⟨xs,hq,hx⟩:=hg
  obtain⟨a7,rv,p,hz⟩:=I.list hq
  obtain⟨f0,f1,f2,f3,f4,f5⟩:=hf it (by simp)
  have hl:=rv.length
  exact wpAny_pyNext_list_end (I.ok.hd hc) st p.isList (by simp;exact zd7 ‹_› ‹_›) λh' eb=>⟨rfl,I.turned (t':=s.toks) (λb o hb e=>eb b o hb e) f0 f1 f3 f4 f5⟩
 self:=λ_ _ _ _ _ st h=>wpAny_pyIter_listiter st h
theorem turn_tuple{P:Nj}{w:Nk}{K:Nb}{tg:Expr}(a it:Nd):Turn P w K tg (Itt K a) [it] it (λi h=>h.IsTupleIter it a i) where
 mem:=by simp
 obj:=λi h st b hb=>by
  have e:b=it:=by simpa using hb
  subst e
  obtain⟨o,e,c,d⟩:=st
  exact⟨o,e,λv z=>by rw[d]at z;cases z⟩
 keep:=λi h h' st k=>st.at λo e=>k it (by simp) o e
 item:=by
  intro X hP hw hK hc i a6 s σ H E I hf st hg
  subst hP hw hK
  obtain⟨xs,x,hq,hx⟩:=hg
  obtain⟨a7,rv,p,hz⟩:=I.tuple hq
  obtain⟨u,hu,ru⟩:=rv.get hx
  obtain⟨f0,f1,f2,f3,f4,f5⟩:=hf it (by simp)
  refine wpAny_pyNext_tuple_item st (show s.heap.IsTuple a a7.toArray from p) (x:=u) (by simpa using hu) λh' a9 sb=>?_
  have I1:Inv X a6 σ H {s with heap:=h'}:=I.turned (t':=s.toks) (λb o hb e=>(sb.2 b hb).trans e) f0 f1 f3 f4 f5
  obtain⟨o,e,c,d⟩:=id a9
  exact⟨u,rfl,go_of (s:={s with heap:=h'}) e c d (by decide) ⟨x,H,I1,ru,⟨rfl,λys hy=>by rw[I.tuple_inj hy hq];exact hx⟩,a9,λb hb=>(hf b hb).1⟩⟩
 done:=by
  intro X hP hw hK hc i a6 s σ H E I hf st hg
  subst hP hw hK
  obtain⟨xs,hq,hx⟩:=hg
  obtain⟨a7,rv,p,hz⟩:=I.tuple hq
  obtain⟨f0,f1,f2,f3,f4,f5⟩:=hf it (by simp)
  have hl:=rv.length
  exact wpAny_pyNext_tuple_end (I.ok.hd hc) st (show s.heap.IsTuple a a7.toArray from p) (by simp;exact zd7 ‹_› ‹_›) λh' eb=>⟨rfl,I.turned (t':=s.toks) (λb o hb e=>eb b o hb e) f0 f1 f3 f4 f5⟩
 self:=λ_ _ _ _ _ st h=>wpAny_pyIter_tupleiter st h
theorem turn_range{P:Nj}{w:Nk}{K:Nb}{tg:Expr}(it:Nd)(lo:Int)(n:Nat):Turn P w K tg (Itr lo n) [it] it (λi h=>IsRangeIter h it (lo+(i:Nat)*1) ((n:Int)-(i:Nat)) 1) where
 mem:=by simp
 obj:=λi h st b hb=>by
  have e:b=it:=by simpa using hb
  subst e
  exact⟨_,st,λv z=>by
   have z':Data.fields _=Data.cell v:=z
   cases z'⟩
 keep:=λi h h' st k=>k it (by simp) _ st
 item:=by
  intro X hP hw hK hc i a6 s σ H E I hf st hg
  subst hP hw hK
  obtain⟨f0,f1,f2,f3,f4,f5⟩:=hf it (by simp)
  have W:=Walks.range (prog:=X.prog) (w:=X.w) (I.ok.hd hc) it lo 1 n
  refine W.item i s _ _ hg st λv h' tk hv a9 kk=>?_
  obtain⟨t,rfl⟩:=hv
  have I1:Inv X a6 σ H {s with heap:=h',toks:=tk}:=I.turned (λb o hb e=>kk b o (by simpa using hb) e) f0 f1 f3 f4 f5
  refine⟨_,rfl,go_of (s:={s with heap:=h',toks:=tk}) (n := "range_iterator") a9 rfl rfl (by decide) ⟨.int (lo+i),H,I1,⟨t,?_⟩,⟨rfl,rfl⟩,a9,λb hb=>(hf b hb).1⟩⟩
  rw[Int.mul_one]
 done:=by
  intro X hP hw hK hc i a6 s σ H E I hf st hg
  subst hP hw hK
  obtain⟨f0,f1,f2,f3,f4,f5⟩:=hf it (by simp)
  exact wpAny_pyNext_range_end (I.ok.hd hc) st (by have:n≤i:=hg;lia) λh' eb=>⟨rfl,I.turned (t':=s.toks) (λb o hb e=>eb b o hb e) f0 f1 f3 f4 f5⟩
 self:=λ_ _ _ _ _ st h=>wpAny_pyIter_rangeiter st h
end L2
namespace L2
open PySem PySem.Spec PyProof.Rows
section
variable{X:Cx}{tg:Expr}
inductive RI1(x:V)(S R:Addr→Prop):Prop
 |mk (a:Nd) (e:x=.ref a) (s:S a) (q:R a):RI1 x S R
def iList(K:Nb)(tl:TE):TI:=λ σ H R=>tl σ H λx H1=>RI1 x (λa=>∃xs,SqL K H1 a xs) λa=>R (Itl K a) H1
def iTup(K:Nb)(tl:TE):TI:=λ σ H R=>tl σ H λx H1=>RI1 x (λa=>∃xs,SqT K H1 a xs) λa=>R (Itt K a) H1
def za6{l:Expr}{tl:TE}(hl:PE X l tl):PI X tg l (iList X.K tl):=by
 intro a6 s σ H R I h
 refine thn (hl a6 s σ H _ I h) λv s1 ⟨x,H1,I1,r1,q1⟩=>?_
 obtain⟨a,e,⟨xs,hq⟩,q⟩:=q1
 subst e
 cases r1
 obtain⟨a7,rv,p,hz⟩:=I1.list hq
 refine wpAny_pyIter_list p.isList ?_
 refine⟨s1.heap.objs.size,[s1.heap.objs.size],_,_,H1,rfl,I1.kept (t':=s1.toks) λb o e=>Qf _ e,zd9 a _,⟨_,Qw _ rfl,rfl,rfl⟩,λb hb=>?_,q⟩
 have e:b=s1.heap.objs.size:=by simpa using hb
 subst e
 exact I1.fpOk (Qg _) (I1.hok.fresh (Qg _))
def pi_tup{l:Expr}{tl:TE}(hl:PE X l tl):PI X tg l (iTup X.K tl):=by
 intro a6 s σ H R I h
 refine thn (hl a6 s σ H _ I h) λv s1 ⟨x,H1,I1,r1,q1⟩=>?_
 obtain⟨a,e,⟨xs,hq⟩,q⟩:=q1
 subst e
 cases r1
 obtain⟨a7,rv,p,hz⟩:=I1.tuple hq
 refine wpAny_pyIter_tuple (show s1.heap.IsTuple a a7.toArray from p) ?_
 refine⟨s1.heap.objs.size,[s1.heap.objs.size],_,_,H1,rfl,I1.kept (t':=s1.toks) λb o e=>Qf _ e,turn_tuple a _,⟨_,Qw _ rfl,rfl,rfl⟩,λb hb=>?_,q⟩
 have e:b=s1.heap.objs.size:=by simpa using hb
 subst e
 exact I1.fpOk (Qg _) (I1.hok.fresh (Qg _))
def range_it{a6:Nc}{σ:St}{H:Hp}{s:Nh}{R:It→Hp→Prop}{E:Na}{lo hi:Int}{t u v:Tok}{tk:Nat}(I:Inv X a6 σ H s)(h1:-(2 ^ 62)≤lo)(h2:lo<2 ^ 62)(h3:-(2 ^ 62)≤hi)(h4:hi<2 ^ 62)(q:R (Itr lo (hi-lo).toNat) H):wpAny (model X.prog X.w) X.A (pyIter (.ref s.heap.objs.size)) (PIE X a6 σ tg R) E {s with heap:=s.heap.push {cls:=.type "range",data:=.fields #[.int lo t,.int hi u,.int 1 v]},toks:=tk}:=by
 refine wpAny_pyIter_range (IsRange.new ..) (small_one h1 h2 h3 h4) ?_
 have I1:Inv X a6 σ H {s with heap:=s.heap.push {cls:=.type "range",data:=.fields #[.int lo t,.int hi u,.int 1 v]},toks:=tk}:=I.kept λb o e=>Qf _ e
 refine⟨(s.heap.push {cls:=.type "range",data:=.fields #[.int lo t,.int hi u,.int 1 v]}).objs.size,[(s.heap.push {cls:=.type "range",data:=.fields #[.int lo t,.int hi u,.int 1 v]}).objs.size],_,_,H,rfl,
  I1.kept (t':=tk) λb o e=>Qf _ e,turn_range _ lo (hi-lo).toNat,?_,λb hb=>?_,q⟩
 ·have e1:lo+((0:Nat):Int)*1=lo:=by simp
  have e2:(((hi-lo).toNat:Nat):Int)-((0:Nat):Int)=Builtin.Range.rangeSize lo hi 1:=by rw[rangeSize_one];split<;>lia
  show IsRangeIter _ _ (lo+((0:Nat):Int)*1) ((((hi-lo).toNat:Nat):Int)-((0:Nat):Int)) 1
  rw[e1,e2]
  exact Qw _ rfl
 ·have e:b=(s.heap.push { cls:=.type "range",data:=.fields #[.int lo t,.int hi u,.int 1 v] }).objs.size:=by simpa using hb
  subst e
  exact I1.fpOk (Qg _) (I1.hok.fresh (Qg _))
inductive RR1(vs:List V)(R:Int→Prop):Prop
 |mk (j:Int) (e:vs=[.int j]) (l:-(2 ^ 62)≤j) (u:j<2 ^ 62) (q:R j):RR1 vs R
def iRng1(ta:TA):TI:=λ σ H R=>ta σ H λvs H1=>RR1 vs λj=>R (Itr 0 j.toNat) H1
def zcd{a:Expr}{ta:TA}{p pos:Pos}(hg:Gl X "range")(hm:X.mg "range" = none)(ha:PA X [a] ta)(hs:starEach [a] X.env=[(false,eval a X.env)]:=by rfl):PI X tg (.Call (.Name "range" p) [a] [] pos) (iRng1 ta):=by
 intro a6 s σ H R I h
 refine Call_ (ld_blt I hg hm boot_range (Kb (thn (ha pos a6 s σ H _ I h) λus s1 ⟨vs,H1,I1,r1,q1⟩=>?_) hs rfl))
 obtain⟨j,e,q1,q2,q⟩:=q1
 subst e
 cases r1 with
 |cons r rr =>
  cases rr
  obtain⟨t,rfl⟩:=r
  exact call_range_1 (range_it I1 (by lia) (by lia) q1 q2 (by simpa using q))
def tFor(wi:TI)(g:TG)(tb:TS):TS:=λD σ H=>wi σ H λJ H1=>∃W:Nat→Nat→St→Hp→Prop,(∃m,W 0 m σ H1)∧∀i m σ H,W i m σ H →
 (J.stop i H∧D.nx σ H)∨(J.go i H∧∃N:St→Hp→Prop,(∀σ' H',N σ' H'→∃m',m'<m∧W (i+1) m' σ' H')∧∀x H',J.yld i H x H'→g x σ H' λ σ2 H2=>tb {D with nx:=N,ct:=N,bk:=D.nx} σ2 H2)
def zb3(fp:Nl)(h:Nm):List (Addr×Obj):=fp.filterMap λb=>(h.get? b).map λo=>(b,o)
def zbi{fp:Nl}{h:Nm}{b:Nd}{o:Obj}(hb:b∈fp)(e:h.get? b=some o):(b,o)∈zb3 fp h:=List.mem_filterMap.mpr ⟨b,hb,by rw[e];rfl⟩
def zel{fp:Nl}{h:Nm}{p:Addr×Obj}(hp:p∈zb3 fp h):p.1∈fp∧h.get? p.1=some p.2:=by
 obtain⟨b,hb,e⟩:=List.mem_filterMap.mp hp
 cases q:h.get? b with
 |none=>rw[q]at e;cases e
 |some o =>
  rw[q]at e
  have e':(b,o)=p:=Qv e
  subst e'
  exact⟨hb,q⟩
def Inv.pinned{a6:Nc}{σ:St}{H:Hp}{s:Nh}{fp:Nl}(I:Inv X a6 σ H s)(hf:∀b∈fp,FpOk X a6 H b)(ho:∀b∈fp,∃o,s.heap.get? b=some o∧∀v,o.data≠.cell v):Inv X (a6++zb3 fp s.heap) σ H s :=
 I.pins_of λp hp=>(Qd.mp hp).elim (λz=>I.pin p (Qk _ z)) λz=>by
  obtain⟨hb,e⟩:=zel z
  obtain⟨f0,f1,f2,_⟩:=hf p.1 hb
  obtain⟨o,e',d⟩:=ho p.1 hb
  rw[e]at e';cases e'
  exact⟨e,f0,f1,f2,d⟩
def Inv.unpinned{a6 pl:Nc}{σ:St}{H:Hp}{s:Nh}(I:Inv X (a6++pl) σ H s):Inv X a6 σ H s:=I.pins_of λp hp=>I.pin p (Qk _ (Qn _ hp))
def zbg{iter:Expr}{body:List Stmt}{wi:TI}{g:TG}{tb:TS}{pos:Pos}(hp:PassesOwn (model X.prog X.w) X.A X.env X.xe)(hc:X.calm=true)(hi:PI X tg iter wi)(hg:PG X tg g)(hb:PSs X body tb)(hs:∀x,foldedSetIterable iter X.env x=pure x:=by intro _;rfl):PS X (.For tg iter body [] pos) (tFor wi g tb):=by
 intro a6 s σ H D I h
 refine wpAny_For (thn (hi a6 s σ H _ I h) λv s1 h1=>thn h1 λitv s2 h2=>?_) hs
 obtain⟨it,fp,tn,J,H2,e,I2,T,bu,f2,W,⟨m0,w0⟩,turn⟩:=h2
 subst e
 have stat:∀{H':Hp},(∀b∈fp,H' b=none)→∀b∈fp,FpOk X a6 H' b:=λhn b hb=>⟨hn b hb,(f2 b hb).2⟩
 refine codeAny_forLoop_any (λn s'=>Ex3 λi σ' H'=>Aj4 (Inv X a6 σ' H' s') (tn i s'.heap) (∀b∈fp,H' b=none) (W i n σ' H')) ?_ m0 ⟨0,σ,H2,I2,bu,λb hb=>(f2 b hb).1,w0⟩
 rintro n s3 ⟨i,σ3,H3,I3,au,fr3,w3⟩
 rcases turn i n σ3 H3 w3 with⟨stop,qn⟩ | ⟨go,N,hN,step⟩
 ·refine wpAny_passesOwn hp (thn (T.done X rfl rfl rfl hc i a6 s3 σ3 H3 X.xe I3 (stat fr3) au stop) fun r s4 ⟨hr,I4⟩=>?_)
  subst hr
  exact wpAny_execs_nil ⟨σ3,H3,I4,qn⟩
 ·refine wpAny_passesOwn hp (thn (T.item X rfl rfl rfl hc i a6 s3 σ3 H3 X.xe I3 (stat fr3) au go) fun r s4 ⟨u,hr,h4⟩=>?_)
  subst hr
  refine wpAny_passesOwn hp (thn h4 λ_ s5 ⟨x,H5,I5,r5,y5,lB,fr5⟩=>?_)
  have gT:=I5.pinned (stat fr5) (T.obj _ _ lB)
  refine wpAny_passesOwn hp (thn (hg _ s5 σ3 H5 x u _ gT r5 (step x H5 y5)) λ_ s6 ⟨σ6,H6,I6,q6⟩=>?_)
  refine wpAny_passesOwn hp (thn (hb _ s6 σ6 H6 _ I6 q6) λf s7 q7=>?_)
  have again:∀{σ7:St} {H7:Hp},Inv X (a6++zb3 fp s5.heap) σ7 H7 s7→N σ7 H7→∃m,m<n∧Ex3 λi σ' H'=>Aj4 (Inv X a6 σ' H' s7) (tn i s7.heap) (∀b∈fp,H' b=none) (W i m σ' H'):=λ{σ7 H7} I7 n7=>by
   obtain⟨m',hm,w7⟩:=hN σ7 H7 n7
   refine⟨m',hm,i+1,σ7,H7,I7.unpinned,T.keep _ _ _ lB λb hb o e=>(I7.pin (b,o) (Qk _ (Qk _ (zbi hb e)))).1,λb hb=>?_,w7⟩
   obtain⟨o,e,d⟩:=T.obj _ _ lB b hb
   exact(I7.pin (b,o) (Qk _ (Qk _ (zbi hb e)))).2.1
  cases f with
  |next=>obtain⟨σ7,H7,I7,n7⟩:=q7;exact again I7 n7
  |cont=>obtain⟨σ7,H7,I7,n7⟩:=q7;exact again I7 n7
  |brk=>obtain⟨σ7,H7,I7,q7⟩:=q7;exact⟨σ7,H7,I7.unpinned,q7⟩
  |ret v=>obtain⟨x7,σ7,H7,I7,r7,q7⟩:=q7;exact⟨x7,σ7,H7,I7.unpinned,r7,q7⟩
end
def zbw{K:Nb}{a:Nd}{xs:List V}{g:TG}{tb:TS}{D:Ends}{σ:St}{H:Hp}(Pv:Nat→St→Hp→Prop)(h0:Pv 0 σ H)(hl:∀i σ H,i≤xs.length→Pv i σ H→SqL K H a xs)(hs:∀i x σ H,xs[i]?=some x→Pv i σ H→g x σ H λ σ2 H2=>tb {D with nx:=Pv (i+1),ct:=Pv (i+1),bk:=D.nx} σ2 H2)(hd:∀σ H,Pv xs.length σ H→D.nx σ H) :
  ∃W:Nat→Nat→St→Hp→Prop,(∃m,W 0 m σ H)∧∀i m σ H,W i m σ H →
   ((Itl K a).stop i H∧D.nx σ H)∨((Itl K a).go i H∧∃N:St→Hp→Prop,(∀σ' H',N σ' H'→∃m',m'<m∧W (i+1) m' σ' H')∧∀x H',(Itl K a).yld i H x H'→g x σ H' λ σ2 H2=>tb {D with nx:=N,ct:=N,bk:=D.nx} σ2 H2):=by
 refine⟨λi m σ H=>m=xs.length-i∧i≤xs.length∧Pv i σ H,⟨xs.length,by simp,Zp _,h0⟩,?_⟩
 rintro i m σ H ⟨rfl,hi,p⟩
 have q:=hl i σ H hi p
 by_cases ad:i<xs.length
 ·refine .inr ⟨⟨xs,xs[i],q,by simp [ad]⟩,Pv (i+1),fun σ' H' p'=>⟨xs.length - (i+1),by exact zar1 ‹_›,rfl,ad,p'⟩,fun x H' y=>?_⟩
  obtain⟨e,y⟩:=y
  subst e
  exact hs i x σ _ (y xs q) p
 ·have e:i=xs.length:=by exact zar3 ‹_› ‹_›
  subst e
  exact .inl ⟨⟨xs,q,Qg _⟩,hd σ H p⟩
def for_tup{K:Nb}{a:Nd}{xs:List V}{g:TG}{tb:TS}{D:Ends}{σ:St}{H:Hp}(Pv:Nat→St→Hp→Prop)(h0:Pv 0 σ H)(hl:∀i σ H,i≤xs.length→Pv i σ H→SqT K H a xs)(hs:∀i x σ H,xs[i]?=some x→Pv i σ H→g x σ H λ σ2 H2=>tb {D with nx:=Pv (i+1),ct:=Pv (i+1),bk:=D.nx} σ2 H2)(hd:∀σ H,Pv xs.length σ H→D.nx σ H) :
  ∃W:Nat→Nat→St→Hp→Prop,(∃m,W 0 m σ H)∧∀i m σ H,W i m σ H →
   ((Itt K a).stop i H∧D.nx σ H)∨((Itt K a).go i H∧∃N:St→Hp→Prop,(∀σ' H',N σ' H'→∃m',m'<m∧W (i+1) m' σ' H')∧∀x H',(Itt K a).yld i H x H'→g x σ H' λ σ2 H2=>tb {D with nx:=N,ct:=N,bk:=D.nx} σ2 H2):=by
 refine⟨λi m σ H=>m=xs.length-i∧i≤xs.length∧Pv i σ H,⟨xs.length,by simp,Zp _,h0⟩,?_⟩
 rintro i m σ H ⟨rfl,hi,p⟩
 have q:=hl i σ H hi p
 by_cases ad:i<xs.length
 ·refine .inr ⟨⟨xs,xs[i],q,by simp [ad]⟩,Pv (i+1),fun σ' H' p'=>⟨xs.length - (i+1),by exact zar1 ‹_›,rfl,ad,p'⟩,fun x H' y=>?_⟩
  obtain⟨e,y⟩:=y
  subst e
  exact hs i x σ _ (y xs q) p
 ·have e:i=xs.length:=by exact zar3 ‹_› ‹_›
  subst e
  exact .inl ⟨⟨xs,q,Qg _⟩,hd σ H p⟩
def zcf{lo:Int}{n:Nat}{g:TG}{tb:TS}{D:Ends}{σ:St}{H:Hp}(Pv:Nat→St→Hp→Prop)(h0:Pv 0 σ H)(hs:∀i σ H,i<n→Pv i σ H→g (.int (lo+i)) σ H λ σ2 H2=>tb {D with nx:=Pv (i+1),ct:=Pv (i+1),bk:=D.nx} σ2 H2)(hd:∀σ H,Pv n σ H→D.nx σ H) :
  ∃W:Nat→Nat→St→Hp→Prop,(∃m,W 0 m σ H)∧∀i m σ H,W i m σ H →
   ((Itr lo n).stop i H∧D.nx σ H)∨((Itr lo n).go i H∧∃N:St→Hp→Prop,(∀σ' H',N σ' H'→∃m',m'<m∧W (i+1) m' σ' H')∧∀x H',(Itr lo n).yld i H x H'→g x σ H' λ σ2 H2=>tb {D with nx:=N,ct:=N,bk:=D.nx} σ2 H2):=by
 refine⟨λi m σ H=>m=n-i∧i≤n∧Pv i σ H,⟨n,by simp,Zp _,h0⟩,?_⟩
 rintro i m σ H ⟨rfl,hi,p⟩
 by_cases ad:i<n
 ·refine .inr ⟨ad,Pv (i+1),fun σ' H' p'=>⟨n - (i+1),by exact zar1 ‹_›,rfl,ad,p'⟩,fun x H' y=>?_⟩
  obtain⟨e,y⟩:=y
  subst e y
  exact hs i σ _ ad p
 ·have e:i=n:=by exact zar3 ‹_› ‹_›
  subst e
  exact .inl ⟨Qg _,hd σ H p⟩
end L2
namespace L2
open PySem PySem.Spec PyProof.Rows
abbrev R2:=V→V→Hp→VK→Prop
def OpR(X:Cx)(f:Value→Value→Sem Value)(r:R2):Prop :=
 ∀(a6:Nc) (s:Nh) (σ:St) (H:Hp) (x y:V) (v u:Value) (Q:VK),Inv X a6 σ H s→RelV x v→RelV y u→r x y H Q →
  wpAny (model X.prog X.w) X.A (f v u) (EP X a6 σ Q) X.xe s
def UnR(X:Cx)(f:Value→Sem Value)(r:V→Hp→VK→Prop):Prop :=
 ∀(a6:Nc) (s:Nh) (σ:St) (H:Hp) (x:V) (v:Value) (Q:VK),Inv X a6 σ H s→RelV x v→r x H Q →
  wpAny (model X.prog X.w) X.A (f v) (EP X a6 σ Q) X.xe s
def zb2(X:Cx)(f:Value)(r:List V→Hp→VK→Prop):Prop :=
 ∀(a6:Nc) (s:Nh) (σ:St) (H:Hp) (xs:List V) (us:Ni) (Q:VK),Inv X a6 σ H s→Vals xs us→r xs H Q →
  wpAny (model X.prog X.w) X.A (call f us) (EP X a6 σ Q) X.xe s
def TruR(X:Cx)(r:V→Hp→(Bool→Hp→Prop)→Prop):Prop :=
 ∀(a6:Nc) (s:Nh) (σ:St) (H:Hp) (x:V) (v:Value) (Q:Bool→Hp→Prop),Inv X a6 σ H s→RelV x v→r x H Q →
  wpAny (model X.prog X.w) X.A (truthy v) (TP X a6 σ Q) X.xe s
def tOp(r:R2)(ta tb:TE):TE:=λ σ H Q=>ta σ H λx H1=>tb σ H1 λy H2=>r x y H2 Q
def tUn(r:V→Hp→VK→Prop)(ta:TE):TE:=λ σ H Q=>ta σ H λx H1=>r x H1 Q
inductive RrI(C:Int→Int→Prop)(g:Int→Int→V)(x:V)(y:V)(H:Hp)(Q:VK):Prop
 |mk (i:_) (j:_) (h0:x=.int i) (h1:y=.int j) (h2:C i j) (h3:Q (g i j) H):RrI C g x y H Q
def rI(C:Int→Int→Prop)(g:Int→Int→V):R2:=λx y H Q=>RrI C g x y H Q
inductive RrI0(g:Int→Int→V)(x:V)(y:V)(H:Hp)(Q:VK):Prop
 |mk (i:_) (j:_) (h0:x=.int i) (h1:y=.int j) (h2:Q (g i j) H):RrI0 g x y H Q
def rI0(g:Int→Int→V):R2:=λx y H Q=>RrI0 g x y H Q
def rU(g:Int→V):V→Hp→VK→Prop:=λx H Q=>∃i,x=.int i∧Q (g i) H
section
variable{X:Cx}{a b c:Expr}{ta tb tc:TE}{pos:Pos}
def binT(ha:PE X a ta)(hb:PE X b tb){a6:Nc}{s:Nh}{σ:St}{H:Hp}{R:V→V→Hp→Prop}(I:Inv X a6 σ H s)(h:ta σ H λx H1=>tb σ H1 λy H2=>R x y H2){Q:Na}{f:Value→Value→Sem Value}(hf:∀v u s2 x y H2,Inv X a6 σ H2 s2→RelV x v→RelV y u→R x y H2→wpAny (model X.prog X.w) X.A (f v u) Q X.xe s2) :
  wpAny (model X.prog X.w) X.A (eval a X.env) (λv s₁=>wpAny (model X.prog X.w) X.A (eval b X.env) (λu s₂=>wpAny (model X.prog X.w) X.A (f v u) Q X.xe s₂) X.xe s₁) X.xe s:=by
 refine thn (ha a6 s σ H _ I h) λv s1 ⟨x,H1,I1,r1,q1⟩=>?_
 refine thn (hb a6 s1 σ H1 _ I1 q1) λu s2 ⟨y,H2,I2,r2,q2⟩=>?_
 exact hf v u s2 x y H2 I2 r1 r2 q2
def zas{op:Operator}{r:R2}(ho:OpR X (binaryOp op) r)(ha:PE X a ta)(hb:PE X b tb):PE X (.BinOp a op b pos) (tOp r ta tb):=by
 intro a6 s σ H Q I h
 exact wpAny_BinOp (binT ha hb I h λv u s2 x y H2 I2 rx ry q=>ho a6 s2 σ H2 x y v u Q I2 rx ry q)
def pe_un{op:UnaryOp}{r:V→Hp→VK→Prop}(ho:UnR X (unaryOp op) r)(ha:PE X a ta):PE X (.UnaryOp op a pos) (tUn r ta):=by
 intro a6 s σ H Q I h
 exact UnaryOp_ (thn (ha a6 s σ H _ I h) λv s1 ⟨x,H1,I1,r1,q1⟩=>ho a6 s1 σ H1 x v Q I1 r1 q1)
def opI{f:Value→Value→Sem Value}{C:Int→Int→Prop}{g:Int→Int→Int}(rule:∀(i j:Int) (t u:Tok) (s:Nh) (Q:Na) (E:Na),C i j→Q (.int (g i j) s.toks) {s with toks:=s.toks+1}→wpAny (model X.prog X.w) X.A (f (.int i t) (.int j u)) Q E s) :
  OpR X f (rI C λi j=>.int (g i j)):=by
 intro a6 s σ H x y v u Q I rx ry h
 obtain⟨i,j,rfl,rfl,hc,q⟩:=h
 obtain⟨t,rfl⟩:=rx
 obtain⟨t',rfl⟩:=ry
 exact rule i j t t' s _ _ hc ⟨.int (g i j),H,I.tok _,⟨_,rfl⟩,q⟩
def opI0{f:Value→Value→Sem Value}{g:Int→Int→Int}(rule:∀(i j:Int) (t u:Tok) (s:Nh) (Q:Na) (E:Na),Q (.int (g i j) s.toks) {s with toks:=s.toks+1}→wpAny (model X.prog X.w) X.A (f (.int i t) (.int j u)) Q E s) :
  OpR X f (rI0 λi j=>.int (g i j)):=by
 intro a6 s σ H x y v u Q I rx ry h
 obtain⟨i,j,rfl,rfl,q⟩:=h
 obtain⟨t,rfl⟩:=rx
 obtain⟨t',rfl⟩:=ry
 exact rule i j t t' s _ _ ⟨.int (g i j),H,I.tok _,⟨_,rfl⟩,q⟩
def opB0{f:Value→Value→Sem Value}{g:Int→Int→Bool}(rule:∀(i j:Int) (t u:Tok) (s:Nh) (Q:Na) (E:Na),Q (.bool (g i j)) s→wpAny (model X.prog X.w) X.A (f (.int i t) (.int j u)) Q E s) :
  OpR X f (rI0 λi j=>.bl (g i j)):=by
 intro a6 s σ H x y v u Q I rx ry h
 obtain⟨i,j,rfl,rfl,q⟩:=h
 obtain⟨t,rfl⟩:=rx
 obtain⟨t',rfl⟩:=ry
 exact rule i j t t' s _ _ ⟨.bl (g i j),H,I,rfl,q⟩
def CDiv(i j:Int):Prop:=0<j∧j<1073741824
def CPow(i j:Int):Prop:=0≤j∧j≤1000000∧i.natAbs<2 ^ 64
def CMul(i j:Int):Prop:=(-(2 ^ 64)<i∧i<2 ^ 64)∨(-(2 ^ 64)<j∧j<2 ^ 64)
def CMul.ok{i j:Int}(h:CMul i j):IntMulOk i j:=by
 rcases h with⟨h1,h2⟩ | ⟨h1,h2⟩
 ·exact .of_left (intBits_le_64 h1 h2)
 ·exact .of_right (intBits_le_64 h1 h2)
def zb0:OpR X (binaryOp .Add) (rI0 λi j=>.int (i+j)):=opI0 λ_ _ _ _ _ _ _ q=>add_int q
def op_sub:OpR X (binaryOp .Sub) (rI0 λi j=>.int (i-j)):=opI0 λ_ _ _ _ _ _ _ q=>sub_int q
def zf9:OpR X (binaryOp .Mult) (rI CMul λi j=>.int (i*j)):=opI λ_ _ _ _ _ _ _ hc q=>mul_int q hc.ok
def zga:OpR X (binaryOp .FloorDiv) (rI CDiv λi j=>.int (i/j)):=opI λi j _ _ _ _ _ hc q=>by
 have h1:(0:Int)<j:=hc.1
 have h2:j<1073741824:=hc.2
 exact floordiv_int (by lia) (by rw[Int.fdiv_eq_ediv_of_nonneg i (by lia)];exact q) (.inl (PyProof.noPylong_small (by lia)))
def zcu:OpR X (binaryOp .Mod) (rI (λ_ j=>0<j) λi j=>.int (i%j)):=opI λi j _ _ _ _ _ hc q=>by
 have h1:(0:Int)<j:=hc
 exact mod_int' (by lia) (by rw[Int.fmod_eq_emod_of_nonneg i (by lia)];exact q)
def op_pow:OpR X (binaryOp .Pow) (rI CPow λi j=>.int (i ^ j.toNat)):=opI λ_ _ _ _ _ _ _ hc q=>pow_int_small hc.1 hc.2.1 hc.2.2 q
def unI{f:Value→Sem Value}{g:Int→Int}(rule:∀(i:Int) (t:Tok) (s:Nh) (Q:Na) (E:Na),Q (.int (g i) s.toks) {s with toks:=s.toks+1}→wpAny (model X.prog X.w) X.A (f (.int i t)) Q E s) :
  UnR X f (rU λi=>.int (g i)):=by
 intro a6 s σ H x v Q I rx h
 obtain⟨i,rfl,q⟩:=h
 obtain⟨t,rfl⟩:=rx
 exact rule i t s _ _ ⟨.int (g i),H,I.tok _,⟨_,rfl⟩,q⟩
def un_neg:UnR X (unaryOp .USub) (rU λi=>.int (-i)):=unI λ_ _ _ _ _ q=>neg_int q
end
def scal:V→V→Bool
 |.non,.non=>true | .non,.int _=>true | .int _,.non=>true | .non,.bl _=>true | .bl _,.non=>true | .non,.str _=>true | .str _,.non=>true
 |.int _,.int _=>true | .bl _,.bl _=>true | .str _,.str _=>true | .byt _,.byt _=>true
 |.int _,.str _=>true | .str _,.int _=>true | .bl _,.str _=>true | .str _,.bl _=>true
 |_,_=>false
def rEq:R2:=λx y H Q=>scal x y=true∧Q (.bl (decide (x=y))) H
def rNe:R2:=λx y H Q=>scal x y=true∧Q (.bl (!decide (x=y))) H
def dec_int{i j:Int}:decide (V.int i=V.int j)=(i==j):=by
 rw[Yu]
 simp
def dec_bl{i j:Bool}:decide (V.bl i=V.bl j)=(i==j):=by
 rw[Yu]
 simp
def dec_str{i j:Str}:decide (V.str i=V.str j)=(i==j):=by
 rw[Yu]
 simp
def dec_byt{i j:Array UInt8}:decide (V.byt i=V.byt j)=(i.toList==j.toList):=by
 rw[Yu]
 cases i
 cases j
 simp
section
variable{X:Cx}{a b c:Expr}{ta tb tc:TE}{pos:Pos}
def za8{a6:Nc}{σ:St}{H:Hp}{s:Nh}{Q:VK}{k k':Bool}(I:Inv X a6 σ H s)(q:Q (.bl k) H)(e:k=k'):EP X a6 σ Q (.bool k') s:=by
 subst e
 exact⟨.bl k,H,I,rfl,q⟩
def op_eq:OpR X (compareOp .Eq) rEq:=by
 intro a6 s σ H x y v u Q I rx ry h
 obtain⟨hs,q⟩:=h
 cases x with
 |non =>
  cases rx
  cases y with
  |non=>cases ry;exact PySem.EqNone.eq_none_none (za8 I q (by simp))
  |bl j=>cases ry;exact PySem.EqNone.eq_none_bool (za8 I q (by simp))
  |int j=>obtain⟨t',rfl⟩:=ry;exact PySem.EqNone.eq_none_int (za8 I q (by simp))
  |str j=>obtain⟨t',rfl⟩:=ry;exact PySem.EqNone.eq_none_str (za8 I q (by simp))
  |_=>exact absurd (show false=true from hs) Zc
 |bl i =>
  cases rx
  cases y with
  |non=>cases ry;exact PySem.EqNone.eq_bool_none (za8 I q (by simp))
  |bl j=>cases ry;exact eq_bool (za8 I q dec_bl)
  |str j=>obtain⟨t',rfl⟩:=ry;exact PySem.EqMixed.eq_bool_str (za8 I q (by simp))
  |_=>exact absurd (show false=true from hs) Zc
 |int i =>
  obtain⟨t,rfl⟩:=rx
  cases y with
  |non=>cases ry;exact PySem.EqNone.eq_int_none (za8 I q (by simp))
  |int j=>obtain⟨t',rfl⟩:=ry;exact eq_int (za8 I q dec_int)
  |str j=>obtain⟨t',rfl⟩:=ry;exact PySem.EqMixed.eq_int_str (za8 I q (by simp))
  |_=>exact absurd (show false=true from hs) Zc
 |str i =>
  obtain⟨t,rfl⟩:=rx
  cases y with
  |non=>cases ry;exact PySem.EqNone.eq_str_none (za8 I q (by simp))
  |bl j=>cases ry;exact PySem.EqMixed.eq_str_bool (za8 I q (by simp))
  |int j=>obtain⟨t',rfl⟩:=ry;exact PySem.EqMixed.eq_str_int (za8 I q (by simp))
  |str j=>obtain⟨t',rfl⟩:=ry;exact eq_str (za8 I q dec_str)
  |_=>exact absurd (show false=true from hs) Zc
 |byt i =>
  obtain⟨t,rfl⟩:=rx
  cases y with
  |byt j=>obtain⟨t',rfl⟩:=ry;exact PySem.W.eq_bytes (za8 I q dec_byt)
  |_=>exact absurd (show false=true from hs) Zc
 |_=>cases y<;>exact absurd (show false=true from hs) Zc
def op_ne:OpR X (compareOp .NotEq) rNe:=by
 intro a6 s σ H x y v u Q I rx ry h
 obtain⟨hs,q⟩:=h
 cases x with
 |non =>
  cases rx
  cases y with
  |non=>cases ry;exact PySem.EqNone.ne_none_none (za8 I q (by simp))
  |bl j=>cases ry;exact PySem.EqNone.ne_none_bool (za8 I q (by simp))
  |int j=>obtain⟨t',rfl⟩:=ry;exact PySem.EqNone.ne_none_int (za8 I q (by simp))
  |str j=>obtain⟨t',rfl⟩:=ry;exact PySem.EqNone.ne_none_str (za8 I q (by simp))
  |_=>exact absurd (show false=true from hs) Zc
 |bl i =>
  cases rx
  cases y with
  |non=>cases ry;exact PySem.EqNone.ne_bool_none (za8 I q (by simp))
  |bl j=>cases ry;exact ne_bool (za8 I q (congrArg not dec_bl))
  |str j=>obtain⟨t',rfl⟩:=ry;exact PySem.EqMixed.ne_bool_str (za8 I q (by simp))
  |_=>exact absurd (show false=true from hs) Zc
 |int i =>
  obtain⟨t,rfl⟩:=rx
  cases y with
  |non=>cases ry;exact PySem.EqNone.ne_int_none (za8 I q (by simp))
  |int j=>obtain⟨t',rfl⟩:=ry;exact ne_int (za8 I q (congrArg not dec_int))
  |str j=>obtain⟨t',rfl⟩:=ry;exact PySem.EqMixed.ne_int_str (za8 I q (by simp))
  |_=>exact absurd (show false=true from hs) Zc
 |str i =>
  obtain⟨t,rfl⟩:=rx
  cases y with
  |non=>cases ry;exact PySem.EqNone.ne_str_none (za8 I q (by simp))
  |bl j=>cases ry;exact PySem.EqMixed.ne_str_bool (za8 I q (by simp))
  |int j=>obtain⟨t',rfl⟩:=ry;exact PySem.EqMixed.ne_str_int (za8 I q (by simp))
  |str j=>obtain⟨t',rfl⟩:=ry;exact ne_str (za8 I q (congrArg not dec_str))
  |_=>exact absurd (show false=true from hs) Zc
 |byt i =>
  obtain⟨t,rfl⟩:=rx
  cases y with
  |byt j=>obtain⟨t',rfl⟩:=ry;exact PySem.W.ne_bytes (za8 I q (congrArg not dec_byt))
  |_=>exact absurd (show false=true from hs) Zc
 |_=>cases y<;>exact absurd (show false=true from hs) Zc
def op_lt:OpR X (compareOp .Lt) (rI0 λi j=>.bl (decide (i<j))):=opB0 λ_ _ _ _ _ _ _ q=>lt_int q
def op_le:OpR X (compareOp .LtE) (rI0 λi j=>.bl (decide (i≤j))):=opB0 λ_ _ _ _ _ _ _ q=>le_int q
def op_gt:OpR X (compareOp .Gt) (rI0 λi j=>.bl (decide (j<i))):=opB0 λ_ _ _ _ _ _ _ q=>gt_int q
def op_notN:OpR X (compareOp .IsNot) (λx y H Q=>y=.non∧Q (.bl (!decide (x=.non))) H):=by
 intro a6 s σ H x y v u Q I rx ry h
 obtain⟨rfl,q⟩:=h
 cases ry
 refine isnot_none_gen (za8 I q ?_)
 cases x<;>first
  |(cases rx;rfl)
  |(obtain⟨t,rfl⟩:=rx;rfl)
def zbt(b:Expr){op:CmpOp}(h:op≠.In:=by decide)(h2:op≠.NotIn:=by decide):behindInMarks op b=false:=by
 have e1:(op==CmpOp.In)=false:=by cases op<;>first | rfl | exact absurd rfl h
 have e2:(op==CmpOp.NotIn)=false:=by cases op<;>first | rfl | exact absurd rfl h2
 cases b<;>simp[behindInMarks,e1,e2]
def zh5{op:CmpOp}{r:R2}(ho:OpR X (compareOp op) r)(ha:PE X a ta)(hb:PE X b tb)(hm:behindInMarks op b=false):PE X (.Compare a [op] [b] pos) (tOp r ta tb):=by
 intro a6 s σ H Q I h
 exact wpAny_Compare1 (binT ha hb I h λv u s2 x y H2 I2 rx ry q=>ho a6 s2 σ H2 x y v u Q I2 rx ry q) hm
def tTest(t:TE):TT:=λ σ H Q=>t σ H λx H'=>RB x H' Q
def za2{op:CmpOp}{r:R2}(ho:OpR X (compareOp op) r)(ha:PE X a ta)(hb:PE X b tb)(hm:behindInMarks op b=false):PT X (.Compare a [op] [b] pos) (tTest (tOp r ta tb)):=by
 intro a6 s σ H Q I h
 refine wpAny_isTrue_Compare1 (thn (ha a6 s σ H _ I h) λv s1 ⟨x,H1,I1,r1,q1⟩=>thn (hb a6 s1 σ H1 _ I1 q1) λu s2 ⟨y,H2,I2,r2,q2⟩ =>
  thn (ho a6 s2 σ H2 x y v u _ I2 r1 r2 q2) λc s3 ⟨z,H3,I3,r3,k,e,q3⟩=>?_) hm
 subst e
 cases r3
 exact wpAny_truthy_bool ⟨H3,I3,q3⟩
def tChain(r r':R2)(ta tb tc:TE):TE:=λ σ H Q=>ta σ H λx H1=>tb σ H1 λy H2=>r x y H2 λz H3=>RB z H3 λk H3 =>
 (if k=true then tc σ H3 λw' H4=>r' y w' H4 Q else Q (.bl false) H3)
def pe_chain{op qc:CmpOp}{r r':R2}(ho:OpR X (compareOp op) r)(aw:OpR X (compareOp qc) r')(ha:PE X a ta)(hb:PE X b tb)(hc:PE X c tc)(hm:lastMarks [op,qc] [b,c]=false:=by with_unfolding_all rfl):PE X (.Compare a [op,qc] [b,c] pos) (tChain r r' ta tb tc):=by
 intro a6 s σ H Q I h
 refine Compare_chain (thn (ha a6 s σ H _ I h) λv s1 ⟨x,H1,I1,r1,q1⟩=>chain_link (thn (hb a6 s1 σ H1 _ I1 q1) λu s2 ⟨y,H2,I2,r2,q2⟩ =>
  thn (ho a6 s2 σ H2 x y v u _ I2 r1 r2 q2) λd s3 ⟨z,H3,I3,r3,k,e,q3⟩=>?_)) hm
 subst e
 cases r3
 refine wpAny_truthy_bool ?_
 cases k with
 |false=>exact ite_ff ⟨.bl false,H3,I3,rfl,q3⟩
 |true=>exact ite_tt (chain_last (thn (hc a6 s3 σ H3 _ I3 q3) λw' s4 ⟨z',H4,I4,r4,q4⟩=>aw a6 s4 σ H4 y z' u w' Q I4 r2 r4 q4))
def TruV(K:Nb)(x:V)(H:Hp)(k:Bool):Prop :=
 match x with
 |.non=>k=false
 |.bl b=>k=b
 |.int i=>k=(i != 0)
 |.str y=>y.length≤sizeLine∧k=((y.length:Int) != 0)
 |.byt y=>y.size≤sizeLine∧k=((y.size:Int) != 0)
 |.ref p=>(∃xs,SqL K H p xs∧k=!xs.isEmpty)∨(∃xs,SqT K H p xs∧k=!xs.isEmpty)∨∃kvs,H p=some (.dK kvs)∧k=!kvs.isEmpty
 |_=>False
def isEmpty_kv{κ:Type}{kvs:List (κ×V)}{vs:List (κ×Value)}(r:KV kvs vs):(!vs.isEmpty)=!kvs.isEmpty:=by
 cases r<;>rfl
def zhb{xs:List V}{a7:Ni}(r:Vals xs a7):(!a7.toArray.isEmpty)=!xs.isEmpty:=by
 cases r<;>simp
def zeo:(sizeLine:Nat)<2 ^ 63:=by rw[sizeLine_eq];decide
inductive RTr(K:Nb)(x:V)(H:Hp)(Q:Bool→Hp→Prop):Prop
 |mk (k:Bool) (t:TruV K x H k) (q:Q k H):RTr K x H Q
def tru_ok:TruR X (λx H Q=>RTr X.K x H Q):=by
 intro a6 s σ H x v Q I rx h
 obtain⟨k,e,q⟩:=h
 have hl:=zeo
 have hs:sizeLine=16777216:=sizeLine_eq
 cases x with
 |non =>
  cases rx
  have e':k=false:=e
  subst e'
  exact truthy_none ⟨H,I,q⟩
 |bl b =>
  cases rx
  have e':k=b:=e
  subst e'
  exact wpAny_truthy_bool ⟨H,I,q⟩
 |int i =>
  obtain⟨t,rfl⟩:=rx
  have e':k=(i != 0):=e
  subst e'
  exact PySem.P.truthy_int ⟨H,I,q⟩
 |str y =>
  obtain⟨t,rfl⟩:=rx
  obtain⟨hy,e'⟩:y.length≤sizeLine∧k=((y.length:Int) != 0):=e
  subst e'
  exact PySem.P.truthy_str (by lia) ⟨H,I.tok _,q⟩
 |byt y =>
  obtain⟨t,rfl⟩:=rx
  obtain⟨hy,e'⟩:y.size≤sizeLine∧k=((y.size:Int) != 0):=e
  subst e'
  exact PySem.W.truthy_bytes (by lia) ⟨H,I.tok _,q⟩
 | ref p =>
  cases rx
  have e':(∃xs,SqL X.K H p xs∧k=!xs.isEmpty)∨(∃xs,SqT X.K H p xs∧k=!xs.isEmpty)∨∃kvs,H p=some (.dK kvs)∧k=!kvs.isEmpty:=e
  rcases e' with⟨xs,hx,e'⟩ | ⟨xs,hx,e'⟩ | ⟨kvs,hx,e'⟩
  ·subst e'
   obtain⟨a7,r,pl,hz⟩:=I.list hx
   have aa:=r.length
   exact wpAny_truthy_list pl.isList (by simp only[Qq];lia) ⟨H,I.tok _,by rw[zhb r];exact q⟩
  ·subst e'
   obtain⟨a7,r,pl,hz⟩:=I.tuple hx
   have aa:=r.length
   exact truthy_tuple pl (by simp only[Qq];lia) ⟨H,I.tok _,by rw[zhb r];exact q⟩
  ·subst e'
   obtain⟨hz,hS,vs,r,m⟩:kvs.length≤sizeLine∧(p==sysModules)=false∧∃vs,KV kvs vs∧s.heap.DictOf (zaq X.prog X.w) p vs:=I.hok p _ hx
   have aa:kvs.length=vs.length:=Yf r
   exact wpAny_truthy_dict hS m (by lia) ⟨H,I.tok _,by rw[isEmpty_kv r];exact q⟩
 |_=>exact(show False from e).elim
def zei(ha:PE X a ta)(he:∀whole,isTrue a X.env whole=(do let v ←whole;standAt a.pos;holding [v] (truthy v))) :
  PT X a (λ σ H Q=>ta σ H λx H'=>RTr X.K x H' Q):=by
 intro a6 s σ H Q I h
 exact isTrue_plain (thn (ha a6 s σ H _ I h) λv s1 ⟨x,H1,I1,r1,q1⟩=>tru_ok a6 s1 σ H1 x v Q I1 r1 q1) (he _)
def ze1:OpR X (binaryOp .Add) (λx y H Q=>Ex2 λi j=>Aj4 (x=.str i) (y=.str j) (i.length+j.length≤sizeLine) (Q (.str (i++j)) H)):=by
 intro a6 s σ H x y v u Q I rx ry h
 obtain⟨i,j,rfl,rfl,hz,q⟩:=h
 obtain⟨t,rfl⟩:=rx
 obtain⟨t',rfl⟩:=ry
 exact add_str (λt' tk=>⟨.str (i++j),H,I.tok _,⟨_,rfl⟩,q⟩) hz
def vals1{x:V}{us:Ni}(r:Vals [x] us):∃u,us=[u]∧RelV x u:=by
 cases r with
 |cons r1 r2=>cases r2;exact⟨_,rfl,r1⟩
def vals2{x y:V}{us:Ni}(r:Vals [x,y] us):∃u w',us=[u,w']∧RelV x u∧RelV y w':=by
 cases r with
 |cons r1 r2 =>
  cases r2 with
  |cons r3 r4=>cases r4;exact⟨_,_,rfl,r1,r3⟩
def call_max2(hc:X.calm=true):zb2 X (.builtin "max") (λxs H Q=>Ex2 λi j=>Aj2 (xs=[.int i,.int j]) (Q (.int (if j>i then j else i)) H)):=by
 intro a6 s σ H xs us Q I r h
 obtain⟨i,j,rfl,q⟩:=h
 obtain⟨u,w',rfl,⟨t,rfl⟩,⟨t',rfl⟩⟩:=vals2 r
 refine max_two_ints (I.ok.hd hc) λh' tk k=>⟨_,H,I.kept k,?_,q⟩
 by_cases hj:j>i
 ·rw[if_pos hj,if_pos hj];exact⟨_,rfl⟩
 ·rw[if_neg hj,if_neg hj];exact⟨_,rfl⟩
def call_min2(hc:X.calm=true):zb2 X (.builtin "min") (λxs H Q=>Ex2 λi j=>Aj2 (xs=[.int i,.int j]) (Q (.int (if j<i then j else i)) H)):=by
 intro a6 s σ H xs us Q I r h
 obtain⟨i,j,rfl,q⟩:=h
 obtain⟨u,w',rfl,⟨t,rfl⟩,⟨t',rfl⟩⟩:=vals2 r
 refine min_two_ints (I.ok.hd hc) λh' tk k=>⟨_,H,I.kept k,?_,q⟩
 by_cases hj:j<i
 ·rw[if_pos hj,if_pos hj];exact⟨_,rfl⟩
 ·rw[if_neg hj,if_neg hj];exact⟨_,rfl⟩
end
end L2
namespace L2
open PySem PySem.Spec PyProof.Rows
structure ObjM(h:Nm)(x dx C:Nd)(mA:Ng):Prop where
 obj:h.get? x=some (PySem.W.instObj C dx)
 ns:h.Ns1 dx mA
 ne:dx≠x
def lookIn_ns{h:Nm}{dx:Nd}{mA:Ng}(n:h.Ns1 dx mA):∃od,h.get? dx=some od∧∀name,PySem.W.lookIn name od=some (mA name):=by
 obtain⟨o,es,ep,ho,hd,hk,_,hm⟩:=n
 refine⟨o,ho,λname=>?_⟩
 have e:=hm name
 unfold nsFind findBy at e
 rw[←Array.find?_toList]at e
 unfold PySem.W.lookIn
 rw[hd]
 dsimp only
 split
 ·rename_i y q
  rw[q]at e
  exact congrArg some e
 ·rename_i q
  rw[q]at e
  have a:es.toList.any (·.refKey)=false:=by
   rw[List.any_eq_false]
   intro y hy
   obtain⟨z,t,jS⟩:=hk y (Array.mem_toList_iff.mp hy)
   simp[DictEntry.refKey,jS]
  have a':¬es.toList.any (·.refKey)=true:=by rw[a];exact Zc
  rw[if_neg a']
  exact congrArg some e
def ObjM.look{h:Nm}{x dx C:Nd}{mA:Ng}(I:ObjM h x dx C mA):∃od,PySem.W.InstAt h x (PySem.W.instObj C dx) C (some od)∧∀name,PySem.W.lookIn name od=some (mA name) :=
 let⟨od,ho,hl⟩:=lookIn_ns I.ns
 ⟨od,⟨I.obj,rfl,rfl,ho⟩,hl⟩
section
variable{prog:Nj}{w:Nk}{A:No}{E:Na}{s:Nh}{K:Nb}{x dx C f:Nd}{mA:Ng}{name:Str}{v:Value}
def get_map{expr:Bool}{Q:Na}(X:K.In s.heap)(I:ObjM s.heap x dx C mA)(hg:PySem.W.plainGet K C name=true)(hh:PySem.W.hasDictIn K C=true)(ha:PySem.W.findIn K (.ref C) name=some none)(hv:mA name=some v)(l6:PySem.W.handedIn v=true)(h:Q v {s with toks:=s.toks+1}) :
  wpAny (model prog w) A (getAttr (.ref x) name expr) Q E s:=by
 obtain⟨od,J,hl⟩:=I.look
 exact PySem.W.get_value X J (PySem.W.plainGet_of hg).1 (PySem.W.findObj_own hh ha rfl (by rw[hl,hv])) l6 h
def get_meth{pl:Sem Bool}{Q:Value×List Value→Shared→Prop}(X:K.In s.heap)(I:ObjM s.heap x dx C mA)(hg:PySem.W.plainGet K C name=true)(hf:PySem.W.findIn K (.ref C) name=some (some (.ref f)))(ht:PySem.W.isFn K (.ref f)=true)(hv:mA name=none)(h:Q (.ref f,[.ref x]) s) :
  wpAny (model prog w) A (getMethod (.ref x) name pl) Q E s:=by
 obtain⟨od,J,hl⟩:=I.look
 exact PySem.W.method_fn X J (PySem.W.plainGet_of hg).1 (PySem.W.plainGet_of hg).2 hf (beq_iff_eq.mp ht) (by show(PySem.W.lookIn name od).map (·.isSome)=some false;rw[hl,hv];rfl) h
def set_map{ns:Nf}{Q:Unit→Shared→Prop}(X:K.In s.heap)(I:ObjM s.heap x dx C mA)(hs:PySem.W.findIn K (.ref C) "__setattr__" = some (some (.builtin "object.__setattr__")))(hp:PySem.W.plainOver K C=true)(ht:PySem.W.takerIn K C name=some none)(hh:PySem.W.hasDictIn K C=true)(hw:PySem.Within mA ns)(hsz:ns.length≤sizeLine)(h:∀h',ObjM h' x dx C (λy=>if y=name then some v else mA y)→Heap.SameBut dx s.heap h'→Q () {s with heap:=h',toks:=s.toks+2}) :
  wpAny (model prog w) A (setAttr (.ref x) name v) Q E s:=by
 obtain⟨od,J,hl⟩:=I.look
 refine PySem.W.set_plain X J hs (PySem.W.osa_open (s:={s with toks:=s.toks+1}) (r:=none) X J hp ht λb=>?_)
 obtain⟨cd,hc,gH⟩:=PySem.W.any_some hh
 have hx:s.heap.get? x=some ⟨.ref C,some dx,.plain,#[]⟩:=I.obj
 refine wpAny_bind (wpAny_pure (wpAny_bind (wpAny_bind (wpAny_loadPart hx (wpAny_bind (PySem.W.Looks.here (s:={s with toks:=s.toks+1}) (PySem.W.looks_clsIn X hc) ?_))))))
 rw[gH]
 refine wpAny_pure (a:=some dx) (wpAny_bind (wpAny_pure (wpAny_bind ?_)))
 refine wpAny_nsSet1 (s:={s with toks:=s.toks+1}) I.ns λh' cz df=>?_
 obtain⟨oD,esD,epD,hoD,hdD,cQ⟩:=cz.count (PySem.Within.cons name v hw)
 refine wpAny_bind (wpAny_lookBehind hoD (by rw[hdD];exact pastItsLine_dict (Zk cQ (by rw[Zf];exact zar4 ‹_›))) ?_)
 exact wpAny_pure (h _ ⟨(df.2 _ (Zi I.ne)).trans I.obj,cz,I.ne⟩ df)
def make_map{R:Nu}{vs:Ni}{kw:List (Str×Value)}(X:K.In s.heap)(hm:PySem.W.makesIn K C=true)(hi:PySem.W.findIn K (.ref C) "__init__" = some (some (.ref f)))(hf:PySem.W.typeIn K (.ref f)=some (.type "function"))(h:codeAny (model prog w) (A.under (.builtin "type.__call__" ⟨.ref C::vs,kw⟩)) (.call (.ref f) ⟨.ref (s.heap.objs.size+1)::vs,kw⟩) (PySem.W.InitBack (s.heap.objs.size+1) R)
   {s with heap:=(s.heap.push PySem.W.emptyDict).push (PySem.W.instObj C s.heap.objs.size)}) :
  codeAny (model prog w) A (.call (.ref C) ⟨vs,kw⟩) R s:=by
 obtain⟨hh,g,d,t,os⟩:=s
 exact PySem.W.make_core (PySem.W.makes_of X hm) (PySem.W.looks_findIn X hi) (λself=>PySem.W.bind_fn X self hf) (.inl rfl) h
end
def putF(f:Str)(v:V):List (Str×V)→List (Str×V)
 |[]=>[(f,v)]
 |(g,x)::r=>if g=f then(g,v)::r else(g,x)::putF f v r
theorem zgg(f g:Str)(v:V):∀fs:List (Str×V),(putF f v fs).lookup g=if g=f then some v else fs.lookup g
 | []=>by
  show List.lookup g [(f,v)]=_
  by_cases h:g=f
  ·have hb:(g == f)=true:=beq_iff_eq.mpr h
   simp only[List.lookup,hb,if_pos h]
  ·have hb:(g == f)=false:=beq_eq_false_iff_ne.mpr h
   simp only[List.lookup,hb,if_neg h]
 | (k,x)::r=>by
  have ih:=zgg f g v r
  rw[show putF f v ((k,x)::r)=(if k=f then(k,v)::r else(k,x)::putF f v r) from rfl]
  by_cases hk:k=f
  ·rw [if_pos hk]
   by_cases h:g=k
   ·have hb:(g == k)=true:=beq_iff_eq.mpr h
    simp only[List.lookup,hb,if_pos (h.trans hk)]
   ·have hb:(g == k)=false:=beq_eq_false_iff_ne.mpr h
    simp only[List.lookup,hb,if_neg (λe:g=f=>h (e.trans hk.symm))]
  ·rw [if_neg hk]
   by_cases h:g=k
   ·have hb:(g == k)=true:=beq_iff_eq.mpr h
    simp only[List.lookup,hb,if_neg (λe:g=f=>hk (h.symm.trans e))]
   ·have hb:(g == k)=false:=beq_eq_false_iff_ne.mpr h
    simp only[List.lookup,hb]
    exact ih
theorem zgk(f:Str)(v:V):∀fs:List (Str×V),f∈(putF f v fs).map (·.1)∧∀g,g∈fs.map (·.1)→g∈(putF f v fs).map (·.1)
 |[]=>⟨by simp[putF],λg h=>by simp at h⟩
 | (k,x)::r=>by
  obtain⟨i1,i2⟩:=zgk f v r
  rw[show putF f v ((k,x)::r)=(if k=f then(k,v)::r else(k,x)::putF f v r) from rfl]
  by_cases hk:k=f
  ·rw [if_pos hk]
   subst hk
   exact⟨by simp,λg h=>by simpa using h⟩
  ·rw [if_neg hk]
   refine⟨?_,λg h=>?_⟩
   ·rw [Ql]
    exact Qi _ i1
   ·rw [Ql] at h ⊢
    rcases Qh.mp h with e | e
    ·exact Qh.mpr (.inl e)
    ·exact Qi _ (i2 g e)
theorem zgi(f:Str)(v:V):∀fs:List (Str×V),(putF f v fs).length≤fs.length+1
 |[]=>by simp[putF]
 |(k,x)::r=>by
  have ih:=zgi f v r
  rw[show putF f v ((k,x)::r)=(if k=f then(k,v)::r else(k,x)::putF f v r) from rfl]
  by_cases hk:k=f
  ·rw[if_pos hk,Zf,Zf];exact Wp _ _
  ·rw[if_neg hk,Zf,Zf];exact zar4 ‹_›
def RelO.some_of{v:V}{o:Option Value}(r:RelO (some v) o):∃u,o=some u∧RelV v u:=by
 cases o with
 |none=>exact(show False from r).elim
 |some u=>exact⟨u,rfl,r⟩
def RelO.none_of{o:Option Value}(r:RelO none o):o=none:=by
 cases o with
 |none=>rfl
 |some u=>exact(show False from r).elim
def handed_of{v:V}{u:Value}(r:RelV v u):PySem.W.handedIn u=true:=by
 cases v with
 |non=>cases(show u=Value.none from r);rfl
 |bl b=>cases(show u=Value.bool b from r);rfl
 |int i=>obtain⟨t,e⟩:=(show ∃t,u=Value.int i t from r);cases e;rfl
 |str x=>obtain⟨t,e⟩:=(show ∃t,u=Value.str x t from r);cases e;rfl
 |byt b=>obtain⟨t,e⟩:=(show ∃t,u=Value.bytes b t from r);cases e;rfl
 |flt b=>obtain⟨t,e⟩:=(show ∃t,u=Value.float b t from r);cases e;rfl
 |ref a=>cases(show u=Value.ref a from r);rfl
 |ty n=>cases(show u=Value.type n from r);rfl
section
variable{P:Nj}{w:Nk}{H H':Hp}{h h':Nm}{a C dx:Nd}{fs fs':List (Str×V)}
def ins_get(hok:HOk P w H h)(e:H a=some (.ins C dx fs)):∃mA,ObjM h a dx C mA∧(∀f,RelO (fs.lookup f) (mA f))∧PySem.Within mA (fs.map (·.1))∧fs.length≤1000∧H dx=some (.own a):=by
 obtain⟨d,z,ne,ob,mA,n,r,q⟩:=(show zbr P w H h a (.ins C dx fs) from hok a _ e)
 exact⟨mA,⟨ob,n,ne⟩,r,q,z,d⟩
end
structure Cls(K:Nb)(C:Nd):Prop where
 pg:PySem.W.plainGet K C Str.empty=true
 hd:PySem.W.hasDictIn K C=true
 po:PySem.W.plainOver K C=true
 sa:PySem.W.findIn K (.ref C) "__setattr__" = some (some (.builtin "object.__setattr__"))
def Cls.get{K:Nb}{C:Nd}(c:Cls K C)(f:Str):PySem.W.plainGet K C f=true:=c.pg
def zc3(K:Nb)(C:Nd)(f:Str):Prop:=PySem.W.findIn K (.ref C) f=some none
def zc3.taker{K:Nb}{C:Nd}{f:Str}(n:zc3 K C f):PySem.W.takerIn K C f=some none:=by
 unfold PySem.W.takerIn
 rw[show PySem.W.findIn K (.ref C) f=some none from n]
 rfl
structure Meth(K:Nb)(C:Nd)(m:Str)(f:Nd):Prop where
 at_:PySem.W.findIn K (.ref C) m=some (some (.ref f))
 fn:PySem.W.isFn K (.ref f)=true
 kp:PySem.W.keepIn K (.ref f)=true
section
variable{X:Cx}{a6:Nc}{σ:St}{H:Hp}{s:Nh}{a C dx:Nd}{fs:List (Str×V)}{f:Str}{v:V}{A:No}{E:Na}
def getattr_ok{b:Bool}{Q:Na}(I:Inv X a6 σ H s)(e:H a=some (.ins C dx fs))(c:Cls X.K C)(n:zc3 X.K C f)(l:fs.lookup f=some v)(h:∀u s',Inv X a6 σ H s'→RelV v u→Q u s'):wpAny (model X.prog X.w) A (getAttr (.ref a) f b) Q E s:=by
 obtain⟨mA,O,r,_,_,_⟩:=ins_get I.hok e
 obtain⟨u,hu,ru⟩:=RelO.some_of (v:=v) (o:=mA f) (by rw[←l];exact r f)
 exact get_map I.kIn O (c.get f) c.hd n hu (handed_of ru) (h u _ (I.tok _) ru)
def zhc{m:Str}{g:Nd}{pl:Sem Bool}{Q:Value×List Value→Shared→Prop}(I:Inv X a6 σ H s)(e:H a=some (.ins C dx fs))(c:Cls X.K C)(k:Meth X.K C m g)(l:fs.lookup m=none)(h:Q (.ref g,[.ref a]) s):wpAny (model X.prog X.w) A (getMethod (.ref a) m pl) Q E s:=by
 obtain⟨mA,O,r,_,_,_⟩:=ins_get I.hok e
 have hn:mA m=none:=RelO.none_of (by rw[←l];exact r m)
 exact get_meth I.kIn O (c.get m) k.at_ k.fn hn h
def setattr_ok{y:V}{u:Value}{Q:Unit→Shared→Prop}(I:Inv X a6 σ H s)(e:H a=some (.ins C dx fs))(c:Cls X.K C)(n:zc3 X.K C f)(hl:fs.length<1000)(ry:RelV y u)(h:∀s',Inv X a6 σ (upd H a (.ins C dx (putF f y fs))) s'→Q () s'):wpAny (model X.prog X.w) A (setAttr (.ref a) f u) Q E s:=by
 obtain⟨mA,O,r,wi,_,ho⟩:=ins_get I.hok e
 have hz:(fs.map (·.1)).length≤sizeLine:=by rw[Qa,sizeLine_eq];lia
 refine set_map I.kIn O c.sa c.po n.taker c.hd wi hz λh' O' sb=>h _ ?_
 have hd:∃o,h'.get? dx=some o:=let⟨o,_,_,e',_⟩:=O'.ns;⟨o,e'⟩
 refine I.write (x:=a) (e:=dx) (by rw[e];exact True.intro) (.inr ho) (λb q hb z=>(sb.2 b hb).trans z) hd ?_
 refine⟨by rw[zad O.ne];exact ho,?_,O.ne,O'.obj,_,O'.ns,λg=>?_,λg hg=>?_⟩
 ·have:=zgi f y fs;exact Zk ‹_› ‹_›
 ·show RelO ((putF f y fs).lookup g) (if g=f then some u else mA g)
  rw[zgg]
  by_cases q:g=f
  ·rw[if_pos q,if_pos q];exact ry
  ·rw[if_neg q,if_neg q];exact r g
 ·by_cases q:g=f
  ·rw[q];exact(zgk f y fs).1
  ·refine (zgk f y fs).2 g (wi g fun z=>hg ?_)
   show(if g=f then some u else mA g)=none
   rw[if_neg q];exact z
def Inv.made(I:Inv X a6 σ H s):Inv X a6 σ (upd (upd H s.heap.objs.size (.own (s.heap.objs.size+1))) (s.heap.objs.size+1) (.ins C s.heap.objs.size []))
  {s with heap:=(s.heap.push PySem.W.emptyDict).push (PySem.W.instObj C s.heap.objs.size)}:=by
 have e1:(s.heap.push PySem.W.emptyDict).get? s.heap.objs.size=some PySem.W.emptyDict:=Qw s.heap rfl
 have e2:((s.heap.push PySem.W.emptyDict).push (PySem.W.instObj C s.heap.objs.size)).get? (s.heap.objs.size+1)=some (PySem.W.instObj C s.heap.objs.size):=by
  have:=Qw (s.heap.push PySem.W.emptyDict) (o:=PySem.W.instObj C s.heap.objs.size) rfl
  rwa[Wl]at this
 have e3:(s.heap.push PySem.W.emptyDict).Ns s.heap.objs.size (λ_=>none):=⟨PySem.W.emptyDict,#[],_,e1,rfl,(λe he=>absurd he (by simp)),λ_=>rfl⟩
 have I1:=I.laid (a:=s.heap.objs.size) (o:=.own (s.heap.objs.size+1)) (h':=s.heap.push PySem.W.emptyDict) (t':=s.toks) (λb u q=>Qf _ q) (Qg _) ⟨_,e1⟩
 refine I1.laid (a:=s.heap.objs.size+1) (o:=.ins C s.heap.objs.size []) (t':=s.toks) (λb u q=>Qf _ q) (Nat.le_of_eq (Wl _ _)) ?_
 have ne:s.heap.objs.size≠s.heap.objs.size+1:=Zj (Ya _)
 refine⟨by rw[zad ne,zac],Zp _,ne,e2,λ_=>none,(Heap.Ns1.of_empty e3).at λo q=>Qf _ q,λ_=>True.intro,λy hy=>absurd rfl hy⟩
def attr_of{prog:Nj}{w:Nk}{env:Env}{e:Expr}{f:Str}{pos:Pos}{s:Nh}{Q:Na}(hb:attributeBase e f env (eval e env)=eval e env)(h:wpAny (model prog w) A (eval e env) (λo s₁=>wpAny (model prog w) A (getAttr o f true) Q E s₁) E s):wpAny (model prog w) A (eval (.Attribute e f pos) env) Q E s :=
 Attribute_any_ h (by rw[arm_eval_Attribute,hb])
end
inductive RFld(K:Nb)(f:Str)(x:V)(H:Hp)(Q:VK):Prop
 |mk (a C dx:Nd) (fs:List (Str×V)) (v:V) (e:x=.ref a) (h:H a=some (.ins C dx fs)) (c:Cls K C) (n:zc3 K C f) (l:fs.lookup f=some v) (q:Q v H):RFld K f x H Q
def tFld(K:Nb)(ta:TE)(f:Str):TE:=λ σ H Q=>ta σ H λx H1=>RFld K f x H1 Q
inductive RFs(K:Nb)(f:Str)(x y:V)(H:Hp)(N:Hp→Prop):Prop
 |mk (a C dx:Nd) (fs:List (Str×V)) (e:x=.ref a) (h:H a=some (.ins C dx fs)) (c:Cls K C) (n:zc3 K C f) (l:fs.length<1000) (q:N (upd H a (.ins C dx (putF f y fs)))):RFs K f x y H N
def sFld(K:Nb)(ta tv:TE)(f:Str):TS:=λD σ H=>tv σ H λy H1=>ta σ H1 λx H2=>RFs K f x y H2 (D.nx σ)
section
variable{X:Cx}{o e value:Expr}{f:Str}{pos bn tpos:Pos}{ta tv:TE}
def zek(he:PE X e ta)(hb:attributeBase e f X.env (eval e X.env)=eval e X.env):PE X (.Attribute e f pos) (tFld X.K ta f):=by
 intro a6 s σ H Q I h
 refine attr_of hb (thn (he a6 s σ H _ I h) λu s1 ⟨x,H1,I1,rx,a,C,dx,fs,v,ex,ea,c,n,l,q⟩=>?_)
 subst ex
 obtain rfl:u=Value.ref a:=rx
 exact getattr_ok I1 ea c n l λu' s2 I2 ru=>⟨v,H1,I2,ru,q⟩
def ps_fld(ha:PE X o ta)(hv:PE X value tv)(hs:swapsWith value (some (.Attribute o f bn)) pos.line X.env=pure false):PS X (.Assign [.Attribute o f bn] value pos) (sFld X.K ta tv f):=by
 intro a6 s σ H D I h
 refine plainObj_wpAny_Assign_Attribute (thn (hv a6 s σ H _ I h) λu s1 ⟨y,H1,I1,ry,q⟩=>thn (ha a6 s1 σ H1 _ I1 q) λov s2 ⟨x,H2,I2,rx,a,C,dx,fs,ex,ea,c,n,l,q2⟩=>?_) hs
 subst ex
 obtain rfl:ov=Value.ref a:=rx
 exact setattr_ok I2 ea c n l ry λs3 I3=>⟨σ,_,I3,q2⟩
def methcall_of{pl:Sem Bool}{m:Str}{apos:Pos}{args:Np}{a6:Nc}{s:Nh}{σ:St}{H:Hp}{Q:Na}{te:TE}(he:PE X e te)(I:Inv X a6 σ H s)(h:te σ H fun x H1=>∃ a C dx fs g,x=.ref a∧H1 a=some (.ins C dx fs)∧Cls X.K C∧Meth X.K C m g∧fs.lookup m=none ∧
   ∀s1,Inv X a6 σ H1 s1→wpAny (model X.prog X.w) X.A (callWith pos (.ref g) [.ref a] (backTo pos (starEach args X.env)) (backToKw pos (keywordEach [] X.env))) Q X.xe s1)(ht:eval (.Call (.Attribute e m apos) args [] pos) X.env=(do
   let ov ←eval e X.env
   standAt apos.atName
   let(f,first) ←holding [ov] (getMethod ov m pl)
   callWith pos f first (backTo pos (starEach args X.env)) (backToKw pos (keywordEach [] X.env)))) :
  wpAny (model X.prog X.w) X.A (eval (.Call (.Attribute e m apos) args [] pos) X.env) Q X.xe s:=by
 refine PySem.W.methodCall_KW (pl:=pl) (thn (he a6 s σ H _ I h) λu s1 ⟨x,H1,I1,rx,a,C,dx,fs,g,ex,ea,c,k,l,q⟩=>?_) ht
 subst ex
 obtain rfl:u=Value.ref a:=rx
 exact zhc I1 ea c k l (q s1 I1)
end
section
variable{X:Cx}{a6:Nc}{σ:St}{H:Hp}{s:Nh}{A:No}{E:Na}{Q:Na}{c:Value}{b:Bool}
end
end L2
namespace L2
open PySem PySem.Spec PyProof.Rows
structure Room(k:Nat)(A:No):Prop where
 hd:A.handled=none
 dp:A.depth+3*k+5<recursionLimit
 un:A.units+16*k+200<cLine
def Room.mono{j k:Nat}{A:No}(r:Room k A)(h:j≤k):Room j A:=⟨r.hd,by have:=r.dp;lia,by have:=r.un;lia⟩
def Room.deeper{k:Nat}{A:No}(r:Room (k+1) A)(env:Env):Room k (A.deeper env) :=
 ⟨r.hd,by have:=r.dp;show A.depth+1+3*k+5<_;lia,by have:=r.un;show A.units+3+16*k+200<_;lia⟩
def make_depth{A:No}{C:Nd}{us:Ni}{kw:List (Str×Value)}:(A.under (.builtin "type.__call__" ⟨.ref C::us,kw⟩)).depth=A.depth+1:=by
 first | rfl | simp[Around.under,Code.weight,Code.isCreation,Code.isGuard,Code.isCaller,Code.frames,Code.isFrame,guardIds]
def make_units{A:No}{C:Nd}{us:Ni}{kw:List (Str×Value)}:(A.under (.builtin "type.__call__" ⟨.ref C::us,kw⟩)).units=A.units+1:=by
 first | rfl | simp[Around.under,Code.cUnits,Code.frames,Code.isFrame]
def Room.make{k:Nat}{A:No}(r:Room (k+1) A)(C:Nd)(us:Ni)(kw:List (Str×Value)):Room k (A.under (.builtin "type.__call__" ⟨.ref C::us,kw⟩)) :=
 ⟨r.hd,by have:=r.dp;rw[make_depth];lia,by have:=r.un;rw[make_units];lia⟩
def Room.depth{k:Nat}{A:No}(r:Room k A):A.depth<recursionLimit:=by have:=r.dp;lia
def Room.units{k:Nat}{A:No}(r:Room k A):A.units+64<cLine:=by have:=r.un;lia
def tNil:TA:=λ_ H Q=>Q [] H
def tCons(ta:TE)(tr:TA):TA:=λ σ H Q=>ta σ H λx H1=>tr σ H1 λxs H2=>Q (x::xs) H2
section
variable{X:Cx}{e:Expr}{es:Np}{te:TE}{t:TA}{pos:Pos}
def zaf:PA X [] tNil:=λ_ _ _ _ H Q I h=>Calls.spliced_nil ⟨[],H,I,.nil,h⟩
def zaa(ha:PE X e te)(hr:PA X es t)(hs:starEach (e::es) X.env=(false,eval e X.env)::starEach es X.env:=by rfl):PA X (e::es) (tCons te t):=by
 intro pos a6 s σ H Q I h
 rw[hs]
 show wpAny _ _ (spliced ((false,eval e X.env)::backTo pos (starEach es X.env))) _ _ s
 refine Calls.spliced_cons (thn (ha a6 s σ H _ I h) λu s1 ⟨x,H1,I1,r1,q1⟩=>?_)
 exact thn (hr pos a6 s1 σ H1 _ I1 q1) λus s2 ⟨xs,H2,I2,r2,q2⟩=>⟨x::xs,H2,I2,.cons r1 r2,q2⟩
def tTup(t:TA):TE:=λ σ H Q=>t σ H λxs H1=>xs.length≤sizeLine∧∀p,H1 p=none→Q (.ref p) (upd H1 p (.tup xs))
def tLst(t:TA):TE:=λ σ H Q=>t σ H λxs H1=>xs.length≤sizeLine∧∀p,H1 p=none→Q (.ref p) (upd H1 p (.lst xs))
def zce{x1}(h:PA X es t):PE X (.Tuple es x1 pos) (tTup t):=by
 intro a6 s σ H Q I hq
 refine wpAny_Tuple_spliced (thn (h pos a6 s σ H _ I hq) λus s1 ⟨xs,H1,I1,r,z,q⟩=>⟨by rw[←r.length];exact z,?_⟩)
 have hf:H1 s1.heap.objs.size=none:=I1.hok.fresh (Qg _)
 refine⟨.ref s1.heap.objs.size,upd H1 s1.heap.objs.size (.tup xs),I1.laid (t':=s1.toks) (λb u e=>Qf _ e) (Qg _) ?_,rfl,q _ hf⟩
 exact⟨z,us,r,⟨_,Qw _ rfl,rfl,_,rfl⟩⟩
def za7(h:PA X es t):PE X (.List es pos) (tLst t):=by
 intro a6 s σ H Q I hq
 refine wpAny_List_spliced (thn (h pos a6 s σ H _ I hq) λus s1 ⟨xs,H1,I1,r,z,q⟩=>⟨by rw[←r.length];exact z,?_⟩)
 have hf:H1 s1.heap.objs.size=none:=I1.hok.fresh (Qg _)
 refine⟨.ref s1.heap.objs.size,upd H1 s1.heap.objs.size (.lst xs),I1.laid (t':=s1.toks) (λb u e=>Qf _ e) (Qg _) ?_,rfl,q _ hf⟩
 exact⟨z,us,0,r,Qw _ rfl⟩
end
abbrev Sp:=List V→Hp→VK→XK→Prop
abbrev CXT:=List Env→Hp→Shared→XK→Value→Shared→Prop
structure Env0(P:Nj)(w:Nk)(K:Nb)(mg:Ng)(base:Nm)(A:No)(outer:List Env)(s:Nh)(H:Hp):Prop where
 frames:A.frames=some outer
 mod:Mod K mg base
 bs:∀b o,base.get? b=some o→s.heap.get? b=some o∧H b=none
 bsz:base.objs.size≤s.heap.objs.size
 funs:s.heap.FunFrames base outer
 frf:∀b∈frs outer,H b=none
 hok:HOk P w H s.heap
 bare:AllBare s.gens
inductive CE(outer:List Env)(P:Nj)(w:Nk)(H:Hp)(s:Nh)(Q:VK)(u:Value)(s':Nh):Prop
 |mk (v:_) (H':_) (h0:s'.os=s.os) (h1:AllBare s'.gens) (h2:Un (frs outer) [] H H' s.heap s'.heap) (h3:HOk P w H' s'.heap) (h4:RelV v u) (h5:Q v H'):CE outer P w H s Q u s'
def CR(CX:CXT)(outer:List Env)(P:Nj)(w:Nk)(H:Hp)(s:Nh)(Q:VK)(E:XK)(r:Result)(s':Nh):Prop :=
 match r with
 |.ok (.ret u)=>CE outer P w H s Q u s'
 |.ok _=>False
 |.error e=>CX outer H s E e s'
structure FnOk(P:Nj)(w:Nk)(K:Nb)(mg:Ng)(base:Nm)(CX:CXT)(k:Nat)(f:Nd)(fd:Nq)(ps:Nf)(sp:Sp):Prop where
 len:∀vs H Q E,sp vs H Q E→vs.length=ps.length
 run:∀(A:No) (outer:List Env) (s:Nh) (H:Hp) (args:Args) (us:Ni) (vs:List V) (Q:VK) (E:XK),Room k A→Env0 P w K mg base A outer s H→BindsTo s fd args (ps.zip us)→Vals vs us→sp vs H Q E →
  codeAny (model P w) A (.call (.ref f) args) (CR CX outer P w H s Q E) s
def FnOk.mono{P:Nj}{w:Nk}{K:Nb}{mg:Ng}{base:Nm}{CX:CXT}{j k:Nat}{f:Nd}{fd:Nq}{ps:Nf}{sp:Sp}(F:FnOk P w K mg base CX j f fd ps sp)(h:j≤k) :
  FnOk P w K mg base CX k f fd ps sp:=⟨F.len,λA outer s H args us vs Q E hr=>F.run A outer s H args us vs Q E (hr.mono h)⟩
def FnOk.imp{P:Nj}{w:Nk}{K:Nb}{mg:Ng}{base:Nm}{CX:CXT}{k:Nat}{f:Nd}{fd:Nq}{ps:Nf}{sp lC:Sp}(F:FnOk P w K mg base CX k f fd ps sp)(h:∀vs H Q E,lC vs H Q E→sp vs H Q E):FnOk P w K mg base CX k f fd ps lC :=
 ⟨λvs H Q E q=>F.len vs H Q E (h _ _ _ _ q),λA outer s H args us vs Q E hr he hb hv hs=>F.run A outer s H args us vs Q E hr he hb hv (h _ _ _ _ hs)⟩
def Env0.make{P:Nj}{w:Nk}{K:Nb}{mg:Ng}{base:Nm}{A:No}{outer:List Env}{s:Nh}{H:Hp}(e:Env0 P w K mg base A outer s H)(C:Nd)(us:Ni)(kw:List (Str×Value)) :
  Env0 P w K mg base (A.under (.builtin "type.__call__" ⟨.ref C::us,kw⟩)) outer s H:=⟨by first | exact e.frames | (simpa[Around.under,Code.envs,Code.isFrame,pushEnvs] using e.frames),e.mod,e.bs,e.bsz,e.funs,e.frf,e.hok,e.bare⟩
section
variable{X:Cx}{a6:Nc}{σ:St}{H:Hp}{s s':Nh}
def Inv.env0(I:Inv X a6 σ H s):Env0 X.prog X.w X.K X.mg X.base X.A X.stack s H :=
 ⟨I.ok.frames,I.ok.mod,I.bs,Zk I.ok.bsz I.sz,I.stack,I.stkFree,I.hok,I.bare⟩
def Inv.after{Q:VK}{u:Value}(I:Inv X a6 σ H s)(h:CE X.stack X.prog X.w H s Q u s'):EP X a6 σ Q u s':=by
 obtain⟨v,H',os,bare,un,hok,r,q⟩:=h
 obtain⟨hh,g,d,t,qb⟩:=s'
 obtain rfl:qb=s.os:=os
 exact⟨v,H',I.call (h':=hh) (g':=g) (d':=d) (t':=t) (ch:=[]) un hok bare (λb z=>absurd z (by simp)),r,q⟩
end
def tCall(sp:Sp)(dvs:List V)(E:XK)(t:TA):TE:=λ σ H Q=>t σ H λvs H1=>sp (vs++dvs) H1 Q E
inductive RMe(C:Nd)(m:Str)(x:V)(H:Hp)(R:Prop):Prop
 |mk (a dx:Nd) (fs:List (Str×V)) (e:x=.ref a) (h:H a=some (.ins C dx fs)) (l:fs.lookup m=none) (q:R):RMe C m x H R
def tMeth(C:Nd)(m:Str)(sp:Sp)(dvs:List V)(E:XK)(ta:TE)(t:TA):TE:=λ σ H Q=>ta σ H λx H1=>RMe C m x H1 <|
 t σ H1 λvs H2=>sp (x::(vs++dvs)) H2 Q E
def tMake(C:Nd)(sp:Sp)(dvs:List V)(E:XK)(t:TA):TE:=λ σ H Q=>t σ H λvs H1=>∀x dx,H1 x=none→H1 dx=none→dx≠x →
 sp (.ref x::(vs++dvs)) (upd (upd H1 dx (.own x)) x (.ins C dx [])) (λv H2=>v=.non∧Q (.ref x) H2) E
def Binds(K:Nb)(fd:Nq)(ps:Nf)(ds:Ni):Prop :=
 ∀(s:Nh) (us:Ni),K.In s.heap→(us++ds).length=ps.length→BindsTo s fd ⟨us,[]⟩ (ps.zip (us++ds))
def Binds.all{K:Nb}{fd:Nq}{ps:Nf}(h:∀us:List Value,us.length=ps.length→bindArgs fd ⟨us,[]⟩=pure (ps.zip us)):Binds K fd ps []:=λs us _ hl=>by
 rw[Zw]at hl ⊢
 exact .of_eq (h us hl)
def zgs(CX:CXT)(X:Cx)(E:XK):Prop:=∀(a6:Nc) (σ:St) (H:Hp) (s:Nh) (e:Value) (s':Nh),Inv X a6 σ H s→CX X.stack H s E e s'→X.xe e s'
section
variable{X:Cx}{CX:CXT}{k:Nat}{f C:Nd}{fd:Nq}{ps:Nf}{sp:Sp}{dvs:List V}{ds:Ni}{E:XK}{x m:Str}{p pos apos:Pos}{e o:Expr}{es:Np}{ta:TE}{t:TA}
def run_fn{a6:Nc}{σ:St}{H:Hp}{s:Nh}{Q:VK}{us:Ni}{vs:List V}(F:FnOk X.prog X.w X.K X.mg X.base CX k f fd ps sp)(hr:Room k X.A)(hb:Binds X.K fd ps ds)(hd:Vals dvs ds)(hx:zgs CX X E)(I:Inv X a6 σ H s)(r:Vals vs us)(h:sp (vs++dvs) H Q E):wpAny (model X.prog X.w) X.A (call (.ref f) us) (EP X a6 σ Q) X.xe s:=by
 have r2:Vals (vs++dvs) (us++ds):=r.append hd
 have hl:(us++ds).length=ps.length:=by rw[←r2.length];exact F.len _ _ _ _ h
 refine wpAny_call (codeAny_mono (F.run X.A X.stack s H ⟨us,[]⟩ (us++ds) (vs++dvs) Q E hr I.env0 (hb s us I.kIn hl) r2 h) λr s' hq=>?_)
 cases r with
 |error e=>exact hx a6 σ H s e s' I hq
 |ok fl =>
  cases fl with
  |ret u=>exact I.after hq
  |next=>exact False.elim hq
  |brk=>exact False.elim hq
  |cont=>exact False.elim hq
def zak(F:FnOk X.prog X.w X.K X.mg X.base CX k f fd ps sp)(hr:Room k X.A)(hg:Gl X x)(hm:X.mg x=some (.ref f))(hk:PySem.W.keepIn X.K (.ref f)=true)(hb:Binds X.K fd ps ds)(hd:Vals dvs ds)(hx:zgs CX X E)(ha:PA X (e::es) t)(dv:(x==("__debug__" : Str))=false:=by decide)(he:starEach (e::es) X.env=(false,eval e X.env)::starEach es X.env:=by rfl)(cg:(backTo pos (starEach es X.env)).any (·.1)=false:=by rfl) :
  PE X (.Call (.Name x p) (e::es) [] pos) (tCall sp dvs E t):=by
 intro a6 s σ H Q I h
 refine wpAny_Call_Name_kw (ze2 I hg hm ?_ dv)
 refine Kc (h₀:=X.base) I.ok.mod.kin hk (thn (ha pos a6 s σ H _ I h) λus s1 ⟨vs,H1,I1,r,q⟩=>⟨I1.kIn,?_⟩) he cg
 exact run_fn F hr hb hd hx I1 r q
def pe_meth{pl:Sem Bool}(he:PE X o ta)(c:Cls X.K C)(hm:Meth X.K C m f)(F:FnOk X.prog X.w X.K X.mg X.base CX k f fd ps sp)(hr:Room k X.A)(hb:Binds X.K fd ps ds)(hd:Vals dvs ds)(hx:zgs CX X E)(ha:PA X (e::es) t)(ap:starEach (e::es) X.env=(false,eval e X.env)::starEach es X.env:=by rfl)(cg:(backTo pos (starEach es X.env)).any (·.1)=false:=by rfl)(ht:eval (.Call (.Attribute o m apos) (e::es) [] pos) X.env=(do
   let ov ←eval o X.env
   standAt apos.atName
   let(f,first) ←holding [ov] (getMethod ov m pl)
   callWith pos f first (backTo pos (starEach (e::es) X.env)) (backToKw pos (keywordEach [] X.env))):=by rfl) :
  PE X (.Call (.Attribute o m apos) (e::es) [] pos) (tMeth C m sp dvs E ta t):=by
 intro a6 s σ H Q I h
 refine PySem.W.methodCall_KW (pl:=pl) (thn (he a6 s σ H _ I h) λu s1 ⟨x,H1,I1,rx,a,dx,fs,ex,ea,l,q⟩=>?_) ht
 subst ex
 obtain rfl:u=Value.ref a:=rx
 refine zhc I1 ea c hm l ?_
 refine Kc (first:=[.ref a]) (h₀:=X.base) I.ok.mod.kin hm.kp (thn (ha pos a6 s1 σ H1 _ I1 q) λus s2 ⟨vs,H2,I2,r,q2⟩=>⟨I2.kIn,?_⟩) ap cg
 exact run_fn (us:=.ref a::us) (vs:=.ref a::vs) F hr hb hd hx I2 (.cons rfl r) q2
structure Mk(K:Nb)(C f:Nd):Prop where
 makes:PySem.W.makesIn K C=true
 init:PySem.W.findIn K (.ref C) "__init__" = some (some (.ref f))
 fn:PySem.W.isFn K (.ref f)=true
 kp:PySem.W.keepIn K (.ref C)=true
def run_make{a6:Nc}{σ:St}{H:Hp}{s:Nh}{Q:VK}{us:Ni}{vs:List V}(M:Mk X.K C f)(F:FnOk X.prog X.w X.K X.mg X.base CX k f fd ps sp)(hr:Room (k+1) X.A)(hb:Binds X.K fd ps ds)(hd:Vals dvs ds)(hx:zgs CX X E)(I:Inv X a6 σ H s)(r:Vals vs us)(h:∀x dx,H x=none→H dx=none→dx≠x→sp (.ref x::(vs++dvs)) (upd (upd H dx (.own x)) x (.ins C dx [])) (λv H2=>v=.non∧Q (.ref x) H2) E) :
  wpAny (model X.prog X.w) X.A (call (.ref C) us) (EP X a6 σ Q) X.xe s:=by
 have hq:=h (s.heap.objs.size+1) s.heap.objs.size (I.hok.fresh (Jk _)) (I.hok.fresh (Qg _)) (Zj (Ya _))
 have I2:=Inv.made (C:=C) I
 have r2:Vals (V.ref (s.heap.objs.size+1)::(vs++dvs)) (Value.ref (s.heap.objs.size+1)::(us++ds)):=.cons rfl (r.append hd)
 have hl:(Value.ref (s.heap.objs.size+1)::us++ds).length=ps.length:=by
  have e:=r2.length
  rw[F.len _ _ _ _ hq]at e
  exact e.symm
 refine wpAny_call (make_map (f:=f) I.kIn M.makes M.init (beq_iff_eq.mp M.fn) (codeAny_mono (F.run _ X.stack _ _ ⟨Value.ref (s.heap.objs.size+1)::us,[]⟩ (Value.ref (s.heap.objs.size+1)::(us++ds)) _ _ E (hr.make C us [])
  (I2.env0.make C us []) (hb _ (Value.ref (s.heap.objs.size+1)::us) I2.kIn hl) r2 hq) λr s' fH=>?_))
 cases r with
 |error e=>exact hx a6 σ _ _ e s' I2 fH
 | ok fl =>
  cases fl with
  |ret u =>
   obtain⟨v,H',I3,rv,ev,q3⟩:=I2.after fH
   subst ev
   exact⟨rv,⟨V.ref (s.heap.objs.size+1),H',I3,rfl,q3⟩⟩
  |next=>exact False.elim fH
  |brk=>exact False.elim fH
  |cont=>exact False.elim fH
def pe_make(M:Mk X.K C f)(F:FnOk X.prog X.w X.K X.mg X.base CX k f fd ps sp)(hr:Room (k+1) X.A)(hg:Gl X x)(hm:X.mg x=some (.ref C))(hb:Binds X.K fd ps ds)(hd:Vals dvs ds)(hx:zgs CX X E)(ha:PA X (e::es) t)(dv:(x==("__debug__" : Str))=false:=by decide)(he:starEach (e::es) X.env=(false,eval e X.env)::starEach es X.env:=by rfl)(cg:(backTo pos (starEach es X.env)).any (·.1)=false:=by rfl) :
  PE X (.Call (.Name x p) (e::es) [] pos) (tMake C sp dvs E t):=by
 intro a6 s σ H Q I h
 refine wpAny_Call_Name_kw (ze2 I hg hm ?_ dv)
 refine Kc (h₀:=X.base) I.ok.mod.kin M.kp (thn (ha pos a6 s σ H _ I h) λus s1 ⟨vs,H1,I1,r,q⟩=>⟨I1.kIn,?_⟩) he cg
 exact run_make M F hr hb hd hx I1 r q
end
section
variable{X:Cx}{CX:CXT}{k:Nat}{f C:Nd}{fd:Nq}{ps ks:Nf}{sp:Sp}{E:XK}{x m:Str}{p pos apos kpos:Pos}{e o:Expr}{es:Np}{kws:List Keyword}{te ta:TE}{t tk:TA}{nm:Option Str}
variable{g:List Value→List Value→List Value}{gV:List V→List V→List V}
end
structure zan(N P:Nf)(sc:Scope):Prop where
 kind:sc.kind=.function
 co:sc.isCoroutine=false
 gen:sc.isGenerator=false
 nd:N.Nodup
 pre:N.take P.length=P
 par:∀x∈P,sc.names.lookup x=some .local∨sc.names.lookup x=some .cell
 nofree:∀y∈sc.names,y.2≠.free
theorem bindL_out{kindOf:Str→Option NameKind}{x:Str}:∀{binds:List (Str×Value)} {m:Ng},(∀v,(x,v)∉binds)→bindL kindOf binds m x=m x
 |[],_,_=>rfl
 | (n,v)::r,m,h=>by
  unfold bindL
  rw[bindL_out λw hw=>h w (Qi _ hw)]
  split
  ·have:x≠n:=by rintro rfl;exact h v Qe
   simp[this]
  ·rfl
theorem bindC_out{kindOf:Str→Option NameKind}{x:Str}:∀{binds:List (Str×Value)} {m:Ng},(∀v,(x,v)∉binds)→bindC kindOf binds m x=m x
 |[],_,_=>rfl
 | (n,v)::r,m,h=>by
  unfold bindC
  rw[bindC_out λw hw=>h w (Qi _ hw)]
  split
  ·rfl
  ·have:x≠n:=by rintro rfl;exact h v Qe
   simp[this]
theorem bindL_get{kindOf:Str→Option NameKind}{x:Str}{v:Value}:∀{P:Nf} {vs:Ni} {i:Nat} {m:Ng},P.Nodup→P[i]?=some x→vs[i]?=some v→kindOf x=some .local →
  bindL kindOf (P.zip vs) m x=some v
 |[],_,_,_,_,h,_,_=>by simp at h
 |_::_,[],_,_,_,_,h,_=>by simp at h
 |p::P,w::vs,0,m,nd,h1,h2,hk=>by
  simp at h1 h2;subst h1;subst h2
  show bindL kindOf ((p,w)::P.zip vs) m p=_
  unfold bindL
  rw[bindL_out λv hv=>(Zb.mp nd).1 (List.of_mem_zip hv).1,if_pos hk]
  simp
 |p::P,w::vs,i+1,m,nd,h1,h2,hk=>by
  show bindL kindOf ((p,w)::P.zip vs) m x=_
  unfold bindL
  exact bindL_get (i:=i) (Zb.mp nd).2 (by simpa using h1) (by simpa using h2) hk
theorem bindC_get{kindOf:Str→Option NameKind}{x:Str}{v:Value}:∀{P:Nf} {vs:Ni} {i:Nat} {m:Ng},P.Nodup→P[i]?=some x→vs[i]?=some v→kindOf x≠some .local →
  bindC kindOf (P.zip vs) m x=some v
 |[],_,_,_,_,h,_,_=>by simp at h
 |_::_,[],_,_,_,_,h,_=>by simp at h
 |p::P,w::vs,0,m,nd,h1,h2,hk=>by
  simp at h1 h2;subst h1;subst h2
  show bindC kindOf ((p,w)::P.zip vs) m p=_
  unfold bindC
  rw[bindC_out λv hv=>(Zb.mp nd).1 (List.of_mem_zip hv).1,if_neg hk]
  simp
 |p::P,w::vs,i+1,m,nd,h1,h2,hk=>by
  show bindC kindOf ((p,w)::P.zip vs) m x=_
  unfold bindC
  exact bindC_get (i:=i) (Zb.mp nd).2 (by simpa using h1) (by simpa using h2) hk
def start(N:Nf)(vs:List V):St:=vs.map some++List.replicate (N.length-vs.length) none
def cxOf(CX:CXT)(P:Nj)(w:Nk)(K:Nb)(mg:Ng)(base:Nm)(N:Nf)(qual:Str)(scope:Scope)(f:Nd)(cd:Value)(A:No)(outer:List Env)(s:Nh)(H:Hp)(E:XK):Cx where
 prog:=P
 w:=w
 K:=K
 mg:=mg
 base:=base
 A:=A.deeper (envOfC qual scope s.heap.objs.size f cd)
 N:=N
 s₀:=s
 H₀:=H
 env:=envOfC qual scope s.heap.objs.size f cd
 outer:=outer
 stack:=envOfC qual scope s.heap.objs.size f cd::outer
 ex:=[]
 calm:=true
 fn:=λ_=>true
 pn:=[]
 xe:=λe s'=>wpAny (model P w) (A.deeper (envOfC qual scope s.heap.objs.size f cd)) (leaving (envOfC qual scope s.heap.objs.size f cd) e) (λ_ lE=>CX outer H s E e lE) (λe' lE=>CX outer H s E e' lE) s'
def cell_has{sc:Scope}{n:Nat}{x:Str}(h:sc.names.lookup x=some .cell):∃c,(cellsFrom n sc.names []).lookup x=some c:=by
 have q:=PySem.W.cellsFrom_some sc.names n [] (.inl h)
 exact Option.isSome_iff_exists.mp q
def inv_start{CX:CXT}{P:Nj}{w:Nk}{K:Nb}{mg:Ng}{base:Nm}{N ps:Nf}{qual:Str}{scope:Scope}{f:Nd}{cd:Value}{A:No}{outer:List Env}{s s1:Nh}{H:Hp}{E:XK}{us:Ni}{vs:List V}(S:zan N ps scope)(hd:A.handled=none)(e0:Env0 P w K mg base A outer s H)(hl:vs.length=ps.length)(r:Vals vs us)(x:InCallC s s.heap.objs.size (bindL (envOfC qual scope s.heap.objs.size f cd).kindOf (ps.zip us) λ_=>none) (cellsFrom (s.heap.objs.size+1) scope.names []) (bindC (envOfC qual scope s.heap.objs.size f cd).kindOf (ps.zip us) λ_=>none) s1) :
  Inv (cxOf CX P w K mg base N qual scope f cd A outer s H E) [] (start N vs) H s1:=by
 have cg:ps.length≤N.length:=by have:=congrArg List.length S.pre;rw[Zn]at this;lia
 obtain⟨h1,tk,rfl,hk⟩:=x.done
 have noA:∀b:Addr,b∉(cxOf CX P w K mg base N qual scope f cd A outer s H E).ex:=λb z=>absurd (show b∈([]:List Addr) from z) (by simp)
 refine⟨⟨e0.mod,S.kind,rfl,rfl,Qg _,λy z c h1 h2=>?_,λy hy=>?_,λy c _ h=>?_,λ_=>hd,Around.frames_deeper e0.frames,.inr ⟨rfl,rfl⟩,λb z=>absurd z (noA b),e0.bs,e0.bsz,λb _ _=>noA b,λb z=>absurd z (noA b),e0.funs,e0.frf⟩,
  rfl,e0.bare,Un.kept hk,⟨_,x.toInCall.ns,λi y v h1 h2 h3=>?_⟩,λy c h=>⟨_,x.cell y c h⟩,e0.hok.fresh (Qg _),λy c h=>?_,λp hp=>absurd (show p∈([]:List (Addr×Obj)) from hp) (by simp),e0.hok.kept hk,?_⟩
 ·exact name_of_addr x.apart (Wj h1) (Wj h2)
 ·have hy:scope.names.lookup y=some .cell∨scope.names.lookup y=some .free:=hy
  rcases hy with hy | hy
  ·exact cell_has hy
  ·exact absurd rfl (S.nofree _ (Wj hy))
 ·exact Ww (x.above y c (Wj h))
 ·have hi:i < vs.length:=by
   unfold start at h2
   by_cases hi:i<vs.length
   ·exact hi
   ·rw [Ja (by simpa using hi)] at h2
    rw[List.getElem?_replicate]at h2
    split at h2<;>cases h2
  have ha:vs[i]?=some v:=by
   unfold start at h2
   rw[List.getElem?_append_left (by simpa using hi),Qt]at h2
   cases e:vs[i]? with
   |none=>rw[e]at h2;cases h2
   |some a=>rw[e]at h2;cases h2;rfl
  obtain⟨u,hu,rv⟩:=r.get ha
  have hp:ps[i]?=some y:=by
   rw[←S.pre,List.getElem?_take_of_lt (by exact zar7 ‹_› ‹_›)];exact h1
  have ndP:ps.Nodup:=by rw[←S.pre];exact S.nd.sublist (Kp _ _)
  refine⟨u,rv,?_⟩
  rcases S.par y (Yo hp) with k | k
  ·exact .inl ⟨k,bindL_get ndP hp hu k⟩
  ·obtain ⟨c,e⟩:=cell_has (n:=s.heap.objs.size+1) k
   refine .inr ⟨.inl k,c,e,?_⟩
   have q:=x.cell y c e
   rw[bindC_get ndP hp hu (by show scope.names.lookup y≠_;rw[k];decide)]at q
   exact q
 ·exact e0.hok.fresh (Ww (x.above y c (Wj h)))
 ·unfold start
  show _=N.length
  rw[Qj,Qa,Xk]
  lia
def fn_of{CX:CXT}{P:Nj}{w:Nk}{K:Nb}{mg:Ng}{base:Nm}{k:Nat}{f:Nd}{name qual:Str}{params:Arguments}{body:List Stmt}{scope:Scope}{dV kV doc pm cdv ct oc:Value}{an od:Option Addr}{osl:Array (Option Value)}{N ps:Nf}{sp:Sp}(lk:K.lookup f=some ⟨oc,od,.func (PySem.W.fnOf name qual params body scope dV kV doc pm an cdv ct),osl⟩)(aO:PySem.W.codeIn K cdv qual=true)(S:zan N ps scope)(len:∀vs H Q E,sp vs H Q E→vs.length=ps.length)(br:∀ (A:No) (outer:List Env) (s:Nh) (H:Hp) (vs:List V) (Q:VK) (E:XK),Room k (A.deeper (envOfC qual scope s.heap.objs.size f cdv))→sp vs H Q E →
   ∃t,PSs (cxOf CX P w K mg base N qual scope f cdv A outer s H E) body t∧t {nx:=λ_ H'=>Q .non H',rt:=Q} (start N vs) H) :
  FnOk P w K mg base CX (k+1) f (PySem.W.fnOf name qual params body scope dV kV doc pm an cdv ct) ps sp:=by
 refine⟨len,λA outer s H args us vs Q E hr e0 hb r bv=>?_⟩
 have hl:=len _ _ _ _ bv
 have KX:K.In s.heap:=e0.mod.kin.keeps λb o e=>(e0.bs b o e).1
 have lim:s.heap.NoLimit:=e0.mod.nolimit.keeps λb o e=>(e0.bs b o e).1
 have dD:∀y∈ps.zip us,scope.names.lookup y.1=some .local∨(scope.names.lookup y.1=some .cell∧((cellsFrom (s.heap.objs.size+1) scope.names []).lookup y.1).isSome=true):=λ⟨n,v⟩ hy=>by
  rcases S.par n (List.of_mem_zip hy).1 with q | q
  ·exact .inl q
  ·exact .inr ⟨q,PySem.W.cellsFrom_some _ _ _ (.inl q)⟩
 refine codeAny_call_function hr.depth (KX _ _ lk) rfl S.co S.gen rfl (PySem.W.codeRec_of KX aO) (hb _ _ _ _ ?_)
 refine wpAny_newFunctionEnv_cells S.kind dD λenv he s1 x=>?_
 subst he
 refine⟨lim.keeps x.toInCall.keep,codeAny_func ?_⟩
 obtain⟨t,ht,hq⟩:=br A outer s H vs Q E (hr.deeper _) bv
 have I:Inv (cxOf CX P w K mg base N qual scope f cdv A outer s H E) [] (start N vs) H s1:=inv_start S hr.hd e0 hl r x
 refine wpAny_mono (ht [] s1 (start N vs) H _ I hq) (λfl s' hs=>?_) λe s' hs=>hs
 have fin:∀{σ':St} {H':Hp} {v:V} {u:Value},Inv (cxOf CX P w K mg base N qual scope f cdv A outer s H E) [] σ' H' s'→RelV v u→Q v H'→CE outer P w H s Q u s' :=
  λ{σ' H' v u} J rv q=>⟨v,H',J.os,J.bare,J.base,J.hok,rv,q⟩
 cases fl with
 |ret u =>
  obtain⟨v,σ',H',J,rv,q⟩:=hs
  exact fin J rv q
 |next =>
  obtain⟨σ',H',J,q⟩:=hs
  exact fin (v:=V.non) (u:=Value.none) J rfl q
 |brk =>
  obtain⟨_,_,_,q⟩:=hs
  exact False.elim q
 |cont =>
  obtain⟨_,_,_,q⟩:=hs
  exact False.elim q
end L2
namespace L2
open PySem PySem.Spec PyProof.Rows
section
variable{X:Cx}{x:Str}{p pos:Pos}{e:Expr}{es:Np}{t:TA}{id T:String}{r:List V→Hp→VK→Prop}
def tCB(r:List V→Hp→VK→Prop)(t:TA):TE:=λ σ H Q=>t σ H λvs H1=>r vs H1 Q
def zaj(hc:zb2 X (.builtin id) r)(hg:Gl X x)(hm:X.mg x=none)(hv:bootBuiltins x=some (.builtin id))(ha:PA X (e::es) t)(hn:x ≠ "__name__" := by decide)(dv:(x==("__debug__" : Str))=false:=by decide)(he:starEach (e::es) X.env=(false,eval e X.env)::starEach es X.env:=by rfl)(cg:(backTo pos (starEach es X.env)).any (·.1)=false:=by rfl):PE X (.Call (.Name x p) (e::es) [] pos) (tCB r t):=by
 intro a6 s σ H Q I h
 refine wpAny_Call_Name_kw (ld_blt I hg hm hv ?_ hn dv)
 exact PyProof.Rows.callWith_builtin1 (thn (ha pos a6 s σ H _ I h) λus s1 ⟨vs,H1,I1,r1,q1⟩=>hc a6 s1 σ H1 vs us Q I1 r1 q1) he cg
def zco(hc:zb2 X (.type T) r)(hg:Gl X x)(hm:X.mg x=none)(hv:bootBuiltins x=some (.type T))(ha:PA X (e::es) t)(hn:x ≠ "__name__" := by decide)(dv:(x==("__debug__" : Str))=false:=by decide)(he:starEach (e::es) X.env=(false,eval e X.env)::starEach es X.env:=by rfl)(cg:(backTo pos (starEach es X.env)).any (·.1)=false:=by rfl):PE X (.Call (.Name x p) (e::es) [] pos) (tCB r t):=by
 intro a6 s σ H Q I h
 refine wpAny_Call_Name_kw (ld_blt I hg hm hv ?_ hn dv)
 exact Kb (thn (ha pos a6 s σ H _ I h) λus s1 ⟨vs,H1,I1,r1,q1⟩=>hc a6 s1 σ H1 vs us Q I1 r1 q1) he cg
end
end L2
namespace L2
open PySem PySem.Spec PyProof.Rows
section
variable{κ:Type}[DecidableEq κ]
def valV(kvs:List (κ×V))(k:κ):Option V:=(kvs.find? λkv=>decide (kv.1=k)).map (·.2)
def putK(kvs:List (κ×V))(k:κ)(v:V):List (κ×V) :=
 if(kvs.any λkv=>decide (kv.1=k))=true then kvs.map (λkv=>if kv.1=k then(kv.1,v) else kv) else kvs++[(k,v)]
def zcr{p:κ×V}{r:List (κ×V)}{k:κ}(e:p.1=k):valV (p::r) k=some p.2:=by simp[valV,Jg,e]
def zbs{p:κ×V}{r:List (κ×V)}{k:κ}(e:¬p.1=k):valV (p::r) k=valV r k:=by simp[valV,Jg,e]
theorem zhn(k:κ):∀kvs:List (κ×V),(kvs.any λkv=>decide (kv.1=k))=(valV kvs k).isSome
 |[]=>rfl
 |p::r=>by
  rw[Ku]
  by_cases e:p.1=k
  ·simp only[zcr e,decide_eq_true e,Bool.true_or,Option.isSome_some]
  ·rw[zbs e,decide_eq_false e,Bool.false_or];exact zhn k r
def zd5(kvs:List (κ×V))(k:κ)(v:V):(putK kvs k v).length≤kvs.length+1:=by
 unfold putK
 split
 ·rw[Qa];exact Wp _ _
 ·rw[Qj,Zf,Uk];exact Qg _
def zeh{kvs:List (κ×V)}{k:κ}(v:V)(h:valV kvs k=none):putK kvs k v=kvs++[(k,v)]:=by
 unfold putK
 rw[zhn,h]
 exact if_neg (by decide)
def RelO.isSome_eq{o:Option V}{u:Option Value}(r:RelO o u):o.isSome=u.isSome:=by
 cases o with
 |none=>cases u with
  |none=>rfl
  |some _=>exact(show False from r).elim
 |some _=>cases u with
  |none=>exact(show False from r).elim
  |some _=>rfl
def RelO.getD{o:Option V}{u:Option Value}{d:V}{d':Value}(r:RelO o u)(rd:RelV d d'):RelV (o.getD d) (u.getD d'):=by
 cases o with
 |none=>cases u with
  |none=>exact rd
  |some _=>exact(show False from r).elim
 |some _=>cases u with
  |none=>exact(show False from r).elim
  |some _=>exact r
def KV.val{kvs:List (κ×V)}{vs:List (κ×Value)}(r:KV kvs vs)(k:κ):RelO (valV kvs k) (valueAt vs k):=by
 unfold KV at r
 induction r with
 |nil=>exact True.intro
 | @cons p q ps qs h t ih =>
  obtain⟨h1,h2⟩:=h
  by_cases e:p.1=k
  ·have e':q.1=k:=h1.symm.trans e
   have b:valueAt (q::qs) k=some q.2:=by simp[valueAt,Jg,e']
   rw[zcr e,b];exact h2
  ·have e':¬ q.1=k:=fun z=>e (h1.trans z)
   have b:valueAt (q::qs) k=valueAt qs k:=by simp[valueAt,Jg,e']
   rw[zbs e,b];exact ih
def KV.any{kvs:List (κ×V)}{vs:List (κ×Value)}(r:KV kvs vs)(k:κ):(kvs.any λkv=>decide (kv.1=k))=vs.any λkv=>decide (kv.1=k):=by
 unfold KV at r
 induction r with
 |nil=>rfl
 |cons h t ih=>rw[Ku,Ku,ih,h.1]
def KV.repl{kvs:List (κ×V)}{vs:List (κ×Value)}(r:KV kvs vs)(k:κ){y:V}{u:Value}(ry:RelV y u) :
  KV (kvs.map λkv=>if kv.1=k then(kv.1,y) else kv) (vs.map λkv=>if kv.1=k then(kv.1,u) else kv):=by
 unfold KV at r ⊢
 induction r with
 |nil=>exact .nil
 |@cons p q ps qs h t ih =>
  rw[Ql,Ql]
  refine .cons ?_ ih
  obtain⟨h1,h2⟩:=h
  by_cases e:p.1=k
  ·rw[if_pos e,if_pos (h1.symm.trans e)];exact⟨h1,ry⟩
  ·rw[if_neg e,if_neg (λz=>e (h1.trans z))];exact⟨h1,h2⟩
def KV.put{kvs:List (κ×V)}{vs:List (κ×Value)}(r:KV kvs vs)(k:κ){y:V}{u:Value}(ry:RelV y u):KV (putK kvs k y) (stored vs k u):=by
 unfold putK stored
 rw[r.any k]
 by_cases e:(vs.any λkv=>decide (kv.1=k))=true
 ·rw[if_pos e,if_pos e];exact r.repl k ry
 ·rw[if_neg e,if_neg e];exact Paired.snoc r ⟨rfl,ry⟩
def KV.length{kvs:List (κ×V)}{vs:List (κ×Value)}(r:KV kvs vs):kvs.length=vs.length:=Yf r
end
def kV_is{P:Nj}{w:Nk}{k:Key}{u:Value}(r:RelV (kV k) u):(zaq P w).is k u=true:=by
 cases k with
 |inl i=>obtain⟨t,e⟩:=(show ∃t,u=Value.int i t from r);subst e;exact mixKind_int P w i t
 |inr x=>obtain⟨t,e⟩:=(show ∃t,u=Value.str x t from r);subst e;exact zgf P w x t
theorem items_are{P:Nj}{w:Nk}:∀{ks:List Key} {us:Ni},Vals (ks.map kV) us→ItemsAre (zaq P w) ks us
 |[],_,r=>by rw[Xb]at r;cases r;exact .nil
 |k::ks,_,r=>by
  rw[Ql]at r
  cases r with
  |cons h t=>exact .cons (kV_is h) (items_are t)
abbrev KT(H:Hp):List (List Key×V)→List (List Key×Addr×Value)→Prop:=Paired λp q=>p.1=q.1∧H q.2.1=some (.tup (p.1.map kV))∧RelV p.2 q.2.2
def KT.val{H:Hp}{kvs:List (List Key×V)}{xs:List (List Key×Addr×Value)}(r:KT H kvs xs)(k:List Key):RelO (valV kvs k) ((atKey xs k).map (·.2)):=by
 induction r with
 |nil=>exact True.intro
 | @cons p q ps qs h t ih =>
  obtain⟨h1,_,h2⟩:=h
  by_cases e:p.1=k
  ·have e':q.1=k:=h1.symm.trans e
   have b:atKey (q::qs) k=some q.2:=by simp[atKey,Jg,e']
   rw[zcr e,b];exact h2
  ·have e':¬ q.1=k:=fun z=>e (h1.trans z)
   have b:atKey (q::qs) k=atKey qs k:=by simp[atKey,Jg,e']
   rw[zbs e,b];exact ih
def KT.repl{H:Hp}{kvs:List (List Key×V)}{xs:List (List Key×Addr×Value)}(r:KT H kvs xs)(k:List Key){y:V}{u:Value}(ry:RelV y u) :
  KT H (kvs.map λkv=>if kv.1=k then(kv.1,y) else kv) (xs.map (putAt k u)):=by
 induction r with
 |nil=>exact .nil
 |@cons p q ps qs h t ih =>
  rw[Ql,Ql]
  refine .cons ?_ ih
  obtain⟨h1,h2,h3⟩:=h
  unfold putAt
  by_cases e:p.1=k
  ·rw[if_pos e,if_pos (h1.symm.trans e)];exact⟨h1,h2,ry⟩
  ·rw[if_neg e,if_neg (λz=>e (h1.trans z))];exact⟨h1,h2,h3⟩
def KT.put{H:Hp}{kvs:List (List Key×V)}{xs:List (List Key×Addr×Value)}(r:KT H kvs xs)(k:List Key){b:Nd}{y:V}{u:Value}(hb:H b=some (.tup (k.map kV)))(ry:RelV y u) :
  KT H (putK kvs k y) (storedH xs k b u):=by
 have e:(kvs.any λkv=>decide (kv.1=k))=(atKey xs k).isSome:=by
  rw[zhn,(r.val k).isSome_eq,Option.isSome_map]
 unfold putK storedH
 rw[e]
 by_cases q:(atKey xs k).isSome=true
 ·rw[if_pos q,if_pos q];exact r.repl k ry
 ·rw[if_neg q,if_neg q];exact Paired.snoc r ⟨rfl,hb,ry⟩
def KT.keeps{H H':Hp}{kvs:List (List Key×V)}{xs:List (List Key×Addr×Value)}(r:KT H kvs xs)(ht:∀b ys,H b=some (.tup ys)→H' b=some (.tup ys)):KT H' kvs xs :=
 Paired.mapP r λ_ _ z=>⟨z.1,ht _ _ z.2.1,z.2.2⟩
section
variable{P:Nj}{w:Nk}{H:Hp}{h:Nm}{a:Nd}
def rd_of{u:HO}(ok:HOk P w H h)(e:Rd H a u):zbr P w H h a u:=e.ok ok
def dk_rd{kvs:List (Key×V)}(ok:HOk P w H h)(e:Rd H a (.dK kvs)):kvs.length≤sizeLine∧(a==sysModules)=false∧∃vs,KV kvs vs∧h.DictOf (zaq P w) a vs :=
 show zbr P w H h a (.dK kvs) from rd_of ok e
def dk_of{kvs:List (Key×V)}(ok:HOk P w H h)(e:H a=some (.dK kvs)):kvs.length≤sizeLine∧(a==sysModules)=false∧∃vs,KV kvs vs∧h.DictOf (zaq P w) a vs:=dk_rd ok (.inl e)
def key_of{ks:List Key}(ok:HOk P w H h)(e:H a=some (.tup (ks.map kV))):(tupleKind (zaq P w)).is h ks a:=by
 obtain⟨_,a7,r,o,h1,h2,n,h3⟩:=(show zbr P w H h a (.tup (ks.map kV)) from ok a _ e)
 exact⟨o,a7.toArray,n,h1,h2,h3,by simpa using items_are r⟩
def dt_rd{kvs:List (List Key×V)}(ok:HOk P w H h)(e:Rd H a (.dT kvs)):kvs.length≤sizeLine∧(a == sysModules)=false ∧
  ∃xs,KT H kvs xs∧h.DictOfH (tupleKind (zaq P w)) a xs:=by
 obtain⟨z,y,xs,r,o,es,ep,h1,h2,h3,h4,h5⟩:=(show zbr P w H h a (.dT kvs) from rd_of ok e)
 refine⟨z,y,xs,r,o,es,ep,h1,h2,h3,h4,λx hx=>?_,h5⟩
 have all:∀{l:List (List Key×V)} {m:List (List Key×Addr×Value)},KT H l m→∀x∈m,(tupleKind (zaq P w)).is h x.1 x.2.1:=by
  intro l m q
  induction q with
  |nil=>intro x hx;exact nomatch hx
  | @cons p q ps qs hq t ih =>
   intro x hx
   rcases Qh.mp hx with e | hx
   ·subst e
    exact key_of ok (by rw[←hq.1];exact hq.2.1)
   ·exact ih x hx
 exact all r x hx
def dt_of{kvs:List (List Key×V)}(ok:HOk P w H h)(e:H a=some (.dT kvs)):kvs.length≤sizeLine∧(a==sysModules)=false ∧
  ∃xs,KT H kvs xs∧h.DictOfH (tupleKind (zaq P w)) a xs:=dt_rd ok (.inl e)
end
def DGet(H:Hp)(a:Nd)(y:V)(r:Option V):Prop :=
 (∃kvs k,Rd H a (.dK kvs)∧y=kV k∧r=valV kvs k)∨∃kvs k b,Rd H a (.dT kvs)∧y=.ref b∧H b=some (.tup (k.map kV))∧r=valV kvs k
def DPut(H:Hp)(a:Nd)(y v:V)(H':Hp):Prop :=
 (∃kvs k,H a=some (.dK kvs)∧y=kV k∧kvs.length<sizeLine∧H'=upd H a (.dK (putK kvs k v))) ∨
 ∃kvs k b,H a=some (.dT kvs)∧y=.ref b∧H b=some (.tup (k.map kV))∧kvs.length<sizeLine∧H'=upd H a (.dT (putK kvs k v))
def DGet.k{H:Hp}{a:Nd}{kvs:List (Key×V)}{k:Key}(e:H a=some (.dK kvs)):DGet H a (kV k) (valV kvs k):=.inl ⟨kvs,k,.inl e,rfl,rfl⟩
def DGet.t{H:Hp}{a b:Nd}{kvs:List (List Key×V)}{k:List Key}(e:H a=some (.dT kvs))(eb:H b=some (.tup (k.map kV))):DGet H a (.ref b) (valV kvs k):=.inr ⟨kvs,k,b,.inl e,rfl,eb,rfl⟩
def DPut.k{H:Hp}{a:Nd}{kvs:List (Key×V)}{k:Key}{v:V}(e:H a=some (.dK kvs))(hl:kvs.length<sizeLine):DPut H a (kV k) v (upd H a (.dK (putK kvs k v))):=.inl ⟨kvs,k,e,rfl,hl,rfl⟩
def DPut.t{H:Hp}{a b:Nd}{kvs:List (List Key×V)}{k:List Key}{v:V}(e:H a=some (.dT kvs))(eb:H b=some (.tup (k.map kV)))(hl:kvs.length<sizeLine) :
  DPut H a (.ref b) v (upd H a (.dT (putK kvs k v))):=.inr ⟨kvs,k,b,e,rfl,eb,hl,rfl⟩
section
variable{X:Cx}{a6:Nc}{σ:St}{H:Hp}{s:Nh}{a:Nd}{y v:V}{u r:Value}{o:Option V}{A:No}{E:Na}
def Inv.big(I:Inv X a6 σ H s):sysModules<s.heap.objs.size:=by
 have h:mainGlobals<s.heap.objs.size:=(I.mod.glob.keeps I.bk).lt
 exact Wg (by decide) h
def d_getItem{Q:Na}(hu:A.units+1<cLine)(I:Inv X a6 σ H s)(g:DGet H a y (some v))(ry:RelV y u)(h:∀w' s',Inv X a6 σ H s'→RelV v w'→Q w' s') :
  wpAny (model X.prog X.w) A (getItem (.ref a) u) Q E s:=by
 rcases g with⟨kvs,k,e,ey,l⟩ | ⟨kvs,k,b,e,ey,eb,l⟩
 ·subst ey
  obtain⟨z,hd,vs,rel,dd⟩:=dk_rd I.hok e
  obtain⟨w',hw,dH⟩:=RelO.some_of (v:=v) (o:=valueAt vs k) (by rw[l];exact rel.val k)
  exact wpAny_getItem_of (kV_is ry) dd.mapOf hw (h w' _ (I.tok _) dH)
 ·subst ey
  cases(show u=Value.ref b from ry)
  obtain⟨z,hd,xs,rel,dd⟩:=dt_rd I.hok e
  obtain⟨w',hw,dH⟩:=RelO.some_of (v:=v) (o:=(atKey xs k).map (·.2)) (by rw[l];exact rel.val k)
  obtain⟨p,hp,aG⟩:=Option.map_eq_some_iff.mp hw
  refine wpAny_getItem_heap (tupleKind_room_in1 hu) (key_of I.hok eb) dd hp ?_
  rw[aG]
  exact h w' _ (I.tok _) dH
def d_notIn{Q:Na}(hu:A.units+1<cLine)(I:Inv X a6 σ H s)(g:DGet H a y o)(ry:RelV y u)(h:∀s',Inv X a6 σ H s'→Q (.bool (!o.isSome)) s') :
  wpAny (model X.prog X.w) A (compareOp .NotIn u (.ref a)) Q E s:=by
 rcases g with⟨kvs,k,e,ey,l⟩ | ⟨kvs,k,b,e,ey,eb,l⟩
 ·subst ey
  obtain⟨z,hd,vs,rel,dd⟩:=dk_rd I.hok e
  refine wpAny_notIn_of (kV_is ry) hd dd.mapOf ?_
  rw[←(rel.val k).isSome_eq,←l]
  exact h _ (I.tok _)
 ·subst ey
  cases(show u=Value.ref b from ry)
  obtain⟨z,hd,xs,rel,dd⟩:=dt_rd I.hok e
  refine wpAny_notIn_heap (tupleKind_room_in1 hu) (key_of I.hok eb) hd dd ?_
  have q:=(rel.val k).isSome_eq
  rw[Option.isSome_map]at q
  rw[←q,←l]
  exact h _ (I.tok _)
def zif{h':Nm}{t':Nat}{ob:HO}(I:Inv X a6 σ H s)(mu:Mut (H a))(hs:Heap.SameBut a s.heap h')(he:∃q,h'.get? a=some q)(new:zbr X.prog X.w (upd H a ob) h' a ob) :
  Inv X a6 σ (upd H a ob) {s with heap:=h',toks:=t'} :=
 I.write (x:=a) (e:=a) mu (.inl rfl) (λb q hb z=>(hs.2 b hb).trans z) he new
def dk_new{P:Nj}{w:Nk}{H':Hp}{h':Nm}{kvs:List (Key×V)}{vs:List (Key×Value)}(z:kvs.length≤sizeLine)(hd:(a==sysModules)=false)(rel:KV kvs vs)(dd:h'.DictOf (zaq P w) a vs) :
  zbr P w H' h' a (.dK kvs):=⟨z,hd,vs,rel,dd⟩
def d_setItem{H':Hp}{Q:Unit→Shared→Prop}(hu:A.units+1<cLine)(I:Inv X a6 σ H s)(g:DPut H a y v H')(ry:RelV y u)(rv:RelV v r)(h:∀s',Inv X a6 σ H' s'→Q () s') :
  wpAny (model X.prog X.w) A (setItem (.ref a) u r) Q E s:=by
 rcases g with⟨kvs,k,e,ey,l,eH⟩ | ⟨kvs,k,b,e,ey,eb,l,eH⟩
 ·subst ey eH
  obtain⟨z,hd,vs,rel,dd⟩:=dk_of I.hok e
  have hz:vs.length≤sizeLine:=by rw[←rel.length];exact z
  have hl:(putK kvs k v).length≤sizeLine:=by have:=zd5 kvs k v;exact Zk ‹_› ‹_›
  refine wpAny_setItem_pairs (hsz:=hz) (kV_is ry) dd λh' gP hs=>h _ ?_
  have he:∃q,h'.get? a=some q:=let⟨q,_,_,hq,_⟩:=gP;⟨q,hq⟩
  exact zif I (by rw[e];exact True.intro) hs he (dk_new hl hd (rel.put k rv) gP)
 ·subst ey eH
  cases(show u=Value.ref b from ry)
  obtain⟨z,hd,xs,rel,dd⟩:=dt_of I.hok e
  have hz:xs.length≤sizeLine:=by rw[←Yf rel];exact z
  have hl:(putK kvs k v).length≤sizeLine:=by have:=zd5 kvs k v;exact Zk ‹_› ‹_›
  refine wpAny_setItem_heap (hsz:=hz) (tupleKind_room_in1 hu) (key_of I.hok eb) dd λh' gP hs=>h _ ?_
  obtain⟨q,es,ep,hq,h2,h3,h4,_,h5⟩:=gP
  refine zif I (by rw[e];exact True.intro) hs ⟨q,hq⟩ ⟨hl,hd,_,(rel.put k eb rv).keeps λc ys ec=>?_,q,es,ep,hq,h2,h3,h4,h5⟩
  rw[zad (zbc ec e (λz=>nomatch z))]
  exact ec
end
section
variable{X:Cx}{a6:Nc}{σ:St}{H:Hp}{s:Nh}{a:Nd}{kvs:List (Key×V)}{k:Key}{u:Value}{A:No}{E:Na}
end
def NoSl(i:Expr):Prop:=∀ov iv,subscripted i false ov iv=operate [ov,iv] (getItem ov iv)
def subD_of{prog:Nj}{w:Nk}{A:No}{E:Na}{s:Nh}{env:Env}{value slice:Expr}{pos:Pos}{T id:String}{Q:Na}(hl:typeLookup (.type T) "__getitem__" = pure (some (.builtin id)))(hs:NoSl slice)(h:wpAny (model prog w) A (eval value env) (λo s₁=>wpAny (model prog w) A (eval slice env) (λi s₂=>s₂.TypeIs o T∧wpAny (model prog w) A (getItem o i) Q E s₂) E s₁) E s) :
  wpAny (model prog w) A (eval (.Subscript value slice pos) env) Q E s:=by
 refine Subscript_ (wpAny_mono h (λo s₁ h₁=>wpAny_mono h₁ (λi s₂ h₂=>?_) λ_ _ x=>x) λ_ _ x=>x)
 obtain⟨hT,h₂⟩:=h₂
 unfold subscriptTail
 refine wpAny_bind ?_
 rw[getitemInPython_of_ne hT.not_modules]
 refine wpAny_bind (wpAny_specialOf hT hl ?_)
 have fin:wpAny (model prog w) A (subscripted slice false o i) (λr s₃=>wpAny (model prog w) A (letTemporaryGo value o r >>= λ_=>pure r) Q E s₃) E s₂:=by
  rw[hs o i]
  exact wpAny_operating (wpAny_mono h₂ (λr s₃ h₃=>wpAny_bind (wpAny_letTemporaryGo (wpAny_pure h₃))) λ_ _ x=>x)
 first
  |exact wpAny_pure (wpAny_bind fin)
  |exact wpAny_bind (wpAny_pure (wpAny_bind fin))
  |exact wpAny_bind fin
def dict_typeIs{X:Cx}{a6:Nc}{σ:St}{H:Hp}{s:Nh}{a:Nd}{y:V}{o:Option V}(I:Inv X a6 σ H s)(g:DGet H a y o):s.TypeIs (.ref a) "dict" := by
 rcases g with⟨kvs,k,e,_,_⟩ | ⟨kvs,k,b,e,_,_,_⟩
 ·obtain ⟨_,_,vs,_,dd⟩:=dk_rd I.hok e
  exact dd.typeIs
 ·obtain ⟨_,_,xs,_,dd⟩:=dt_rd I.hok e
  exact dd.typeIs
inductive RDG(x y:V)(H:Hp)(Q:VK):Prop
 |mk (a:Nd) (v:V) (e:x=.ref a) (g:DGet H a y (some v)) (q:Q v H):RDG x y H Q
inductive RDI(x y:V)(H:Hp)(R:Option V→Prop):Prop
 |mk (a:Nd) (o:Option V) (e:x=.ref a) (g:DGet H a y o) (q:R o):RDI x y H R
inductive RDP(x y v:V)(H:Hp)(N:Hp→Prop):Prop
 |mk (a:Nd) (H4:Hp) (e:x=.ref a) (p:DPut H a y v H4) (q:N H4):RDP x y v H N
def tDGet(td ty:TE):TE:=λ σ H Q=>td σ H λx H1=>ty σ H1 λy H2=>RDG x y H2 Q
def tDNotIn(ty td:TE):TE:=λ σ H Q=>ty σ H λy H1=>td σ H1 λx H2=>RDI x y H2 λo=>Q (.bl (!o.isSome)) H2
def sDPut(td ty tv:TE):TS:=λD σ H=>tv σ H λv H1=>td σ H1 λx H2=>ty σ H2 λy H3=>RDP x y v H3 (D.nx σ)
section
variable{X:Cx}{o i e value:Expr}{pos bn tpos:Pos}{td ty tv:TE}
def pe_dget(hu:X.A.units+1<cLine)(ho:PE X o td)(hi:PE X i ty)(hs:NoSl i):PE X (.Subscript o i pos) (tDGet td ty):=by
 intro a6 s σ H Q I h
 refine subD_of PySem.F.slot_dict_getitem.lookup hs (thn (ho a6 s σ H _ I h) λu s1 ⟨x,H1,I1,rx,q1⟩=>thn (hi a6 s1 σ H1 _ I1 q1) λiv s2 ⟨y,H2,I2,ry,a,v,ex,g,q2⟩=>?_)
 subst ex
 obtain rfl:u=Value.ref a:=rx
 exact⟨dict_typeIs I2 g,d_getItem hu I2 g ry λw' s3 I3 dH=>⟨v,H2,I3,dH,q2⟩⟩
def zaz(hu:X.A.units+1<cLine)(hi:PE X i ty)(ho:PE X o td):PC X .NotIn i o (tDNotIn ty td):=by
 intro a6 s σ H Q I h
 refine thn (hi a6 s σ H _ I h) λiv s1 ⟨y,H1,I1,ry,q1⟩=>thn (ho a6 s1 σ H1 _ I1 q1) λu s2 ⟨x,H2,I2,rx,a,ov,ex,g,q2⟩=>?_
 subst ex
 obtain rfl:u=Value.ref a:=rx
 exact d_notIn hu I2 g ry λs3 I3=>⟨.bl (!ov.isSome),H2,I3,rfl,q2⟩
def zey(hu:X.A.units+1<cLine)(ho:PE X o td)(hi:PE X i ty)(hv:PE X value tv)(hs:swapsWith value (some (.Subscript o i bn)) pos.line X.env=pure false) :
  PS X (.Assign [.Subscript o i bn] value pos) (sDPut td ty tv):=by
 intro a6 s σ H D I h
 refine wpAny_Assign_Subscript (thn (hv a6 s σ H _ I h) λr s1 ⟨v,H1,I1,rv,q1⟩=>thn (ho a6 s1 σ H1 _ I1 q1) λu s2 ⟨x,H2,I2,rx,q2⟩=>thn (hi a6 s2 σ H2 _ I2 q2) λiv s3 ⟨y,H3,I3,ry,a,H4,ex,g,q3⟩=>?_) hs
 subst ex
 obtain rfl:u=Value.ref a:=rx
 exact d_setItem hu I3 g ry rv λs4 I4=>⟨σ,H4,I4,q3⟩
end
def dk_empty{P:Nj}{w:Nk}{H:Hp}(h:Nm)(hb:sysModules<h.objs.size):zbr P w H (h.push {cls:=.type "dict",data:=.dict #[]}) h.objs.size (.dK []) :=
 ⟨Zp _,beq_eq_false_iff_ne.mpr (Zi (Zj hb)),[],.nil,Heap.DictOf.new h⟩
def dt_empty{P:Nj}{w:Nk}{H:Hp}(h:Nm)(hb:sysModules<h.objs.size):zbr P w H (h.push {cls:=.type "dict",data:=.dict #[]}) h.objs.size (.dT []) :=
 ⟨Zp _,beq_eq_false_iff_ne.mpr (Zi (Zj hb)),[],.nil,_,#[],0,Qw _ rfl,⟨rfl,rfl,rfl⟩,rfl,rfl,Zt⟩
def tDNewK:TE:=λ_ H Q=>∀p,H p=none→Q (.ref p) (upd H p (.dK []))
def tDNewT:TE:=λ_ H Q=>∀p,H p=none→Q (.ref p) (upd H p (.dT []))
section
variable{X:Cx}{pos:Pos}
def pe_dnewK:PE X (.Dict [] [] pos) tDNewK:=λa6 s σ H Q I h =>
 wpAny_Dict_empty ⟨.ref s.heap.objs.size,_,I.laid (a:=s.heap.objs.size) (o:=.dK []) (t':=s.toks) (λ_ _ q=>Qf _ q) (Qg _) (dk_empty s.heap I.big),rfl,h _ (I.hok.fresh (Qg _))⟩
def pe_dnewT:PE X (.Dict [] [] pos) tDNewT:=λa6 s σ H Q I h =>
 wpAny_Dict_empty ⟨.ref s.heap.objs.size,_,I.laid (a:=s.heap.objs.size) (o:=.dT []) (t':=s.toks) (λ_ _ q=>Qf _ q) (Qg _) (dt_empty s.heap I.big),rfl,h _ (I.hok.fresh (Qg _))⟩
end
def tPairs:List (TE×TE)→St→Hp→(List (V×V)→Hp→Prop)→Prop
 |[],_,H,Q=>Q [] H
 |(tk,tv)::r,σ,H,Q=>tk σ H λx H1=>tv σ H1 λy H2=>tPairs r σ H2 λps H3=>Q ((x,y)::ps) H3
abbrev VV:List (V×V)→List (Value×Value)→Prop:=Paired λp q=>RelV p.1 q.1∧RelV p.2 q.2
def PPs(X:Cx)(pos:Pos)(keys:List (Option Expr))(values:Np)(trs:List (TE×TE)):Prop :=
 ∀(a6:Nc) (s:Nh) (σ:St) (H:Hp) (Q:List (V×V)→Hp→Prop),Inv X a6 σ H s→tPairs trs σ H Q →
  wpAny (model X.prog X.w) X.A (evalPairs (pairTrees keys values X.env pos)) (λvs s'=>∃ps H',Inv X a6 σ H' s'∧VV ps vs∧Q ps H') X.xe s
def pps_nil{X:Cx}{pos:Pos}:PPs X pos [] [] []:=λa6 s σ H Q I h=>pairTrees_nil_walk ⟨[],H,I,.nil,h⟩
def zh3{X:Cx}{pos:Pos}{k v:Expr}{ks:List (Option Expr)}{vs:Np}{tk tv:TE}{trs:List (TE×TE)}(hk:PE X k tk)(hv:PE X v tv)(hr:PPs X pos ks vs trs) :
  PPs X pos (some k::ks) (v::vs) ((tk,tv)::trs):=λa6 s σ H Q I h =>
 pairTrees_cons_walk (thn (hk a6 s σ H _ I h) λu s1 ⟨x,H1,I1,rx,q1⟩=>thn (hv a6 s1 σ H1 _ I1 q1) λw2 s2 ⟨y,H2,I2,ry,q2⟩ =>
  thn (hr a6 s2 σ H2 _ I2 q2) λws s3 ⟨ps,H3,I3,rel,q3⟩=>⟨(x,y)::ps,H3,I3,.cons ⟨rx,ry⟩ rel,q3⟩)
def zdb(kvs more:List (Key×V)):List (Key×V):=more.foldl (λae kv=>putK ae kv.1 kv.2) kvs
def KV.merge:∀{more:List (Key×V)} {rs:List (Key×Value)} {kvs:List (Key×V)} {vs:List (Key×Value)},KV more rs→KV kvs vs→KV (zdb kvs more) (merged vs rs):=by
 intro more rs kvs vs r
 unfold KV at r
 induction r generalizing kvs vs with
 |nil=>intro q;exact q
 | @cons p q ps qs h t ih =>
  intro r0
  have e:KV (putK kvs p.1 p.2) (stored vs q.1 q.2):=by
   have:=r0.put p.1 h.2
   rw[←h.1];exact this
  exact ih e
theorem zc5:∀(more kvs:List (Key×V)),(zdb kvs more).length≤kvs.length+more.length
 |[],kvs=>by show kvs.length≤kvs.length+0;exact Qg _
 |p::r,kvs=>by
  have h1:=zc5 r (putK kvs p.1 p.2)
  have h2:=zd5 kvs p.1 p.2
  show(zdb (putK kvs p.1 p.2) r).length≤_
  rw[Zf];lia
theorem zhh{P:Nj}{w:Nk}:∀{kvs:List (Key×V)} {ws:List (Value×Value)},VV (kvs.map λkv=>(kV kv.1,kv.2)) ws→∃rs,Carries (zaq P w) ws rs∧KV kvs rs
 |[],_,r=>by rw[Xb]at r;cases r;exact⟨[],True.intro,.nil⟩
 | p::kvs,_,r=>by
  rw[Ql]at r
  cases r with
  |@cons a b as bs h t =>
   obtain⟨rs,c,q⟩:=zhh (P:=P) (w:=w) t
   obtain⟨b1,b2⟩:=b
   exact⟨(p.1,b2)::rs,⟨kV_is h.1,rfl,c⟩,.cons ⟨rfl,h.2⟩ q⟩
def tDisp(trs:List (TE×TE)):TE:=λ σ H Q=>∀p,H p=none→tPairs trs σ (upd H p (.dK [])) λps H2=>H2 p=some (.dK [])∧∃kvs:List (Key×V),ps=kvs.map (λkv=>(kV kv.1,kv.2))∧kvs.length≤15∧Q (.ref p) (upd H2 p (.dK (zdb [] kvs)))
def pe_disp{X:Cx}{pos:Pos}{keys:List (Option Expr)}{values:Np}{trs:List (TE×TE)}(h:PPs X pos keys values trs)(cS:keys.all (·.isSome)=true)(hl:keys.length=values.length)(h0:keys≠[])(h15:keys.length≤15):PE X (.Dict keys values pos) (tDisp trs):=by
 intro a6 s σ H Q I q
 have hn:=I.hok.fresh (Qg s.heap.objs.size)
 have I1:=I.laid (a:=s.heap.objs.size) (o:=.dK []) (h':=s.heap.push {cls:=.type "dict",data:=.dict #[]}) (t':=s.toks) (λ_ _ q=>Qf _ q) (Qg _) (dk_empty s.heap I.big)
 refine wpAny_Dict_walk (knd:=zaq X.prog X.w) cS hl h0 h15 (thn (h a6 _ σ _ _ I1 (q _ hn)) λws s2 ⟨ps,H2,I2,rel,e,kvs,ep,lk,q2⟩=>?_)
 subst ep
 obtain⟨rs,c,rk⟩:=zhh (P:=X.prog) (w:=X.w) rel
 obtain⟨z,hd,vs0,r0,dd⟩:=dk_of I2.hok e
 cases r0
 refine⟨rs,c,dd,λh' gP hs=>⟨.ref s.heap.objs.size,_,?_,rfl,q2⟩⟩
 have hz:(zdb [] kvs).length≤sizeLine:=by
  have h1:=zc5 kvs []
  rw[Uk]at h1
  rw[sizeLine_eq];lia
 have he:∃q,h'.get? s.heap.objs.size=some q:=let⟨q,_,_,hq,_⟩:=gP;⟨q,hq⟩
 exact zif I2 (by rw[e];exact True.intro) hs he (dk_new hz hd (rk.merge .nil) gP)
structure M2(X:Cx)(o:Expr)(m:Str)(apos:Pos)(e f:Expr)(cpos:Pos):Prop where
 base:attributeBase o m X.env (eval o X.env)=eval o X.env
 few:((backTo cpos (starEach [e,f] X.env)).all (λx=>!x.1)&&(backToKw cpos (keywordEach [] X.env)).all (λx=>x.1.isSome)
  && decide (([e,f]:List Expr).length+([]:List Keyword).length+(if([]:List Keyword).isEmpty then 0 else 1)<30))=true
 line:(apos.endLine==cpos.line)=true
 trees:backTo cpos (starEach [e,f] X.env)=[(false,eval e X.env),(false,eval f X.env)]
def IsD(H:Hp)(a:Nd):Prop:=(∃kvs,Rd H a (.dK kvs))∨∃kvs,Rd H a (.dT kvs)
def isD_at{X:Cx}{a6:Nc}{σ:St}{H:Hp}{s:Nh}{a:Nd}(I:Inv X a6 σ H s)(d:IsD H a) :
  s.TypeIs (.ref a) "dict" ∧ (∀b,Value.ref a=.ref b→∃ob,s.heap.get? b=some ob∧ob.dict=none)∧(a==sysModules)=false:=by
 rcases d with⟨kvs,e⟩ | ⟨kvs,e⟩
 ·obtain ⟨_,hd,vs,_,dd⟩:=dk_rd I.hok e
  refine⟨dd.typeIs,λb q=>?_,hd⟩
  cases q
  obtain⟨ob,_,_,h1,h2,_⟩:=dd
  exact⟨ob,h1,h2.2.1⟩
 ·obtain ⟨_,hd,xs,_,dd⟩:=dt_rd I.hok e
  refine⟨dd.typeIs,λb q=>?_,hd⟩
  cases q
  obtain⟨ob,_,_,h1,h2,_⟩:=dd
  exact⟨ob,h1,h2.2.1⟩
section
variable{X:Cx}{a6:Nc}{σ:St}{H:Hp}{s:Nh}{a:Nd}{y d:V}{u r:Value}{o:Option V}{A:No}{E:Na}
def d_get2{Q:Na}(hu:A.units+1<cLine)(I:Inv X a6 σ H s)(g:DGet H a y o)(ry:RelV y u)(rd:RelV d r)(h:∀w' s',Inv X a6 σ H s'→RelV (o.getD d) w'→Q w' s') :
  wpAny (model X.prog X.w) A (call (.builtin "dict.get") [.ref a,u,r]) Q E s:=by
 rcases g with⟨kvs,k,e,ey,l⟩ | ⟨kvs,k,b,e,ey,eb,l⟩
 ·subst ey
  obtain⟨z,hd,vs,rel,dd⟩:=dk_rd I.hok e
  refine call_meetsIn Xh dd.typeIs PySem.F.entry_dict_get (PySem.F.args_dict_get_3 _ _ _) (meets_dict_get_default (zaq X.prog X.w) a (kV_is ry) hd r) ⟨_,dd.mapOf,h _ _ (I.tok _) ?_⟩
  rw[l]
  exact(rel.val k).getD rd
 ·subst ey
  cases(show u=Value.ref b from ry)
  obtain⟨z,hd,xs,rel,dd⟩:=dt_rd I.hok e
  refine call_meetsIn Xh dd.typeIs PySem.F.entry_dict_get (PySem.F.args_dict_get_3 _ _ _) (meetsH_dict_get_default (tupleKind (zaq X.prog X.w)) a b hd r) ⟨tupleKind_room_in1 hu,k,xs,key_of I.hok eb,dd,h _ _ (I.tok _) ?_⟩
  rw[l]
  exact(rel.val k).getD rd
end
def tDGet2(td ty tx:TE):TE:=λ σ H Q=>td σ H λx H1=>∃a,x=.ref a∧IsD H1 a∧ty σ H1 λy H2=>tx σ H2 λz H3=>∃o,DGet H3 a y o∧Q (o.getD z) H3
section
variable{X:Cx}{o e f:Expr}{apos cpos:Pos}{td ty tx:TE}
def pe_dget2(hu:X.A.units+1<cLine)(ho:PE X o td)(he:PE X e ty)(hf:PE X f tx)(m:M2 X o "get" apos e f cpos):PE X (.Call (.Attribute o "get" apos) [e,f] [] cpos) (tDGet2 td ty tx):=by
 intro a6 s σ H Q I h
 refine wpAny_Call_method m.base m.few m.line PySem.F.plainAttrs_dict Xh PySem.F.type_dict_get (thn (ho a6 s σ H _ I h) λu s1 ⟨x,H1,I1,rx,a,ex,d,q1⟩=>?_)
 subst ex
 obtain rfl:u=Value.ref a:=rx
 obtain⟨t1,t2,_⟩:=isD_at I1 d
 refine⟨t1,t2,?_⟩
 rw[m.trees]
 refine Calls.callWith_builtin rfl (Calls.evalArgs_plain (Calls.spliced_cons (thn (he a6 s1 σ H1 _ I1 q1) λiv s2 ⟨y,H2,I2,ry,q2⟩ =>
  Calls.spliced_cons (thn (hf a6 s2 σ H2 _ I2 q2) λfv s3 ⟨z,H3,I3,rz,ov,g,q3⟩=>Calls.spliced_nil ?_))))
 exact d_get2 hu I3 g ry rz λw' s4 I4 dH=>⟨_,H3,I4,dH,q3⟩
end
section
variable{X:Cx}{a6:Nc}{σ:St}{H:Hp}{s:Nh}{a:Nd}{kvs:List (Key×V)}{A:No}{E:Na}
end
section
variable{X:Cx}{a6:Nc}{σ:St}{H:Hp}{s:Nh}{a:Nd}{y:V}{u:Value}{A:No}{E:Na}
end
end L2
namespace HT
open PySem PyProof.Rows
section
open PySem.SeqAt
open PySem.AutoSeq1 (wpAny_loadPart')
open PySem.MeetsSeq PySem.MeetsSeq2 PySem.MeetsSeq3
end
section
variable{prog:Nj}{w:Nk}{A:No}{E:Na}{s:Nh}
def sIx(n d:Nat):Option Int→Nat
 |none=>d
 |some v=>if v<0 then(v+(n:Int)).toNat else min v.toNat n
def sIx_nat(n d k:Nat):sIx n d (some (k:Int))=min k n:=by
 show(if(k:Int)<0 then((k:Int)+(n:Int)).toNat else min (k:Int).toNat n)=min k n
 rw[if_neg (by lia),Ws]
end
end HT
namespace L2
open PySem PySem.Spec PyProof.Rows
abbrev TO:=St→Hp→(Option Int→Hp→Prop)→Prop
def PO(X:Cx)(e:Option Expr)(t:TO):Prop :=
 ∀(a6:Nc) (s:Nh) (σ:St) (H:Hp) (Q:Option Int→Hp→Prop),Inv X a6 σ H s→t σ H Q →
  wpAny (model X.prog X.w) X.A (evalPart e X.env) (λu s'=>∃o H',Inv X a6 σ H' s'∧IsPart u o∧Q o H') X.xe s
def tNoPart:TO:=λ_ H Q=>Q none H
inductive RPt(x:V)(R:Int→Prop):Prop
 |mk (i:Int) (e:x=.int i) (q:R i):RPt x R
def tPart(t:TE):TO:=λ σ H Q=>t σ H λx H1=>RPt x λi=>Q (some i) H1
section
variable{X:Cx}{e:Expr}{te:TE}{lo hi:Option Expr}{tl th:TO}{pos p2:Pos}
def zbl:PO X none tNoPart:=by
 intro a6 s σ H Q I h
 rw[evalPart_none]
 exact wpAny_pure ⟨none,H,I,.none,h⟩
def zbn(h:PE X e te):PO X (some e) (tPart te):=by
 intro a6 s σ H Q I hw
 rw[evalPart_some]
 refine thn (h a6 s σ H _ I hw) λu s1 ⟨x,H1,I1,r1,q1⟩=>?_
 obtain⟨i,rfl,q⟩:=q1
 obtain⟨t,rfl⟩:=r1
 exact⟨some i,H1,I1,.int i t,q⟩
def SlR(X:Cx)(r:V→Option Int→Option Int→Hp→VK→Prop):Prop :=
 ∀(a6:Nc) (s:Nh) (σ:St) (H:Hp) (x:V) (v vl vu:Value) (lo hi:Option Int) (sl:Nd) (Q:VK),Inv X a6 σ H s→RelV x v→s.heap.IsSliceOf sl vl vu .none→IsPart vl lo→IsPart vu hi→r x lo hi H Q →
  ∃T id,typeLookup (.type T) "__getitem__" = pure (some (.builtin id))∧s.TypeIs v T∧wpAny (model X.prog X.w) X.A (getItem v (.ref sl)) (EP X a6 σ Q) X.xe s
def tSl(r:V→Option Int→Option Int→Hp→VK→Prop)(te:TE)(tl th:TO):TE:=λ σ H Q=>te σ H λx H1=>tl σ H1 λl H2=>th σ H2 λu H3=>r x l u H3 Q
def zbb{r:V→Option Int→Option Int→Hp→VK→Prop}(hr:SlR X r)(he:PE X e te)(hl:PO X lo tl)(hu:PO X hi th):PE X (.Subscript e (.Slice lo hi none p2) pos) (tSl r te tl th):=by
 intro a6 s σ H Q I h
 refine Subscript_ (thn (he a6 s σ H _ I h) λv s1 ⟨x,H1,I1,r1,q1⟩=>?_)
 refine wpAny_Slice (thn (hl a6 s1 σ H1 _ I1 q1) λvl s2 ⟨l,H2,I2,pl,q2⟩=>thn (hu a6 s2 σ H2 _ I2 q2) λvu s3 ⟨u,H3,I3,pu,q3⟩=>?_)
 rw[evalPart_none]
 refine wpAny_pure ?_
 have I4:Inv X a6 σ H3 {s3 with heap:=s3.heap.push {cls:=.type "slice",data:=.fields #[vl,vu,.none]}}:=I3.kept (t':=s3.toks) λb ob q=>Qf _ q
 obtain⟨T,id,hT,ht,hg⟩:=hr a6 {s3 with heap:=s3.heap.push {cls:=.type "slice",data:=.fields #[vl,vu,.none]}} σ H3 x v vl vu l u s3.heap.objs.size Q I4 r1 (Heap.IsSliceOf.new ..) pl pu q3
 show wpAny (model X.prog X.w) X.A (subscriptTail e (.Slice lo hi none p2) v (.ref s3.heap.objs.size)) (EP X a6 σ Q) X.xe {s3 with heap:=s3.heap.push {cls:=.type "slice",data:=.fields #[vl,vu,.none]}}
 exact tail_any (ops:=[.ref s3.heap.objs.size,v]) ht hT hg (by with_unfolding_all rfl)
def cutV(xs:List V)(lo hi:Option Int):List V:=(xs.drop (HT.sIx xs.length 0 lo)).take (HT.sIx xs.length xs.length hi-HT.sIx xs.length 0 lo)
def zbq(xs:List V)(lo hi:Option Int):(cutV xs lo hi).length≤xs.length:=by
 unfold cutV
 rw[Zn,Yv]
 lia
end
end L2
namespace L2
open PySem PySem.Spec PyProof.Rows
def ixN(n:Nat)(i:Int):Option Nat:=if 0≤i then(if i<n then some i.toNat else none) else if -(n:Int)≤i then some (i+n).toNat else none
def atI{α:Type}(xs:List α)(i:Int):Option α:=(ixN xs.length i).bind λj=>xs[j]?
def ixN_seq{n:Nat}{i:Int}{j:Nat}(h:ixN n i=some j):seqIndex? i n=some j∧j<n∧-(n:Int)≤i∧i<n:=by
 unfold ixN at h
 by_cases h0:0≤i
 ·rw [if_pos h0] at h
  by_cases h1:i<n
  ·rw [if_pos h1] at h
   have e:i.toNat=j:=Qv h
   exact⟨by rw[seqIndex_of h0 h1,e],by lia,by lia,h1⟩
  ·rw[if_neg h1]at h;cases h
 ·rw [if_neg h0] at h
  by_cases h1:-(n:Int)≤i
  ·rw [if_pos h1] at h
   have e:(i+n).toNat=j:=Qv h
   exact⟨by rw[seqIndex_neg (by lia) h1,e],by lia,h1,by lia⟩
  ·rw[if_neg h1]at h;cases h
def atI_get{α:Type}{xs:List α}{i:Int}{v:α}(h:atI xs i=some v):∃j,seqIndex? i xs.length=some j∧xs[j]?=some v∧j<xs.length∧-(xs.length:Int)≤i∧i<xs.length:=by
 unfold atI at h
 cases e:ixN xs.length i with
 |none=>rw[e]at h;cases h
 |some j =>
  rw[e]at h
  obtain⟨h1,h2,h3,h4⟩:=ixN_seq e
  exact⟨j,h1,h,h2,h3,h4⟩
def zav{α:Type}{xs:List α}{j:Nat}{v:α}(h:xs[j]?=some v):atI xs (j:Int)=some v:=by
 have hj:j<xs.length:=(Ze.mp h).1
 have e:ixN xs.length (j:Int)=some j:=by
  unfold ixN
  rw[if_pos (by lia),if_pos (by exact zar9 ‹_›)];simp
 unfold atI;rw[e];exact h
def PlainIx(b:Expr):Prop:=∀o i,subscripted b false o i=operate [o,i] (getItem o i)
def IxR(X:Cx)(r:R2):Prop :=
 ∀(value slice:Expr) (a6:Nc) (s:Nh) (σ:St) (H:Hp) (x y:V) (v u:Value) (Q:VK),Inv X a6 σ H s→RelV x v→RelV y u→r x y H Q →
  subscripted slice false v u=operate [v,u] (getItem v u)→wpAny (model X.prog X.w) X.A (subscriptTail value slice v u) (EP X a6 σ Q) X.xe s
def MtR(X:Cx)(id:String)(r:V→List V→Hp→VK→Prop):Prop :=
 ∀(a6:Nc) (s:Nh) (σ:St) (H:Hp) (x:V) (xs:List V) (v:Value) (us:Ni) (Q:VK),Inv X a6 σ H s→RelV x v→Vals xs us→r x xs H Q →
  wpAny (model X.prog X.w) X.A (call (.builtin id) (v::us)) (EP X a6 σ Q) X.xe s
section
variable{X:Cx}{a b:Expr}{ta tb:TE}{pos:Pos}
def za0{r:R2}(hr:IxR X r)(ha:PE X a ta)(hb:PE X b tb)(hs:PlainIx b):PE X (.Subscript a b pos) (tOp r ta tb):=by
 intro a6 s σ H Q I h
 exact Subscript_ (binT ha hb I h λv u s2 x y H2 I2 rx ry q=>hr a b a6 s2 σ H2 x y v u Q I2 rx ry q (hs _ _))
inductive RrIxL(K:Nb)(x:V)(y:V)(H:Hp)(Q:VK):Prop
 |mk (p:_) (xs:_) (i:_) (v:_) (h0:x=.ref p) (h1:y=.int i) (h2:SqL K H p xs) (h3:atI xs i=some v) (h4:Q v H):RrIxL K x y H Q
def rIxL(K:Nb):R2:=λx y H Q=>RrIxL K x y H Q
inductive RrIxT(K:Nb)(x:V)(y:V)(H:Hp)(Q:VK):Prop
 |mk (p:_) (xs:_) (i:_) (v:_) (h0:x=.ref p) (h1:y=.int i) (h2:SqT K H p xs) (h3:atI xs i=some v) (h4:Q v H):RrIxT K x y H Q
def rIxT(K:Nb):R2:=λx y H Q=>RrIxT K x y H Q
inductive RrIxS(x:V)(y:V)(H:Hp)(Q:VK):Prop
 |mk (z:_) (i:_) (c:_) (h0:x=.str z) (h1:y=.int i) (h2:z.length≤sizeLine) (h3:atI z.cps.toList i=some c) (h4:Q (.str ⟨#[c]⟩) H):RrIxS  x y H Q
def rIxS:R2:=λx y H Q=>RrIxS  x y H Q
def zao:IxR X (rIxL X.K):=by
 intro value slice a6 s σ H x y v u Q I rx ry h hs
 obtain⟨p,xs,i,z,rfl,rfl,hq,he,q⟩:=h
 cases rx
 obtain⟨t,rfl⟩:=ry
 obtain⟨a7,r,pl,hz⟩:=I.list hq
 obtain⟨j,h1,h2,h3,h4,h5⟩:=atI_get he
 obtain⟨w,ew,dH⟩:=r.get h2
 have hl:=r.length
 have hn:=zeo
 have fin:EP X a6 σ Q w s:=⟨z,H,I,dH,q⟩
 by_cases h0:0≤i
 ·have hj:i.toNat=j:=by
   rw[seqIndex_of h0 h5]at h1
   exact Qv h1
  exact item_listR pl.isList h0 (by lia) (by rw[hj];simpa using ew) fin hs
 ·have hj:(i+(a7.toArray.size:Int)).toNat=j:=by
   rw[seqIndex_neg (by lia) h4]at h1
   rw[Qq,←hl]
   exact Qv h1
  exact subscriptTail_builtinR (x:=w) pl.isList.typeIs slot_list_getitem.lookup
   (wpAny_getItem_list_neg (Q:=λr s'=>r=w∧EP X a6 σ Q r s') pl.isList (by lia) (by rw[Qq]<;>lia) (by lia) (by rw[hj];simpa using ew) ⟨rfl,fin⟩) hs
def zdj:IxR X (rIxT X.K):=by
 intro value slice a6 s σ H x y v u Q I rx ry h hs
 obtain⟨p,xs,i,z,rfl,rfl,hq,he,q⟩:=h
 cases rx
 obtain⟨t,rfl⟩:=ry
 obtain⟨a7,r,pl,hz⟩:=I.tuple hq
 obtain⟨j,h1,h2,h3,h4,h5⟩:=atI_get he
 obtain⟨w,ew,dH⟩:=r.get h2
 have hl:=r.length
 have hn:=zeo
 have fin:EP X a6 σ Q w s:=⟨z,H,I,dH,q⟩
 exact subscriptTail_builtinR (x:=w) pl.typeIs slot_tuple_getitem.lookup
  (getItem_tuple (j:=j) (Q:=λr s'=>r=w∧EP X a6 σ Q r s') pl (by lia) (by lia) (by rw[Qq,←hl];exact h1) (by simpa using ew) ⟨rfl,fin⟩) hs
def ix_str:IxR X rIxS:=by
 intro value slice a6 s σ H x y v u Q I rx ry h hs
 obtain⟨z,i,c,rfl,rfl,hz,he,q⟩:=h
 obtain⟨t,rfl⟩:=rx
 obtain⟨t',rfl⟩:=ry
 obtain⟨j,h1,h2,h3,h4,h5⟩:=atI_get he
 have hl:z.cps.toList.length=z.length:=by simp[Str.length]
 rw[hl]at h1 h4 h5
 have hn:=zeo
 exact tail_any (typeIs_str s z t) slot_str_getitem.lookup (getItem_str (c:=c) (by
  have e1:decide (i < -(2 ^ 63:Int))=false:=decide_eq_false (by lia)
  have e2:decide (i≥2 ^ 63)=false:=decide_eq_false (by lia)
  rw[e1,e2,Bool.or_false]) (by rw[h1];simpa using h2) ⟨.str ⟨#[c]⟩,H,I.tok _,⟨_,rfl⟩,q⟩) hs
def mapSeq_set(a7:Ni)(n j:Nat)(u:Value):Obj.mapSeq (·.setIfInBounds j u) {cls:=.type "list",data:=.seq a7.toArray n}={cls:=.type "list",data:=.seq (a7.set j u).toArray n}:=by
 simp[Obj.mapSeq]
def Inv.lst{a6:Nc}{σ:St}{H:Hp}{s:Nh}{p:Nd}{xs:List V}(I:Inv X a6 σ H s)(h:H p=some (.lst xs)) :
  ∃(a7:Ni) (n:Nat),Vals xs a7∧s.heap.get? p=some {cls:=.type "list",data:=.seq a7.toArray n}∧xs.length≤sizeLine:=by
 obtain⟨z,a7,n,r,e⟩:=I.hok p _ h
 exact⟨a7,n,r,e,z⟩
def Inv.lstUpd{a6:Nc}{σ:St}{H:Hp}{s:Nh}{p:Nd}{xs ys:List V}{a7 its':Ni}{n n':Nat}{f:Obj→Obj}(I:Inv X a6 σ H s)(h:H p=some (.lst xs))(ho:s.heap.get? p=some {cls:=.type "list",data:=.seq a7.toArray n})(hf:f {cls:=.type "list",data:=.seq a7.toArray n}={cls:=.type "list",data:=.seq its'.toArray n'})(r:Vals ys its')(hz:ys.length≤sizeLine)(t:Nat) :
  Inv X a6 σ (upd H p (.lst ys)) {s with heap:=s.heap.update p f,toks:=t}:=by
 have e:(s.heap.update p f).get? p=some {cls:=.type "list",data:=.seq its'.toArray n'}:=by
  rw[Uo f ho (by rw[hf]<;>rfl),hf]
 refine I.write (x:=p) (e:=p) (by rw[h];trivial) (.inl rfl) (λb u hb q=>(Yd _ _ (Zi hb)).trans q) ⟨_,e⟩ ?_
 exact⟨hz,its',n',r,e⟩
inductive RrSetL(o:V)(i:V)(v:V)(H:Hp)(Q:Hp→Prop):Prop
 |mk (p:_) (xs:_) (k:_) (j:_) (h0:o=.ref p) (h1:i=.int k) (h2:H p=some (.lst xs)) (h3:ixN xs.length k=some j) (h4:Q (upd H p (.lst (xs.set j v)))):RrSetL  o i v H Q
def rSetL:V→V→V→Hp→(Hp→Prop)→Prop:=λo i v H Q=>RrSetL  o i v H Q
def set_list:PSet X rSetL:=by
 intro a6 s σ H o i v ov iv u Q I ro ri rv h
 obtain⟨p,xs,k,j,rfl,rfl,hp,hj,q⟩:=h
 cases ro
 obtain⟨t,rfl⟩:=ri
 obtain⟨a7,n,r,ho,hz⟩:=I.lst hp
 obtain⟨h1,h2,h3,h4⟩:=ixN_seq hj
 have hl:=r.length
 have hn:=zeo
 have I':Inv X a6 σ (upd H p (.lst (xs.set j v))) {s with heap:=s.heap.update p (Obj.mapSeq (·.setIfInBounds j u))} :=
  I.lstUpd hp ho (mapSeq_set a7 n j u) (r.set rv j) (by rw[Uj];exact hz) s.toks
 by_cases h0:0≤k
 ·have hk:k.toNat=j:=by
   rw[seqIndex_of h0 h4]at h1
   exact Qv h1
  exact PySem.W.ki_setAt ho h0 (by lia) (by rw[Qq,←hl];exact h4) (by rw[hk];exact⟨_,I',q⟩)
 ·have hk:(k+(a7.toArray.size:Int)).toNat=j:=by
   rw[seqIndex_neg (by lia) h3]at h1
   rw[Qq,←hl]
   exact Qv h1
  exact PySem.W.ki_setBack ho (by lia) (by rw[Qq,←hl];exact h3) (by lia) (by rw[hk];exact⟨_,I',q⟩)
def slice_bounds(lo hi:Option Int)(n:Nat):(sliceBounds lo hi none n).1=((HT.sIx n 0 lo:Nat):Int)∧(sliceBounds lo hi none n).2.1=((HT.sIx n n hi:Nat):Int)∧(sliceBounds lo hi none n).2.2=1:=by
 refine⟨?_,?_,rfl⟩
 ·cases lo with
  |none=>simp[sliceBounds,HT.sIx]
  |some i =>
   simp only[sliceBounds,HT.sIx,Option.getD_none,show(1:Int)>0 by decide,if_true]
   by_cases h:i<0
   ·simp only[h,if_true]<;>lia
   ·simp only[h,if_false]<;>lia
 ·cases hi with
  |none=>simp[sliceBounds,HT.sIx]
  |some i =>
   simp only[sliceBounds,HT.sIx,Option.getD_none,show(1:Int)>0 by decide,if_true]
   by_cases h:i<0
   ·simp only[h,if_true]<;>lia
   ·simp only[h,if_false]<;>lia
def zhr(a7:Ni)(lo hi:Option Int):slicePick a7.toArray lo hi none=((a7.drop (HT.sIx a7.length 0 lo)).take (HT.sIx a7.length a7.length hi-HT.sIx a7.length 0 lo)).toArray:=by
 obtain⟨h1,h2,h3⟩:=slice_bounds lo hi a7.toArray.size
 unfold slicePick
 rw[h1,h2,h3]
 simp only[sliceRange_one,pick_run,Qq]<;>rfl
inductive RrSlL(K:Nb)(x:V)(lo:Option Int)(hi:Option Int)(H:Hp)(Q:VK):Prop
 |mk (a:_) (xs:_) (h0:x=.ref a) (h1:SqL K H a xs) (h2:∀p,H p=none→Q (.ref p) (upd H p (.lst (cutV xs lo hi)))):RrSlL K x lo hi H Q
def rSlL(K:Nb):V→Option Int→Option Int→Hp→VK→Prop:=λx lo hi H Q=>RrSlL K x lo hi H Q
def zby:SlR X (rSlL X.K):=by
 intro a6 s σ H x v vl vu lo hi sl Q I rx hs pl pu h
 obtain⟨a,xs,rfl,hx,q⟩:=h
 cases rx
 obtain⟨a7,r,ht,hz⟩:=I.list hx
 have aa:=r.length
 refine⟨"list",_,slot_list_getitem.lookup,ht.isList.typeIs,?_⟩
 refine wpAny_getItem_list_slice ht.isList hs pl pu .none (by simp) ?_ (by rw[Qq]<;>exact zd7 ‹_› ‹_›)
 rw[zhr,←aa]
 refine⟨.ref s.heap.objs.size,_,I.laid (t':=s.toks) (o:=.lst (cutV xs lo hi)) (λb ob q=>Qf _ q) (Qg _) ?_,rfl,q _ (I.hok.fresh (Qg _))⟩
 exact⟨Zk (zbq xs lo hi) hz,_,0,(r.drop (HT.sIx xs.length 0 lo)).take (HT.sIx xs.length xs.length hi-HT.sIx xs.length 0 lo),Qw _ rfl⟩
def ze4:V→Bool
 |.non=>true
 |.bl _=>true
 |.int _=>true
 |.str _=>true
 |_=>false
def eqV:V→V→Bool
 |.non,.non=>true
 |.bl a,.bl b=>a==b
 |.bl a,.int b=>(if a then 1 else 0)==b
 |.int a,.bl b=>a==(if b then 1 else 0)
 |.int a,.int b=>a==b
 |.str a,.str b=>a==b
 |_,_=>false
def eqAt_V{A:No}{s:Nh}{y x:V}{u v:Value}(ry:RelV y u)(rx:RelV x v)(fy:ze4 y=true)(fx:ze4 x=true):SeqAt.EqAt A s u v (eqV y x):=by
 cases y with
 |non =>
  cases ry
  cases x with
  |non=>cases rx;exact SeqAt.EqAt.same _
  |bl b=>cases rx;exact SeqAt.EqAt.none_bool b
  |int b=>obtain⟨t,rfl⟩:=rx;exact SeqAt.EqAt.none_int b t
  |str b=>obtain⟨t,rfl⟩:=rx;exact SeqAt.EqAt.none_str b t
  |_=>exact absurd (show false=true from fx) Zc
 |bl a =>
  cases ry
  cases x with
  |non=>cases rx;exact SeqAt.EqAt.bool_none a
  |bl b=>cases rx;exact SeqAt.EqAt.bool_bool a b
  |int b=>obtain⟨t,rfl⟩:=rx;exact SeqAt.EqAt.bool_int a b t
  |str b=>obtain⟨t,rfl⟩:=rx;exact SeqAt.EqAt.bool_str a b t
  |_=>exact absurd (show false=true from fx) Zc
 |int a =>
  obtain⟨t',rfl⟩:=ry
  cases x with
  |non=>cases rx;exact SeqAt.EqAt.int_none a t'
  |bl b=>cases rx;exact SeqAt.EqAt.int_bool a t' b
  |int b=>obtain⟨t,rfl⟩:=rx;exact SeqAt.EqAt.int_int a t' b t
  |str b=>obtain⟨t,rfl⟩:=rx;exact SeqAt.EqAt.int_str a t' b t
  |_=>exact absurd (show false=true from fx) Zc
 |str a =>
  obtain⟨t',rfl⟩:=ry
  cases x with
  |non=>cases rx;exact SeqAt.EqAt.str_none a t'
  |bl b=>cases rx;exact SeqAt.EqAt.str_bool a t' b
  |int b=>obtain⟨t,rfl⟩:=rx;exact SeqAt.EqAt.str_int a t' b t
  |str b=>obtain⟨t,rfl⟩:=rx;exact SeqAt.EqAt.str_str a t' b t
  |_=>exact absurd (show false=true from fx) Zc
 |_=>exact absurd (show false=true from fy) Zc
def eqU(x:V)(u:Value):Bool:=match u with
 |.none=>eqV .non x
 |.bool b=>eqV (.bl b) x
 |.int i _=>eqV (.int i) x
 |.str z _=>eqV (.str z) x
 |_=>false
def eqU_of{x y:V}{u:Value}(r:RelV y u)(f:ze4 y=true):eqU x u=eqV y x:=by
 cases y with
 |non=>cases r;rfl
 |bl b=>cases r;rfl
 |int i=>obtain⟨t,rfl⟩:=r;rfl
 |str z=>obtain⟨t,rfl⟩:=r;rfl
 |_=>exact absurd (show false=true from f) Zc
theorem zgq{x:V}:∀{xs:List V} {us:Ni},Vals xs us→xs.all ze4=true→us.any (eqU x)=xs.any λy=>eqV y x
 |_,_,.nil,_=>rfl
 |y::xs,u::us,.cons r t,f=>by
  rw[List.all_cons,Jq]at f
  rw[Ku,Ku,eqU_of r f.1,zgq t f.2]
theorem zdq{A:No}{s:Nh}{x:V}{v:Value}(rx:RelV x v)(fx:ze4 x=true):∀{xs:List V} {us:Ni},Vals xs us→xs.all ze4=true→∀u∈us,SeqAt.EqAt A s u v (eqU x u)
 |_,_,.nil,_=>λu hu=>by cases hu
 |y::xs,u::us,.cons r t,f=>λu' hu=>by
  rw[List.all_cons,Jq]at f
  rcases Qh.mp hu with rfl | hu
  ·rw[eqU_of r f.1];exact eqAt_V r rx f.1 fx
  ·exact zdq rx fx t f.2 u' hu
def inV(x:V)(xs:List V):Bool:=xs.any λy=>eqV y x
inductive RrIn(K:Nb)(neg:Bool)(x:V)(y:V)(H:Hp)(Q:VK):Prop
 |mk (p:_) (xs:_) (h0:y=.ref p) (h1:(SqL K H p xs∨SqT K H p xs)) (h2:ze4 x=true) (h3:xs.all ze4=true) (h4:Q (.bl (if neg then !inV x xs else inV x xs)) H):RrIn K neg x y H Q
def rIn(K:Nb)(neg:Bool):R2:=λx y H Q=>RrIn K neg x y H Q
def op_in_seq:OpR X (compareOp .In) (rIn X.K false):=by
 intro a6 s σ H x y v u Q I rx ry h
 obtain⟨p,xs,rfl,hq,fx,fs,q⟩:=h
 cases ry
 rcases hq with hq | hq
 ·obtain ⟨a7,r,pl,hz⟩:=I.list hq
  refine SeqAt.in_listAt (eqU x) pl.isList (λw hw=>zdq rx fx r fs w (by simpa using hw)) ⟨.bl _,H,I,rfl,?_⟩
  rw[show a7.toArray.any (eqU x)=a7.any (eqU x) by simp,zgq r fs]
  exact q
 ·obtain ⟨a7,r,pl,hz⟩:=I.tuple hq
  refine SeqAt.in_tupleAt (eqU x) pl (λw hw=>zdq rx fx r fs w (by simpa using hw)) ⟨.bl _,H,I,rfl,?_⟩
  rw[show a7.toArray.any (eqU x)=a7.any (eqU x) by simp,zgq r fs]
  exact q
def zct:OpR X (compareOp .NotIn) (rIn X.K true):=by
 intro a6 s σ H x y v u Q I rx ry h
 obtain⟨p,xs,rfl,hq,fx,fs,q⟩:=h
 cases ry
 rcases hq with hq | hq
 ·obtain ⟨a7,r,pl,hz⟩:=I.list hq
  refine SeqAt.notIn_listAt (eqU x) pl.isList (λw hw=>zdq rx fx r fs w (by simpa using hw)) ⟨.bl _,H,I,rfl,?_⟩
  rw[show a7.toArray.any (eqU x)=a7.any (eqU x) by simp,zgq r fs]
  exact q
 ·obtain ⟨a7,r,pl,hz⟩:=I.tuple hq
  refine SeqAt.notIn_tupleAt (eqU x) pl (λw hw=>zdq rx fx r fs w (by simpa using hw)) ⟨.bl _,H,I,rfl,?_⟩
  rw[show a7.toArray.any (eqU x)=a7.any (eqU x) by simp,zgq r fs]
  exact q
def zal:zb2 X (.builtin "len") (λxs H Q=>Ex2 λp ys=>Aj3 (xs=[.ref p]) ((SqL X.K H p ys)∨( SqT X.K H p ys)) (Q (.int ys.length) H)):=by
 intro a6 s σ H xs us Q I r h
 obtain⟨p,ys,rfl,hq,q⟩:=h
 obtain⟨u,rfl,rx⟩:=vals1 r
 cases rx
 have hn:=zeo
 rcases hq with hq | hq
 ·obtain ⟨a7,r',pl,hz⟩:=I.list hq
  have aa:=r'.length
  exact Calls.call_len_list pl.isList (by simp only[Qq]<;>lia) ⟨.int ys.length,H,I.tok _,⟨s.toks+1,by rw[Qq,aa]⟩,q⟩
 ·obtain ⟨a7,r',pl,hz⟩:=I.tuple hq
  have aa:=r'.length
  exact len_tuple pl (by simp only[Qq]<;>lia) ⟨.int ys.length,H,I.tok _,⟨s.toks+1,by rw[Qq,aa]⟩,q⟩
def zch:zb2 X (.builtin "len") (λxs H Q=>Ex1 λz=>Aj3 (xs=[.str z]) (z.length≤sizeLine) (Q (.int z.length) H)):=by
 intro a6 s σ H xs us Q I r h
 obtain⟨z,rfl,hz,q⟩:=h
 obtain⟨u,rfl,t,rfl⟩:=vals1 r
 have hn:=zeo
 exact len_str (by lia) ⟨.int z.length,H,I.tok _,⟨_,rfl⟩,q⟩
def zb2.or{f:Value}{r r':List V→Hp→VK→Prop}(h:zb2 X f r)(h':zb2 X f r'):zb2 X f (λxs H Q=>r xs H Q∨r' xs H Q):=by
 intro a6 s σ H xs us Q I rs q
 rcases q with q | q
 ·exact h a6 s σ H xs us Q I rs q
 ·exact h' a6 s σ H xs us Q I rs q
def zfl:zb2 X (.type "list") (λxs H Q=>Ex2 λp ys=>Aj3 (xs=[.ref p]) ((SqL X.K H p ys)∨( SqT X.K H p ys)) (∀l,H l=none→Q (.ref l) (upd H l (.lst ys)))):=by
 intro a6 s σ H xs us Q I r h
 obtain⟨p,ys,rfl,hq,q⟩:=h
 obtain⟨u,rfl,rx⟩:=vals1 r
 cases rx
 have fin:∀(a7:Ni),Vals ys a7→ys.length≤sizeLine→∀(h':Nm) (c':Nat),(∀b o',s.heap.get? b=some o'→h'.get? b=some o') →
   h'.get? s.heap.objs.size=some {cls:=.type "list",dict:=none,data:=.seq a7.toArray c',slots:=#[]}→EP X a6 σ Q (.ref s.heap.objs.size) {s with heap:=h'}:=λa7 r' hz h' c' kp e =>
  ⟨.ref s.heap.objs.size,_,I.laid (t':=s.toks) kp (Qg _) (show zbr X.prog X.w _ h' _ (.lst ys) from⟨hz,a7,c',r',e⟩),rfl,q _ (I.hok.fresh (Qg _))⟩
 rcases hq with hq | hq
 ·obtain ⟨a7,r',pl,hz⟩:=I.list hq
  have aa:=r'.length
  obtain⟨o,ho,hc,n,hd⟩:=pl.isList
  exact call_list_seq p (.inl rfl) ho hc hd (λh' c' kp e=>fin a7 r' hz h' c' kp e) (by simp only[Qq]<;>exact zd7 ‹_› ‹_›)
 ·obtain ⟨a7,r',pl,hz⟩:=I.tuple hq
  have aa:=r'.length
  obtain⟨o,ho,hc,n,hd⟩:=pl
  exact call_list_seq p (.inr rfl) ho hc hd (λh' c' kp e=>fin a7 r' hz h' c' kp e) (by simp only[Qq]<;>exact zd7 ‹_› ‹_›)
def zil:zb2 X (.type "tuple") (λxs H Q=>Ex2 λp ys=>Aj2 (xs=[.ref p]) ((Aj2 (SqL X.K H p ys) (∀l,H l=none→Q (.ref l) (upd H l (.tup ys))))∨(Aj2 (SqT X.K H p ys) (Q (.ref p) H)))):=by
 intro a6 s σ H xs us Q I r h
 obtain⟨p,ys,rfl,h⟩:=h
 obtain⟨u,rfl,rx⟩:=vals1 r
 cases rx
 rcases h with⟨hq,q⟩ | ⟨hq,q⟩
 ·obtain ⟨a7,r',pl,hz⟩:=I.list hq
  have aa:=r'.length
  refine call_tuple_list pl.isList (λh' kp=>?_) (by simp only[Qq]<;>exact zd7 ‹_› ‹_›)
  have I1:Inv X a6 σ H {s with heap:=h'}:=I.kept (t':=s.toks) kp
  have I2:Inv X a6 σ (upd H h'.objs.size (.tup ys)) {s with heap:=h'.push {cls:=.type "tuple",data:=.seq a7.toArray}} :=
   I1.laid (t':=s.toks) (λb o e=>Qf _ e) (Qg _) (show zbr X.prog X.w _ _ _ (.tup ys) from⟨hz,a7,r',IsTup.new _ _⟩)
  exact⟨.ref h'.objs.size,_,I2,rfl,q _ (I1.hok.fresh (Qg _))⟩
 ·obtain ⟨a7,r',pl,hz⟩:=I.tuple hq
  exact call_tuple_same pl ⟨.ref p,H,I,rfl,q⟩
def tyV(K:Nb)(T:String)(x:V)(H:Hp):Prop:=match x with
 |.str _=>T = "str"
 |.int _=>T = "int"
 | .ref p=>(T = "list" ∧ ∃ xs,SqL K H p xs)∨(T = "tuple" ∧ ∃ o,K.lookup p=some o∧o.cls=.type "tuple" ∧ o.dict=none) ∨
   (T = "dict" ∧ ((∃kvs,H p=some (.dK kvs))∨∃kvs,H p=some (.dT kvs)))∨(T = "set" ∧ ∃S n,H p=some (.set S n))
 |_=>False
def tyV_is{a6:Nc}{σ:St}{H:Hp}{s:Nh}{T:String}{x:V}{v:Value}(I:Inv X a6 σ H s)(r:RelV x v)(ty:tyV X.K T x H) :
  s.TypeIs v T∧∀a,v=.ref a→∃ob,s.heap.get? a=some ob∧ob.dict=none:=by
 cases x with
 |str z =>
  obtain⟨t,rfl⟩:=r
  cases(show T = "str" from ty)
  exact⟨typeIs_str s z t,λ_ e=>nomatch e⟩
 |int i =>
  obtain⟨t,rfl⟩:=r
  cases(show T = "int" from ty)
  exact⟨typeIs_int s i t,λ_ e=>nomatch e⟩
 | ref p =>
  cases r
  rcases ty with⟨rfl,xs,hq⟩ | ⟨rfl,o,hk,hc,hd⟩ | ⟨rfl,hk⟩ | ⟨rfl,S,n,hk⟩
  ·obtain ⟨a7,_,pl,_⟩:=I.list hq
   refine⟨pl.isList.typeIs,λa e=>?_⟩
   cases e
   obtain⟨o,n,e,c,hd,_⟩:=pl
   exact⟨o,e,hd⟩
  ·refine ⟨⟨o,I.kIn p o hk,hc⟩,fun a e=>?_⟩
   cases e
   exact⟨o,I.kIn _ o hk,hd⟩
  ·have z:∃ o,s.heap.get? p=some o∧o.ExactDict:=by
    rcases hk with⟨kvs,hk⟩ | ⟨kvs,hk⟩
    ·obtain ⟨_,_,_,_,o,_,_,e,ex,_⟩:=I.hok p _ hk
     exact⟨o,e,ex⟩
    ·obtain ⟨_,_,_,_,o,_,_,e,ex,_⟩:=I.hok p _ hk
     exact⟨o,e,ex⟩
   obtain⟨o,e,ex⟩:=z
   refine⟨⟨o,e,ex.1⟩,λa e2=>?_⟩
   cases e2
   exact⟨o,e,ex.2.1⟩
  ·obtain ⟨o,_,_,_,e,ex,_⟩:=I.hok p _ hk
   refine⟨⟨o,e,ex.1⟩,λa e2=>?_⟩
   cases e2
   exact⟨o,e,ex.2.1⟩
 |_=>exact False.elim ty
def tBM0(K:Nb)(T:String)(r:V→List V→Hp→VK→Prop)(to:TE):TE:=λ σ H Q=>to σ H λx H1=>tyV K T x H1∧r x [] H1 Q
def tBM(K:Nb)(T:String)(r:V→List V→Hp→VK→Prop)(to:TE)(t:TA):TE:=λ σ H Q=>to σ H λx H1=>tyV K T x H1∧t σ H1 λxs H2=>r x xs H2 Q
variable{o e:Expr}{es:Np}{to:TE}{t:TA}{name:Str}{apos cpos:Pos}{T id:String}{r:V→List V→Hp→VK→Prop}
def pe_bm0(pa:PlainAttrs T)(slot:Slot T name id)(hV:typeOf (.builtin id)=pure (.type "method_descriptor"))(hm:MtR X id r)(ho:PE X o to)(gt:attributeBase o name X.env (eval o X.env)=eval o X.env:=by rfl)(fU:(apos.endLine==cpos.line)=true:=by rfl):PE X (.Call (.Attribute o name apos) [] [] cpos) (tBM0 X.K T r to):=by
 intro a6 s σ H Q I h
 refine wpAny_Call_method0_late gt fU (thn (ho a6 s σ H _ I h) λv s1 ⟨x,H1,I1,r1,ty,q1⟩=>?_)
 obtain⟨h1,h2⟩:=tyV_is I1 r1 ty
 exact⟨T,id,pa,slot,hV,h1,h2,Calls.callWith_builtin rfl (PySem.evalArgs_none (hm a6 s1 σ H1 x [] v [] Q I1 r1 .nil q1))⟩
def zb7(pa:PlainAttrs T)(slot:Slot T name id)(hV:typeOf (.builtin id)=pure (.type "method_descriptor"))(hm:MtR X id r)(ho:PE X o to)(ha:PA X (e::es) t)(gt:attributeBase o name X.env (eval o X.env)=eval o X.env:=by rfl)(sB:((backTo cpos (starEach (e::es) X.env)).all (fun x=>!x.1) && (backToKw cpos (keywordEach [] X.env)).all (fun x=>x.1.isSome)
   && decide ((e::es).length+([]:List Keyword).length+(if([]:List Keyword).isEmpty then 0 else 1)<30))=true:=by rfl)(fU:(apos.endLine==cpos.line)=true:=by rfl)(hs:starEach (e::es) X.env=(false,eval e X.env)::starEach es X.env:=by rfl)(jI:(backTo cpos (starEach es X.env)).any (·.1)=false:=by rfl) :
  PE X (.Call (.Attribute o name apos) (e::es) [] cpos) (tBM X.K T r to t):=by
 intro a6 s σ H Q I h
 refine wpAny_Call_method_late gt sB fU rfl (thn (ho a6 s σ H _ I h) λv s1 ⟨x,H1,I1,r1,ty,q1⟩=>?_)
 obtain⟨h1,h2⟩:=tyV_is I1 r1 ty
 refine⟨T,id,pa,slot,hV,h1,h2,?_⟩
 have hA:=ha cpos a6 s1 σ H1 _ I1 q1
 rw[hs]at hA ⊢
 refine Calls.callWith_builtin (by show(false||(backTo cpos (starEach es X.env)).any (·.1))=false;rw[jI]<;>rfl) (Calls.evalArgs_plain ?_)
 exact thn hA λus s2 ⟨vs,H2,I2,r2,q2⟩=>hm a6 s2 σ H2 x vs v us Q I2 r1 r2 q2
end
end L2
namespace L2
open PySem PySem.Spec PyProof.Rows
def MtM(X:Cx)(id:String)(r:V→List V→Hp→VK→Prop):Prop :=
 ∀(a6:Nc) (s:Nh) (σ:St) (H:Hp) (x:V) (xs:List V) (v:Value) (us:Ni) (Q:VK),Inv X a6 σ H s→RelV x v→Vals xs us→r x xs H Q →
  wpAny (model X.prog X.w) X.A (call (.builtin id) (v::us)) (EP X a6 σ Q) X.xe s
theorem Vals.one:∀{x:V} {us:Ni},Vals [x] us→∃u,us=[u]∧RelV x u
 |_,_,.cons r .nil=>⟨_,rfl,r⟩
theorem Vals.two:∀{x y:V} {us:Ni},Vals [x,y] us→∃u v,us=[u,v]∧RelV x u∧RelV y v
 |_,_,_,.cons r (.cons q .nil)=>⟨_,_,rfl,r,q⟩
theorem Vals.zero:∀{us:Ni},Vals [] us→us=[]
 |_,.nil=>rfl
def Vals.dropLast{xs:List V}{us:Ni}(h:Vals xs us):Vals xs.dropLast us.dropLast:=by
 induction h with
 |nil=>exact .nil
 |cons r t ih =>
  cases t with
  |nil=>exact .nil
  |cons q t'=>exact .cons r ih
def Vals.reverse{xs:List V}{us:Ni}(h:Vals xs us):Vals xs.reverse us.reverse:=by
 induction h with
 |nil=>exact .nil
 |cons r t ih=>rw[Kq,Kq];exact Vals.append ih (.cons r .nil)
def erase_last{α:Type}(l:List α):l.eraseIdx (l.length - 1)=l.dropLast:=by
 induction l with
 |nil=>rfl
 | cons a r ih =>
  cases r with
  |nil=>rfl
  | cons b r =>
   have e:(a::b::r).length-1=((b::r).length-1)+1:=by
    have h1:(a::b::r).length=r.length+2:=rfl
    have h2:(b::r).length=r.length+1:=rfl
    assumption
   rw[e,List.eraseIdx_cons_succ,ih]
   all_goals rfl
section
variable{X:Cx}{a6:Nc}{σ:St}{H:Hp}{s:Nh}{l b:Nd}{xs ys zs:List V}
def Inv.lset{a7 its':Ni}{n:Nat}{f:Array Value→Array Value}{t':Nat}(I:Inv X a6 σ H s)(hH:H l=some (.lst xs))(e:s.heap.get? l=some {cls:=.type "list",data:=.seq a7.toArray n})(hf:f a7.toArray=its'.toArray)(hv:Vals ys its')(hz:ys.length≤sizeLine) :
  Inv X a6 σ (upd H l (.lst ys)) {s with heap:=s.heap.update l (Obj.mapSeq f),toks:=t'}:=by
 have q:=PySem.IsL.update e f
 rw[hf]at q
 refine I.write (x:=l) (e:=l) (by rw[hH];exact trivial) (.inl rfl) (λb' u hb hu=>(Yd s.heap (Obj.mapSeq f) (Zi hb)).trans hu) ⟨_,q⟩ ?_
 exact⟨hz,its',_,hv,q⟩
def Inv.lnew{a7:Ni}{t':Nat}(I:Inv X a6 σ H s)(hv:Vals ys a7)(hz:ys.length≤sizeLine) :
  Inv X a6 σ (upd H s.heap.objs.size (.lst ys)) {s with heap:=s.heap.push {cls:=.type "list",data:=.seq a7.toArray},toks:=t'} :=
 I.laid (λ_ _ q=>Qf _ q) (Qg _) ⟨hz,a7,0,hv,Qw _ rfl⟩
def Inv.fresh(I:Inv X a6 σ H s):H s.heap.objs.size=none:=I.hok.fresh (Qg _)
def Inv.lstM(I:Inv X a6 σ H s)(hH:H l=some (.lst xs)):xs.length≤sizeLine∧∃(a7:Ni) (n:Nat),Vals xs a7∧xs.length=a7.length∧s.heap.get? l=some {cls:=.type "list",data:=.seq a7.toArray n}:=by
 obtain⟨z,a7,n,r,e⟩:=I.hok l _ hH
 exact⟨z,a7,n,r,r.length,e⟩
def notLongL{n:Nat}(h:n≤sizeLine):Builtin.List.listTooLong n=false:=by
 unfold Builtin.List.listTooLong
 exact decide_eq_false (by lia)
end
section
variable{X:Cx}
inductive RrAppend(x:V)(vs:List V)(H:Hp)(Q:VK):Prop
 |mk (l:_) (xs:_) (y:_) (h0:x=.ref l) (h1:vs=[y]) (h2:H l=some (.lst xs)) (h3:xs.length<sizeLine) (h4:Q .non (upd H l (.lst (xs++[y])))):RrAppend  x vs H Q
def rAppend:V→List V→Hp→VK→Prop:=λx vs H Q=>RrAppend  x vs H Q
def za4:MtM X "list.append" rAppend:=by
 intro a6 s σ H x vs v us Q I rx rv h
 obtain⟨l,xs,y,rfl,rfl,hH,hz,q⟩:=h
 cases rx
 obtain⟨u,rfl,ru⟩:=rv.one
 obtain⟨z,a7,n,r,hl,e⟩:=I.lstM hH
 refine call_meets F.slot_list_append ⟨_,e,rfl⟩ F.entry_list_append (F.args_list_append_2 _ _) (PySem.list_append l a7.toArray n u (by rw[Qq];exact zd7 ‹_› ‹_›)) ⟨e,?_⟩
 refine⟨.non,_,I.lset (its':=a7++[u]) hH e (by simp) (r.append (.cons ru .nil)) ?_,rfl,q⟩
 rw[Qj,Zx]
 assumption
def rExtend:V→List V→Hp→VK→Prop:=λx vs H Q=>∃l b xs zs,x=.ref l∧vs=[.ref b]∧H l=some (.lst xs)∧H b=some (.lst zs)∧xs.length+zs.length≤sizeLine∧Q .non (upd H l (.lst (xs++zs)))
def mt_extend:MtM X "list.extend" rExtend:=by
 intro a6 s σ H x vs v us Q I rx rv h
 obtain⟨l,b,xs,zs,rfl,rfl,hH,hB,hz,q⟩:=h
 cases rx
 obtain⟨u,rfl,ru⟩:=rv.one
 cases ru
 obtain⟨z,a7,n,r,hl,e⟩:=I.lstM hH
 obtain⟨z2,aP,n2,r2,aq,e2⟩:=I.lstM hB
 have hsz:a7.toArray.size+aP.toArray.size≤sizeLine:=by rw[Qq,Qq];lia
 have mQ:¬(!a7.toArray.isEmpty&&Builtin.List.listTooLong (a7.toArray.size+aP.toArray.size))=true:=by
  rw[notLongL hsz,Bool.and_false]
  exact Zc
 refine call_meets F.slot_list_extend ⟨_,e,rfl⟩ F.entry_list_extend (F.args_list_extend_2 _ _)
  (AutoSeq1.list_extend_list_list_0 l a7.toArray n b aP.toArray n2 mQ (by rw[Qq];lia) (by exact zar16 ‹_›)) ⟨e,e2,?_⟩
 refine⟨.non,_,I.lset (its':=a7++aP) hH e (by simp) (r.append r2) ?_,rfl,q⟩
 rw[Qj]
 assumption
inductive RrPop(x:V)(vs:List V)(H:Hp)(Q:VK):Prop
 |mk (l:_) (xs:_) (y:_) (h0:x=.ref l) (h1:vs=[]) (h2:H l=some (.lst xs)) (h3:xs[xs.length-1]?=some y) (h4:Q y (upd H l (.lst xs.dropLast))):RrPop  x vs H Q
def rPop:V→List V→Hp→VK→Prop:=λx vs H Q=>RrPop  x vs H Q
def mt_pop:MtM X "list.pop" rPop:=by
 intro a6 s σ H x vs v us Q I rx rv h
 obtain⟨l,xs,y,rfl,rfl,hH,hy,q⟩:=h
 cases rx
 have hus:=rv.zero
 subst hus
 obtain⟨z,a7,n,r,hl,e⟩:=I.lstM hH
 obtain⟨u,hu,ru⟩:=r.get hy
 have c9:a7.toArray[a7.toArray.size-1]?=some u:=by
  show a7.toArray[a7.length-1]?=some u
  rw[←Ug,←hl]
  exact hu
 refine call_meets F.slot_list_pop ⟨_,e,rfl⟩ F.entry_list_pop (F.args_list_pop_1 _) (MeetsSeq.list_pop_last l a7.toArray n u c9 (by rw[Qq];exact zd7 ‹_› ‹_›)) ⟨e,?_⟩
 refine⟨y,_,I.lset (its':=a7.dropLast) hH e ?_ r.dropLast ?_,ru,q⟩
 ·show a7.toArray.eraseIdxIfInBounds (a7.toArray.size - 1)=a7.dropLast.toArray
  rw[Qq,List.eraseIdxIfInBounds_toArray,erase_last]
 ·rw [List.length_dropLast]
  lia
inductive RrCat(x:V)(y:V)(H:Hp)(Q:VK):Prop
 |mk (l:_) (b:_) (xs:_) (zs:_) (h0:x=.ref l) (h1:y=.ref b) (h2:H l=some (.lst xs)) (h3:H b=some (.lst zs)) (h4:xs.length+zs.length≤sizeLine) (h5:∀p,H p=none→Q (.ref p) (upd H p (.lst (xs++zs)))):RrCat  x y H Q
def rCat:R2:=λx y H Q=>RrCat  x y H Q
def zda:OpR X (binaryOp .Add) rCat:=by
 intro a6 s σ H x y v u Q I rx ry h
 obtain⟨l,b,xs,zs,rfl,rfl,hH,hB,hz,q⟩:=h
 cases rx
 cases ry
 obtain⟨z,a7,n,r,hl,e⟩:=I.lstM hH
 obtain⟨z2,aP,n2,r2,aq,e2⟩:=I.lstM hB
 refine PySem.P.add_list e e2 ?_ (by rw[Qq,Qq];lia)
 have ea:a7.toArray++aP.toArray=(a7++aP).toArray:=by simp
 rw[ea]
 exact⟨.ref _,_,I.lnew (t':=s.toks) (r.append r2) (by rw[Qj];assumption),rfl,q _ I.fresh⟩
end
section
variable{prog:Nj}{w:Nk}{A:No}{E:Na}{s:Nh}
end
section
variable{X:Cx}
end
end L2
namespace Att
open PySem PySem.W PySem.Calls PyProof.Rows
def zgm{P:Params}{h:Nm}:∀(ns:List Int) (vs:Ni),WellAll P h vs (ns.map WData.int)→IntsAre vs ns:=by
 intro ns
 induction ns with
 |nil =>
  intro vs w
  rw[Xb]at w
  cases w
  exact .nil
 | cons n ns ih =>
  intro vs w
  rw[Ql]at w
  cases w with
  |cons a b =>
   cases a
   exact .cons _ _ (ih _ b)
def script_of{l:OpenLaw}{n:Nat}(hn:l.most=some n){P:Params}{h:Nm}{args:List WData}{jb:Ni}(i5:l.row.toRowW.claim.pre args=true)(eJ:WellAll P h jb args) :
  ∃a vs ns,jb=[Value.ref a]∧args=[WData.list (ns.map WData.int)]∧h.get? a=some {cls:=.type "list",data:=.seq vs.toArray}∧IntsAre vs ns∧ns.length≤n:=by
 have hsh:WShape.hasAll [] args [.list .int]=true:=(pre_splitW i5).1
 have hc:l.pre.holds [] {args:=args}=true:=(pre_splitW i5).2
 obtain⟨d,r,rfl,h1,h2⟩:=hasAllW_cons hsh
 obtain rfl:=hasAllW_nil h2
 obtain⟨xs,rfl,h3⟩:=hasW_list h1
 obtain⟨ns,rfl⟩:=items_int h3
 have aa:ns.length≤n:=by
  unfold OpenLaw.pre at hc
  have h4:(WTm.not (.lt (.lit (.int (n:Int))) (.len (.arg 0)))).holds [] {args:=[.list (ns.map .int)]}=true:=by
   have h4:=(holds_andW hc).1
   rw[hn]at h4
   exact h4
  have h5:=condW_of h4 (w_not (w_lt w_lit (w_len_list (w_arg rfl))))
  rw[Qa]at h5
  refine Nat.le_of_not_lt λq=>?_
  have q':(n:Int)<((ns.length:Nat):Int):=by exact zar9 ‹_›
  first
   |(rw[decide_eq_true q']at h5;exact absurd h5 (by decide))
   |(simp at h5;lia)
 cases eJ with
 |cons w1 w2 =>
  cases w2
  cases w1 with
  |list ho cS=>exact⟨_,_,ns,rfl,rfl,ho,zgm ns _ cS,aa⟩
def post_true(l:OpenLaw)(args:List WData):l.row.toRowW.claim.post args (.bool true) args=true :=
 postW_of (r:=l.row.toRowW) (X:=(true==true))
  (show WShape.has [] (.bool true) .bool=true by first | rfl | decide | simp[WShape.has,WShape.arms,WShape.armsAll])
  (show(WTm.eq .res (.lit (.bool true))).value [] {args:=args,res:=some (.bool true),after:=args}=some (.bool (true==true)) from w_eq_bool (w_res rfl) w_lit) rfl
def attach_call{l:OpenLaw}{n:Nat}{q:Nj}{loose:Nf}{XP:(Str→Option Value)→Heap→Prop}{YP:World→Heap→Prop}{d:DefRec}(hn:l.most=some n)(nK:d.params.defaults=[])(call:∀ (w:Nk) (s₀ s₁:Nh) (mg mb:Ng) (fa:Nd) (o:Obj) (pm cd doc:Value) (a:Nd) (vs:Ni) (ns:List Int),
   Ground q loose [] XP w s₀ mg mb s₁.heap→YP w s₁.heap →
   s₁.heap.get? fa=some o→o.data=.func (docDef d.name d.params d.body d.scope pm cd doc)→s₁.heap.CodeRec cd d.name→mg d.name=some (.ref fa) →
   s₁.heap.get? a=some {cls:=.type "list",data:=.seq vs.toArray}→IntsAre vs ns→ns.length≤n→s₁.gens=#[] →
   codeAny (model l.prog w) callerA (.call (.ref fa) ⟨[.ref a],[]⟩) (λr s'=>r=.ok (.ret (.bool true))∧OldK s₁.heap s'.heap∧s'.os=s₁.os∧AllBare s'.gens) s₁) :
  WalkO q loose XP YP l.row.toRowW d [] (λf vs=>PySem.call f vs):=by
 intro w s₀ s₁ mg mb G Y fa o pm cd doc dV kV ho hd aO hD rS hg args jb as i5 ik hrd eJ hlo
 obtain rfl:dV=.none:=Dflts.none hD nK
 obtain rfl:kV=.none:=Dflts.noKw hD
 obtain⟨a,vs,ns,rfl,rfl,jM,gf,aa⟩:=script_of hn i5 eJ
 refine enter_call (codeAny_mono (call w s₀ s₁ mg mb fa o pm cd doc a vs ns G Y ho (fd_plain hd) aO rS jM gf aa hg) λr s' hq=>?_)
 obtain⟨rfl,h2,h3,h4⟩:=hq
 exact⟨.inl ⟨.bool true,.bool true,[],rfl,λ_=>rfl,.bool true,post_true l _,λ_=>⟨List.Pairwise.nil,λ_ hm=>(nomatch hm)⟩⟩,h2,h3,h4⟩
section
variable{prog:Nj}{w:Nk}{A:No}{E:Na}{s:Nh}{K:Frag}
end
end Att
namespace L2
open PySem PySem.Spec PyProof.Rows
theorem vals_ints:∀{vs:Ni} {ns:List Int},IntsAre vs ns→Vals (ns.map V.int) vs
 |_,_,.nil=>.nil
 |_,_,.cons n t h=>.cons ⟨t,rfl⟩ (vals_ints h)
def Only(H:Hp):Prop:=∀b,H b=none∨∃o xs,H b=some (.frz o (.lst xs))
def law_call{P:Nj}{w:Nk}{K:Nb}{mg mb:Ng}{CX:CXT}{k:Nat}{fa a:Nd}{fd:Nq}{x:Str}{sp:Sp}{s₁:Nh}{vs:Ni}{ns:List Int}(KX:K.In s₁.heap)(oZ:s₁.heap.Ns mainGlobals mg)(hb:s₁.heap.Ns builtinsNs mb)(pk:∀x:Str,x ≠ "__name__" → mb x=bootBuiltins x)(rX:s₁.heap.NoLimit)(hg:s₁.gens=#[])(ha:s₁.heap.get? a=some {cls:=.type "list",data:=.seq vs.toArray})(hi:IntsAre vs ns)(hl:ns.length≤sizeLine)(hr:Room k callerA)(F:∀base:Heap,K.In base→base.Ns mainGlobals mg→FnOk P w K mg base CX k fa fd [x] sp)(nX:∀(s:Shared) (u:Value),BindsTo s fd ⟨[u],[]⟩ [(x,u)])(bv:∀H:Hp,Only H→SqL K H a (ns.map V.int)→sp [.ref a] H (λv _=>v=.bl true) λ_ _ _=>False)(tR:∀H e s',CX [] H s₁ (λ_ _ _=>False) e s'→False) :
  codeAny (model P w) callerA (.call (.ref fa) ⟨[.ref a],[]⟩) (λr s'=>r=.ok (.ret (.bool true))∧OldK s₁.heap s'.heap∧s'.os=s₁.os∧AllBare s'.gens) s₁:=by
 have rv:=vals_ints hi
 have lenV:=hi.length
 have core:∀ H:Hp,Only H→SqL K H a (ns.map V.int)→HOk P w H s₁.heap→(∀ b,H b≠none→b=a)→(H a≠none→K.lookup a=none) →
   codeAny (model P w) callerA (.call (.ref fa) ⟨[.ref a],[]⟩) (λr s'=>r=.ok (.ret (.bool true))∧OldK s₁.heap s'.heap∧s'.os=s₁.os∧AllBare s'.gens) s₁:=by
  intro H hO hS hok hA hK
  have base_of:∀{b:Nd} {o:Obj},s₁.heap.get? b=some o→H b=none→(hidT s₁.heap H).get? b=some o:=λe n=>hidT_get e n
  have noA:∀{b:Nd} {o:Obj} {es:Array DictEntry} {ep:Nat},s₁.heap.get? b=some o→o.data=.dict es ep→H b=none:=λ{b o es ep} e d=>by
   cases q:H b with
   |none=>rfl
   |some u =>
    have e':b=a:=hA b (by rw[q];simp)
    subst e'
    rw[ha]at e;cases e
    have d':Data.seq vs.toArray _=Data.dict es ep:=d
    cases d'
  have nsK:∀{b:Nd} {m:Ng},s₁.heap.Ns b m→(hidT s₁.heap H).Ns b m:=λ{b m} ⟨o,es,ep,e,d,r⟩=>⟨o,es,ep,base_of e (noA e d),d,r⟩
  have hKb:K.In (hidT s₁.heap H):=λb o e=>base_of (KX b o e) (by
   cases q:H b with
   |none=>rfl
   |some u =>
    have e':b=a:=hA b (by rw[q];simp)
    subst e'
    rw[hK (by rw[q];simp)]at e;cases e)
  have hM:Mod K mg (hidT s₁.heap H):=⟨hKb,nsK oZ,⟨mb,nsK hb,pk⟩,let⟨mc,h1,h2⟩:=rX;⟨mc,nsK h1,h2⟩⟩
  have e0:Env0 P w K mg (hidT s₁.heap H) callerA [] s₁ H:=⟨rfl,hM,λb o e=>of_hidT e,Nat.le_of_eq (hidT_size _ _),trivial,λb hb=>absurd (show b∈([]:List Addr) from hb) (by simp),hok,.of_eq hg⟩
  refine codeAny_mono ((F _ hKb (nsK oZ)).run callerA [] s₁ H ⟨[.ref a],[]⟩ [.ref a] [.ref a] _ _ hr e0 (nX s₁ (.ref a)) (.cons rfl .nil) (bv H hO hS)) λr s' h=>?_
  cases r with
  |error e=>exact(tR H e s' h).elim
  | ok fl =>
   cases fl with
   |next=>exact False.elim h
   |brk=>exact False.elim h
   |cont=>exact False.elim h
   | ret u =>
    obtain⟨v,H',os,bare,un,rL,r',q⟩:=h
    have q':v=.bl true:=q
    subst q'
    obtain rfl:u=Value.bool true:=r'
    refine⟨rfl,OldK.of_keep λb o e=>?_,os,bare⟩
    cases q:H b with
    |none=>exact un.keep b o e q (by intro z;exact absurd (show b∈([]:List Addr) from z) (by simp)) (by simp)
    | some u =>
     rcases hO b with z | ⟨ob,xs,z⟩
     ·rw[q]at z;cases z
     ·have z2:=un.frzs b ob _ z
      obtain⟨e1,_⟩:=hok b _ z
      obtain⟨e2,_⟩:=rL b _ z2
      rw[e]at e1;cases e1
      exact e2
 cases hk:K.lookup a with
 |some o =>
  have e:=KX a o hk
  rw[ha]at e
  cases e
  refine core (λ_=>none) (λ_=>.inl rfl) (.inr ⟨_,vs.toArray,_,hk,rfl,rfl,rfl,by rw[Qq,lenV];exact hl,by simpa using rv⟩) (λb u z=>by have z':(none:Option HO)=some u:=z;cases z') (λb z=>absurd rfl z) λz=>absurd rfl z
 | none =>
  refine core (λb=>if b=a then some (.frz {cls:=.type "list",data:=.seq vs.toArray} (.lst (ns.map V.int))) else none) (λb=>?_) (.inl (.inr ⟨{cls:=.type "list",data:=.seq vs.toArray},if_pos rfl⟩)) (λb u z=>?_) (λb z=>?_) λ_=>hk
  ·by_cases hb:b=a
   ·exact .inr ⟨_,_,if_pos hb⟩
   ·exact .inl (if_neg hb)
  ·by_cases hb:b=a
   ·have z':=(if_pos hb).symm.trans z
    cases z'
    subst hb
    exact⟨ha,by rw[Qa];exact hl,vs,_,rv,ha⟩
   ·have z':=(if_neg hb).symm.trans z
    cases z'
  ·by_cases hb:b=a
   ·exact hb
   ·exact absurd (if_neg hb) z
end L2
namespace L2
open PySem PySem.Spec PyProof.Rows
def walk_of{l:PySem.W.OpenLaw}{n k:Nat}{q:Nj}{loose:Nf}{XP:(Str→Option Value)→Heap→Prop}{YP:World→Heap→Prop}{d:DefRec}{K:Params→PySem.W.Frag}{CX:World→CXT}{sp:World→Sp}{x:Str}(hn:l.most=some n)(cz:n≤sizeLine)(nK:d.params.defaults=[])(hr:Room k callerA)(hY:∀(w:World) (h:Heap),YP w h→(K w.params).In h)(F:∀ (w:Nk) (mg:Ng) (fa:Nd) (h:Nm),(K w.params).In h→h.Ns mainGlobals mg→mg d.name=some (.ref fa) →
   ∃fd:FuncData,(∀(s:Nh) (u:Value),BindsTo s fd ⟨[u],[]⟩ [(x,u)]) ∧
    ∀base:Heap,(K w.params).In base→base.Ns mainGlobals mg→FnOk l.prog w (K w.params) mg base (CX w) k fa fd [x] (sp w))(bv:∀(w:Nk) (H:Hp) (a:Nd) (ns:List Int),ns.length≤n→Only H→SqL (K w.params) H a (ns.map V.int)→sp w [.ref a] H (λv _=>v=.bl true) λ_ _ _=>False)(tR:∀(w:World) (H:Hp) (s:Shared) (e:Value) (s':Shared),CX w [] H s (λ_ _ _=>False) e s'→False) :
  PySem.W.WalkO q loose XP YP l.row.toRowW d [] (λf vs=>PySem.call f vs):=by
 refine Att.attach_call hn nK λw s₀ s₁ mg mb fa o pm cd doc a vs ns G Y ho hd aO rS jM gf aa hg=>?_
 have KX:=hY w _ Y
 obtain⟨fd,hb,hF⟩:=F w mg fa _ KX G.T.g rS
 exact law_call KX G.T.g G.T.b G.T.builtins G.T.nolimit hg jM gf (Zk aa cz) hr hF hb (λH hO hS=>bv w H a ns aa hO hS) λH e s'=>tR w H s₁ e s'
end L2
namespace L2
open PySem PySem.Spec PyProof.Rows
def inClass(s:Stmt)(j:Nat):Stmt:=match s with
 |.ClassDef _ _ _ body _ _ _ _ _ _ _=>body.getD j (.Pass ⟨0,0,0,0⟩)
 |_=>.Pass ⟨0,0,0,0⟩
def zcp(s:Stmt):Arguments:=match s with
 |.FunctionDef _ a _ _ _ _ _ _ _ _=>a
 |_=>{posonlyargs:=[],args:=[],vararg:=none,kwonlyargs:=[],kw_defaults:=[],kwarg:=none,defaults:=[]}
def zbz(s:Stmt):List Stmt:=match s with
 |.FunctionDef _ _ b _ _ _ _ _ _ _=>b
 |_=>[]
def zah(s:Stmt):Scope:=match s with
 |.FunctionDef _ _ _ _ _ _ sc _ _ _=>sc
 |_=>{kind:=.function,names:=[],isGenerator:=false,isCoroutine:=false}
abbrev CX0:CXT:=λ_ _ _ _ _ _=>False
abbrev E0:XK:=λ_ _ _=>False
def zau{X:Cx}:zgs CX0 X E0:=λ_ _ _ _ _ _ _ h=>h.elim
structure Fun(K:Nb)(x qual:Str)(st:Stmt)(f:Nd)(fd:Nq):Prop where
 ex:∃(oc:Value) (od:Option Addr) (kV doc pm:Value) (an:Option Addr) (cdv ct:Value) (osl:Array (Option Value)),
  fd=PySem.W.fnOf x qual (zcp st) (zbz st) (zah st) .none kV doc pm an cdv ct∧K.lookup f=some ⟨oc,od,.func fd,osl⟩∧PySem.W.codeIn K cdv qual=true
 kp:PySem.W.keepIn K (.ref f)=true
section
variable{P:Nj}{w:Nk}{K:Nb}{mg:Ng}{base:Nm}
def Fun.ok{x qual:Str}{st:Stmt}{f:Nd}{fd:Nq}{N ps:Nf}{k:Nat}{sp:Sp}(F:Fun K x qual st f fd)(S:zan N ps (zah st))(len:∀vs H Q E,sp vs H Q E→vs.length=ps.length)(br:∀ (cdv:Value) (A:No) (outer:List Env) (s:Nh) (H:Hp) (vs:List V) (Q:VK) (E:XK),Room k (A.deeper (envOfC qual (zah st) s.heap.objs.size f cdv))→sp vs H Q E →
   ∃t,PSs (cxOf CX0 P w K mg base N qual (zah st) f cdv A outer s H E).nox (zbz st) t∧t {nx:=λ_ H'=>Q .non H',rt:=Q} (start N vs) H):FnOk P w K mg base CX0 (k+1) f fd ps sp:=by
 obtain⟨oc,od,kV,doc,pm,an,cdv,ct,osl,rfl,lk,aO⟩:=F.ex
 refine fn_of lk aO S len λA outer s H vs Q E hr bv=>?_
 obtain⟨t,h,q⟩:=br cdv A outer s H vs Q E hr bv
 exact⟨t,h.nox,q⟩
def Fun.binds{x qual:Str}{st:Stmt}{f:Nd}{fd:Nq}{ps:Nf}(F:Fun K x qual st f fd)(h:∀(kV doc pm:Value) (an:Option Addr) (cdv ct:Value) (us:Ni),us.length=ps.length→bindArgs (PySem.W.fnOf x qual (zcp st) (zbz st) (zah st) .none kV doc pm an cdv ct) ⟨us,[]⟩=pure (ps.zip us)):Binds K fd ps []:=by
 obtain⟨oc,od,kV,doc,pm,an,cdv,ct,osl,rfl,lk,aO⟩:=F.ex
 exact .all (h kV doc pm an cdv ct)
def fun_mk{x qual:Str}{st:Stmt}{f:Nd}{oc:Value}{od an:Option Addr}{osl:Array (Option Value)}{kV doc pm cdv ct:Value}(l:K.lookup f=some ⟨oc,od,.func (PySem.W.fnOf x qual (zcp st) (zbz st) (zah st) .none kV doc pm an cdv ct),osl⟩)(c:PySem.W.codeIn K cdv qual=true)(k:PySem.W.keepIn K (.ref f)=true):Fun K x qual st f (PySem.W.fnOf x qual (zcp st) (zbz st) (zah st) .none kV doc pm an cdv ct):=⟨⟨oc,od,kV,doc,pm,an,cdv,ct,osl,rfl,l,c⟩,k⟩
end
def zb4{A:No}{k:Nat}(hr:Room k A):A.units+1<cLine:=Ke (Nat.add_le_add_left (by decide:1≤64) _) hr.units
section
variable{X:Cx}
def pv(i:Nat){x:Str}{pos:Pos}(hN:X.N[i]?=some x:=by rfl)(hv:Vis X.env.scope x:=by first | exact Or.inl rfl | exact Or.inr (Or.inl rfl) | exact Or.inr (Or.inr rfl))(hd:(x==("__debug__" : Str))=false:=by decide)(aO:(x==("__classdict__" : Str))=false:=by decide):PE X (.Name x pos) (tVar i):=pe_var hN hv hd aO
end
def iteF{A B:Prop}(h:B):if false=true then A else B:=by
 rw[if_neg Zc]
 exact h
def iteT{A B:Prop}(h:A):if true=true then A else B:=by
 rw[if_pos rfl]
 exact h
def ite2{c A B:Prop}[Decidable c](h1:c→A)(h2:¬c→B):if c then A else B:=by
 by_cases h:c
 ·rw [if_pos h]
  exact h1 h
 ·rw [if_neg h]
  exact h2 h
section
variable{κ:Type}[DecidableEq κ]
end
end L2
end
section
namespace L2
open PySem PySem.Spec PyProof.Rows
def clOf(sc:Scope)(env:Env):List (Str×Addr):=sc.names.foldl (λcs y=>if(y.2==NameKind.free)=true then(y.1,(env.cells.lookup y.1).getD 0)::cs else cs) []
theorem cl_fold:∀(l:List (Str×NameKind)) (cs:List (Str×Addr)),(∀y∈l,y.2=.free→∃c,env.cells.lookup y.1=some c) →
  (forIn l cs (fun (y:Str×NameKind) (r:List (Str×Addr))=>(do
   let(name,kind):=y
   if(kind==.free)=true then do
    let a ←cellOf env name
    pure (ForInStep.yield ((name,a)::r))
   else pure (ForInStep.yield r):Sem (ForInStep (List (Str×Addr))))))=(pure (l.foldl (λcs y=>if(y.2==NameKind.free)=true then(y.1,(env.cells.lookup y.1).getD 0)::cs else cs) cs):Sem (List (Str×Addr)))
 |[],cs,_=>rfl
 | (n,k)::r,cs,h=>by
  rw[List.forIn_cons]
  have ih:=λcs=>cl_fold (env:=env) r cs λy hy=>h y (Qi _ hy)
  by_cases hk:(k==NameKind.free)=true
  ·obtain ⟨c,hc⟩:=h (n,k) Qe (by simpa using hk)
   have cq:env.cells.lookup n=some c:=hc
   have e:cellOf env n=pure c:=by unfold cellOf;rw[cq]
   rw[Ju]
   dsimp only
   rw[if_pos hk,if_pos hk,e,cq]
   exact ih _
  ·rw [Ju]
   dsimp only
   rw[if_neg hk,if_neg hk]
   exact ih _
def zb5(h:∀y∈sc.names,y.2=.free→∃c,env.cells.lookup y.1=some c):closureFor sc env=pure (clOf sc env):=by
 unfold closureFor
 have e:=cl_fold (env:=env) sc.names [] h
 exact(congrArg (λt:Sem (List (Str×Addr))=>t >>= λcs=>pure cs) e).trans rfl
theorem clOf_in{env:Env}{x:Str}{c:Nd}:∀(l:List (Str×NameKind)) (cs:List (Str×Addr)),(∀y∈l,y.2=.free→∃c,env.cells.lookup y.1=some c)→(∀x c,cs.lookup x=some c→env.cells.lookup x=some c) →
  (l.foldl (λcs y=>if(y.2==NameKind.free)=true then(y.1,(env.cells.lookup y.1).getD 0)::cs else cs) cs).lookup x=some c→env.cells.lookup x=some c
 |[],cs,_,hc,e=>hc _ _ e
 | (n,k)::r,cs,h,hc,e=>by
  rw[Ju]at e
  refine clOf_in r _ (λy hy=>h y (Qi _ hy)) ?_ e
  by_cases hk:(k==NameKind.free)=true
  ·obtain ⟨a,ha⟩:=h (n,k) Qe (by simpa using hk)
   have ha':env.cells.lookup n=some a:=ha
   dsimp only
   rw[if_pos hk,ha']
   intro x c q
   rw[Ub]at q
   cases hx:x==n with
   |true =>
    rw[hx]at q
    have q':a=c:=Qv q
    have:x=n:=by simpa using hx
    rw[this,←q'];exact ha'
   |false =>
    rw[hx]at q
    exact hc x c q
  ·dsimp only
   rw[if_neg hk]
   exact hc
theorem zii{env:Env}{x:Str}:∀(l:List (Str×NameKind)) (cs:List (Str×Addr)),((x,NameKind.free)∈l∨∃c,cs.lookup x=some c) →
  ∃c,(l.foldl (λcs y=>if(y.2==NameKind.free)=true then(y.1,(env.cells.lookup y.1).getD 0)::cs else cs) cs).lookup x=some c
 |[],cs,h=>by
  rcases h with h | h
  ·exact absurd h (by simp)
  ·exact h
 | (n,k)::r,cs,h=>by
  rw[Ju]
  refine zii r _ ?_
  rcases h with h | ⟨c,h⟩
  ·rcases Qh.mp h with e | e
   ·obtain ⟨rfl,rfl⟩:=Uz e
    exact .inr ⟨(env.cells.lookup x).getD 0,by dsimp only;rw[if_pos (by rfl),List.lookup_cons];simp⟩
   ·exact .inl e
  ·refine .inr ?_
   dsimp only
   by_cases hk:(k==NameKind.free)=true
   ·rw [if_pos hk,Ub]
    cases hx:x==n with
    |true=>exact⟨_,rfl⟩
    |false=>exact⟨c,h⟩
   ·rw[if_neg hk];exact⟨c,h⟩
structure Blk(X:Cx)(sc:Scope)(M:Nf)(ix:Nr):Prop where
 kind:sc.kind=.function
 nocell:∀y∈sc.names,y.2≠.cell
 names:∀y∈sc.names,y.2=.local→sc.names.lookup y.1=some .local
 frees:∀y∈sc.names,y.2=.free→X.env.scope.names.lookup y.1=some .cell∨X.env.scope.names.lookup y.1=some .free
 len:ix.length=M.length
 nd:M.Nodup
 caps:∀(j i:Nat) (x:Str),M[j]?=some x→ix[j]?=some (some i)→X.N[i]?=some x∧sc.names.lookup x=some .free
def inner(ix:Nr)(σ:St):St:=ix.map λo=>match o with | none=>none | some i=>(σ[i]?).join
def zhz{sc:Scope}{env:Env}{x:Str}{oz:Option Str}(hn:∀ y∈sc.names,y.2=.cell→oz=some y.1)(h:(relabel sc env).names.lookup x=some .cell∨(relabel sc env).names.lookup x=some .free):(x,NameKind.free)∈sc.names∨oz=some x:=by
 have key:∀k',k'=.cell∨k'=.free→(x,k')∈(relabel sc env).names→(x,NameKind.free)∈sc.names∨oz=some x:=λk' se hm=>by
  obtain⟨⟨n,k⟩,hy,e⟩:=Qm.mp hm
  dsimp only at e
  by_cases hb:(k==NameKind.free&&env.scope.kind==.function&&env.kindOf n==some .cell)=true
  ·rw [if_pos hb] at e
   obtain⟨rfl,_⟩:=Uz e
   have hk:k=.free:=by
    have:=(Bool.and_eq_true_iff.mp (Bool.and_eq_true_iff.mp hb).1).1
    simpa using this
   rw[hk]at hy
   exact .inl hy
  ·rw [if_neg hb] at e
   obtain⟨rfl,rfl⟩:=Uz e
   rcases se with q | q
   ·exact .inr (hn _ hy q)
   ·rw[q]at hy;exact .inl hy
 rcases h with h | h
 ·exact key _ (.inl rfl) (Wj h)
 ·exact key _ (.inr rfl) (Wj h)
def ocl(oz:Option Str)(C:Nd)(cl:List (Str×Addr)):List (Str×Addr):=match oz with
 |none=>cl
 |some z=>(z,C+1)::cl
def och(oz:Option Str)(h:Nm):Heap:=match oz with
 |none=>h
 |some _=>h.push {cls:=.type "cell",data:=.cell none}
structure BlkG(X:Cx)(sc:Scope)(oz:Option Str)(M:Nf)(ix:Nr):Prop where
 kind:sc.kind=.function
 own:∀y∈sc.names,y.2=.cell→oz=some y.1
 one:∀n cl,cellsFrom (n+1) sc.names cl=ocl oz n cl
 psh:∀h,pushCells h sc.names=och oz h
 zc:∀z,oz=some z→sc.names.lookup z=some .cell
 names:∀y∈sc.names,y.2=.local→sc.names.lookup y.1=some .local
 frees:∀y∈sc.names,y.2=.free→X.env.scope.names.lookup y.1=some .cell∨X.env.scope.names.lookup y.1=some .free
 len:ix.length=M.length
 nd:M.Nodup
 caps:∀(j i:Nat) (x:Str),M[j]?=some x→ix[j]?=some (some i)→X.N[i]?=some x∧sc.names.lookup x=some .free
theorem zik:∀{l:List (Str×NameKind)} (_:∀y∈l,y.2≠.cell),(∀n cl,cellsFrom n l cl=cl)∧∀h,pushCells h l=h
 |[],_=>⟨λ_ _=>rfl,λ_=>rfl⟩
 |(a,k)::t,h=>by
  obtain⟨h1,h2⟩:=zik λy hy=>h y (Qi _ hy)
  have hk:(k==NameKind.cell)=false:=beq_eq_false_iff_ne.mpr (h (a,k) Qe)
  exact⟨λn cl=>by unfold cellsFrom;rw[hk];exact h1 n cl,λg=>by unfold pushCells;rw[hk];exact h2 g⟩
def Blk.g{X:Cx}{sc:Scope}{M:Nf}{ix:Nr}(B:Blk X sc M ix):BlkG X sc none M ix :=
 ⟨B.kind,λy hy h=>absurd h (B.nocell y hy),λn cl=>(zik B.nocell).1 _ cl,(zik B.nocell).2,λ_ h=>(by cases h),B.names,B.frees,B.len,B.nd,B.caps⟩
def zcw(X:Cx)(sc:Scope)(oz:Option Str)(M:Nf)(C:Nd)(a6:Nc)(ex:Nl)(s:Nh)(H:Hp):Cx :=
 {X with N:=M,s₀:=s,H₀:=H,env:=compEnvC sc (ocl oz C (clOf sc X.env)) C X.env,outer:=X.stack,ex:=ex,fn:=λx=>oz==some x,pn:=X.pn++a6,xe:=λ_ _=>False}
abbrev zcq(X:Cx)(sc:Scope)(M:Nf)(C:Nd)(a6:Nc)(ex:Nl)(s:Nh)(H:Hp):Cx:=zcw X sc none M C a6 ex s H
section
variable{M:Model}{A:No}{E:Na}{s:Nh}
def zha{sc:Scope}{g:Nd}{cl:List (Str×Addr)}{q:Str}{env:Env}{oz:Option Str}{Q:Env→Shared→Prop}(one:∀n cl,cellsFrom (n+1) sc.names cl=ocl oz n cl)(psh:∀h,pushCells h sc.names=och oz h)(hQ:Q (newEnv sc s.heap.objs.size g (ocl oz s.heap.objs.size cl) q none .none (some env) builtinsNs) {s with heap:=och oz (s.heap.push {cls:=.type "dict",data:=.dict #[]})}) :
  wpAny M A (newFunctionEnv sc g cl [] q none .none (some env)) Q E s:=by
 simp only[newFunctionEnv,Option.isSome_some,if_true]
 refine wpAny_bind (wpAny_alloc ?_)
 refine wpAny_bind (wpAny_layCells _ (λname kind cells=>by cases hkc:kind==NameKind.cell<;>simp[hkc]) _ _ _ _ ?_)
 rw[psh,show({s with heap:=s.heap.push {cls:=.type "dict",data:=.dict #[]}}:Shared).heap.objs.size=s.heap.objs.size+1 from Wl ..,one]
 exact wpAny_pure hQ
end
section
variable{X:Cx}{sc:Scope}{oz:Option Str}{M:Nf}{ix:Nr}{a6:Nc}{σ:St}{H:Hp}{s:Nh}
def BlkG.clos(B:BlkG X sc oz M ix)(I:Inv X a6 σ H s):∀y∈sc.names,y.2=.free→∃c,X.env.cells.lookup y.1=some c:=λy hy hf =>
 I.ok.has y.1 (by rcases B.frees y hy hf with z | z;exact .inl z;exact .inr z)
def Blk.clos(B:Blk X sc M ix)(I:Inv X a6 σ H s):∀y∈sc.names,y.2=.free→∃c,X.env.cells.lookup y.1=some c:=B.g.clos I
def zic{ex:Nl}{s':Nh}{C:Nd}(B:BlkG X sc oz M ix)(I:Inv X a6 σ H s)(hx:∀ b∈ex,FpOk X a6 H b)(ad:∀ b∈ex,b < s.heap.objs.size)(hC:C=s.heap.objs.size)(hn:s'.heap.Ns C λ_=>none)(hz:∀z,oz=some z→s'.heap.IsCell (C+1) none)(hk:∀b o,s.heap.get? b=some o→s'.heap.get? b=some o)(hg:s'.gens=s.gens)(ho:s'.os=s.os):Inv (zcw X sc oz M C a6 ex s H) [] (inner ix σ) H s':=by
 have cls:=B.clos I
 have cin:∀x c,(clOf sc X.env).lookup x=some c→X.env.cells.lookup x=some c:=λx c e=>clOf_in sc.names [] cls (λ_ _ z=>by cases z) e
 have cne:∀x c,(clOf sc X.env).lookup x=some c→c<s.heap.objs.size:=λx c e=>by
  obtain⟨v,q⟩:=I.cell x c (cin x c e)
  exact q.lt
 have zne:∀c:Addr,c<s.heap.objs.size→c≠C+1:=λc h e=>by
  rw[e,hC]at h;exact absurd (Ko h) (Ym _)
 have zin:∀x c,(ocl oz C (clOf sc X.env)).lookup x=some c→(oz=some x∧c=C+1)∨oz≠some x∧(clOf sc X.env).lookup x=some c:=λx c e=>by
  cases oz with
  |none=>exact .inr ⟨λz=>(by cases z),e⟩
  |some zn =>
   have e:((zn,C+1)::clOf sc X.env).lookup x=some c:=e
   rw[Ub]at e
   cases q:x==zn with
   |true=>rw[q]at e;exact .inl ⟨by rw[eq_of_beq q],(Qv e).symm⟩
   |false=>rw[q]at e;exact .inr ⟨λz=>(by rw[Qv z,beq_self_eq_true]at q;cases q),e⟩
 have zout:∀x c,oz≠some x→(clOf sc X.env).lookup x=some c→(ocl oz C (clOf sc X.env)).lookup x=some c:=λx c hx e=>by
  cases oz with
  |none=>exact e
  |some zn =>
   show((zn,C+1)::clOf sc X.env).lookup x=_
   rw[Ub,beq_eq_false_iff_ne.mpr λz=>hx (by rw[z])];exact e
 refine⟨⟨I.ok.mod,?_,I.ok.glob,I.ok.blt,?_,λx y c h1 h2=>?_,λx hx=>?_,λx c h e=>?_,I.ok.hd,I.ok.frames,.inl rfl,λb hb=>?_,I.bs,?_,λb o e hb=>?_,λb hb=>?_,I.stack,I.stkFree⟩,
  ?_,?_,Un.kept hk,⟨_,hn,λj x v e1 e2 e3=>?_⟩,λx c e=>?_,?_,λx c e=>?_,λp hp=>?_,I.hok.kept hk,?_⟩
 ·show (relabel sc X.env).kind=.function
  exact B.kind
 ·show s.heap.objs.size≤C
  rw[hC];exact Qg _
 ·rcases zin x c h1 with ⟨a,b⟩ | ⟨_,a⟩ <;> rcases zin y c h2 with ⟨a',b'⟩ | ⟨_,a'⟩
  ·exact Qv (a.symm.trans a')
  ·exact absurd b (zne c (cne y c a'))
  ·exact absurd b' (zne c (cne x c a))
  ·exact I.ok.inj x y c (cin x c a) (cin y c a')
 ·by_cases q:oz=some x
  ·exact⟨C+1,by show(ocl oz C (clOf sc X.env)).lookup x=_;rw[q];show((x,C+1)::clOf sc X.env).lookup x=_;rw[Ub,beq_self_eq_true]⟩
  ·obtain ⟨c,hc⟩:=zii (env:=X.env) sc.names [] (.inl ((zhz B.own hx).resolve_right q))
   exact⟨c,zout x c q hc⟩
 ·have h':oz=some x:=by
   have:(oz==some x)=true:=h
   exact eq_of_beq this
  rcases zin x c e with⟨_,b⟩ | ⟨b,_⟩
  ·show s.heap.objs.size≤c
   rw[b,hC];exact Jk _
  ·exact absurd h' b
 ·have:=ad b hb
  refine⟨λz=>?_,λx c e=>(zin x c e).elim (λq h=>zne b this (h.symm.trans q.2)) λe=>(hx b hb).2.2.2.2.1 x c (cin x c e.2)⟩
  have z':b=C:=z
  rw[z',hC]at this
  exact Ym _ this
 ·exact Zk I.ok.bsz I.sz
 ·rcases (hx b hb).2.2.2.1 with z | z
  ·exact I.ok.noex b o e z
  ·have h1:b < X.base.objs.size:=Qr e
   have h2:=I.ok.bsz
   have h3:X.s₀.heap.objs.size≤b:=z
   exact absurd (Zs h1 (Zk h2 h3)) (Ym _)
 ·intro z
  rcases Qh.mp (I.stkSub b z) with q | q
  ·exact(hx b hb).2.1 q
  ·exact(hx b hb).2.2.1 q
 ·exact ho
 ·rw[hg];exact I.bare
 ·have hj:∃ i,ix[j]?=some (some i)∧σ[i]?=some (some v):=by
   unfold inner at e2
   rw[Qt]at e2
   cases q:ix[j]? with
   |none=>rw[q]at e2;cases e2
   | some o =>
    rw[q]at e2
    cases o with
    |none=>cases e2
    |some i =>
     have pL:(σ[i]?).join=some v:=Qv e2
     cases q2:σ[i]? with
     |none=>rw[q2]at pL;cases pL
     |some w=>rw[q2]at pL;exact⟨i,rfl,by rw[q2];exact congrArg some pL⟩
  obtain⟨i,hi,hσ⟩:=hj
  obtain⟨hN,bq⟩:=B.caps j i x e1 hi
  have hm:=Wj bq
  have dD:=B.frees (x,.free) hm rfl
  obtain⟨m,_,hl⟩:=I.loc
  obtain⟨u,ru,lk⟩:=hl i x v hN hσ (by rcases dD with z | z;exact .inr (.inl z);exact .inr (.inr z))
  refine⟨u,ru,.inr ?_⟩
  obtain⟨c,hc⟩:=zii (env:=X.env) sc.names [] (.inl hm)
  have cq:=cin x c hc
  have lk2:s.heap.IsCell c (some u):=by
   rcases lk with⟨k,_⟩ | ⟨_,c',e',z⟩
   ·have k':X.env.scope.names.lookup x=some .local:=k
    rcases dD with q | q<;>(rw[show X.env.scope.names.lookup x=_ from q]at k';cases k')
   ·rw[cq]at e';cases e';exact z
  refine⟨?_,c,zout x c (λq=>by rw[B.zc x q]at bq;cases bq) hc,?_⟩
  ·have e3':Vis (relabel sc X.env) x:=e3
   rcases e3' with z | z | z
   ·exfalso
    have:=@lookup_relabel_local
    have cY:∀(l:List (Str×NameKind)),l.lookup x=some .free→(l.map λ(y:Str×NameKind)=>match y with | (n,k)=>if(k==NameKind.free&&X.env.scope.kind==.function&&X.env.kindOf n==some .cell) then(n,NameKind.cell) else(n,k)).lookup x≠some .local:=by
     intro l
     induction l with
     |nil=>intro h;cases h
     | cons y r ih =>
      obtain⟨n,k⟩:=y
      intro h
      rw[Ub]at h
      rw[Ql]
      dsimp only
      by_cases hb:(k==NameKind.free&&X.env.scope.kind==.function&&X.env.kindOf n==some .cell)=true
      ·rw [if_pos hb,Ub]
       cases hx:x==n with
       |true=>intro q;cases q
       |false=>rw[hx]at h;exact ih h
      ·rw [if_neg hb,Ub]
       cases hx:x==n with
       |true =>
        rw[hx]at h
        intro q
        have h':k=NameKind.free:=Qv h
        have q':k=NameKind.local:=Qv q
        rw[h']at q';cases q'
       |false=>rw[hx]at h;exact ih h
    exact cY sc.names bq z
   ·exact .inl z
   ·exact .inr z
  ·obtain ⟨o,aw,gH⟩:=lk2
   exact⟨o,hk c o aw,gH⟩
 ·rcases zin x c e with ⟨a,b⟩ | ⟨_,b⟩
  ·rw[b];exact⟨none,hz x a⟩
  ·obtain ⟨v,o,aw,gH⟩:=I.cell x c (cin x c b)
   exact⟨v,o,hk c o aw,gH⟩
 ·show H C=none
  rw[hC]
  exact I.hok.fresh (Qg _)
 ·rcases zin x c e with ⟨_,b⟩ | ⟨_,b⟩
  ·rw[b];exact I.hok.fresh (by rw[hC];exact Jk _)
  ·exact I.freeC x c (cin x c b)
 ·have aH:p∈X.pn++a6:=by
   have:p∈(X.pn++a6)++[]:=hp
   rwa[Zw]at this
  obtain⟨e,n,ne,nf,d⟩:=I.pin p aH
  refine⟨hk _ _ e,n,?_,λz=>?_,d⟩
  ·intro z
   have z':p.1=C:=z
   have:=Qr e
   rw[z',hC]at this
   exact Ym _ this
  ·rcases Qh.mp (I.stkSub _ z) with q | q
   ·exact ne q
   ·exact nf q
 ·unfold inner
  rw[Qa]
  exact B.len
def inv_blk(B:Blk X sc M ix)(I:Inv X a6 σ H s)(hx:∀b∈ex,FpOk X a6 H b)(ad:∀b∈ex,b<s.heap.objs.size)(hC:C=s.heap.objs.size)(hn:s'.heap.Ns C λ_=>none)(hk:∀b o,s.heap.get? b=some o→s'.heap.get? b=some o)(hg:s'.gens=s.gens)(ho:s'.os=s.os):Inv (zcq X sc M C a6 ex s H) [] (inner ix σ) H s':=zic B.g I hx ad hC hn (λ_ h=>by cases h) hk hg ho
def PTs(X:Cx)(ifs:Np)(t:TT):Prop :=
 ∀(a6:Nc) (s:Nh) (σ:St) (H:Hp) (Q:Bool→Hp→Prop),Inv X a6 σ H s→t σ H Q →
  wpAny (model X.prog X.w) X.A (forIn ifs true λc r=>if r=true then do let ok ←isTrue c X.env (eval c X.env);pure (ForInStep.yield ok) else pure (ForInStep.yield r)) (TP X a6 σ Q) X.xe s
def tAll:TT:=λ_ H Q=>Q true H
def zd0:PTs X [] tAll:=λ_ _ _ H _ I h=>wpAny_tests_nil ⟨H,I,h⟩
def zh1(h:PT X c t):PTs X [c] t:=λa6 s σ H Q I q=>wpAny_tests_one (h a6 s σ H Q I q)
def zfj{prog:Nj}{w:Nk}{A:No}{s:Nh}{elt target iter:Expr}{ifs:Np}{scope:Scope}{pos:Pos}{it ae:Value}{env:Env}{R:Nu}(I:Nat→Shared→Prop)(turn:∀ n s,I n s→wpAny (model prog w) A (pyNext it) (fun r s₁=>match r with
   |none=>R (.ok .next) s₁
   | some v=>wpAny (model prog w) A (letOwnedTupleGo target it v) (fun _ s₁'=>wpAny (model prog w) A (assign target env v) (fun _ s₂ =>
     wpAny (model prog w) A (forIn ifs true λc r=>if r=true then do let ok ←isTrue c env (eval c env);pure (ForInStep.yield ok) else pure (ForInStep.yield r)) (λok s₃ =>
      if ok=true then wpAny (model prog w) A (eval elt env) (λx s₄ =>
       wpAny (model prog w) A (call (.builtin "list.append") [ae,x]) (λ_ s₅=>∃m,m<n∧I m s₅) (λ_ _=>False) s₄) (λ_ _=>False) s₃
      else ∃m,m<n∧I m s₃) (λ_ _=>False) s₂) (λ_ _=>False) s₁') (λ_ _=>False) s₁) (λ_ _=>False) s)(n:Nat)(h:I n s):codeAny (model prog w) A (.compLoop (.ListComp elt [⟨target,iter,ifs,0⟩] scope pos) 0 it ae env) R s:=by
 refine codeAny_loop rfl I (λn s hI=>?_) n h
 show wpAny _ A ((compTurn (.ListComp elt [⟨target,iter,ifs,0⟩] scope pos) 0 it ae env).onRaise (λx=>do noteFrame x env;theTreesLotGoes x)) _ _ s
 refine wpAny_noted ?_
 rw[compTurn_list]
 refine wpAny_bind (wpAny_standAt (wpAny_bind (wpAny_mono (turn n s hI) (λr s₁ h₁=>?_) λ_ _ h'=>h'.elim)))
 cases r with
 |none=>exact wpAny_pure h₁
 | some v =>
  refine wpAny_bind (wpAny_mono h₁ (λ_ s₁' h₁'=>?_) λ_ _ h'=>h'.elim)
  refine wpAny_bind (wpAny_mono h₁' (λ_ s₂ h₂=>wpAny_bind (wpAny_mono h₂ (λok s₃ h₃=>?_) λ_ _ h'=>h'.elim)) λ_ _ h'=>h'.elim)
  cases ok with
  |false=>exact wpAny_pure ⟨rfl,h₃⟩
  |true =>
   exact wpAny_bind (wpAny_bind (wpAny_mono h₃ (λx s₄ h₄=>wpAny_bind (wpAny_mono h₄ (λ_ s₅ h₅=>wpAny_pure (wpAny_pure ⟨rfl,h₅⟩)) λ_ _ h'=>h'.elim)) λ_ _ h'=>h'.elim))
def rLC(g:TG)(tc:TT)(te:TE)(Q:VK)(J:It)(τ:St)(H1:Hp):Prop:=∃W:Nat→Nat→List V→St→Hp→Prop,(∃m,W 0 m [] τ H1)∧∀i m ys τ H,W i m ys τ H →
 (J.stop i H∧∀D,H D=none→Q (.ref D) (upd H D (.lst ys))) ∨
 (J.go i H∧ys.length<sizeLine∧∀x H',J.yld i H x H'→g x τ H' λ τ2 H2=>tc τ2 H2 λb H3=>if b=true then te τ2 H3 λy H4=>∃m',m'<m∧W (i+1) m' (ys++[y]) τ2 H4 else ∃m',m'<m∧W (i+1) m' ys τ2 H3)
def tLC(ix:Nr)(wi:TI)(g:TG)(tc:TT)(te:TE):TE:=λ σ H Q=>wi σ H λJ H1=>rLC g tc te Q J (inner ix σ) H1
def lc_blockG{tg elt iter:Expr}{ifs:Np}{pos:Pos}{g:TG}{tc:TT}{te:TE}{fp:Nl}{it:Nd}{tn:Nat→Heap→Prop}{J:It}{Q:VK}{RR:Value→Addr→Result→Shared→Prop}{E:Na}(B:BlkG X sc oz M ix)(hc:X.calm=true)(hg:∀C ex s H,PG (zcw X sc oz M C a6 ex s H) tg g)(ht:∀C ex s H,PTs (zcw X sc oz M C a6 ex s H) ifs tc)(he:∀C ex s H,PE (zcw X sc oz M C a6 ex s H) elt te)(I:Inv X a6 σ H s)(T:Turn X.prog X.w X.K tg J fp it tn)(h0:tn 0 s.heap)(hf:∀b∈fp,FpOk X a6 H b)(q:rLC g tc te Q J (inner ix σ) H)(kG:∀D C m ys H' s',Inv X a6 σ (upd H' D (.lst ys)) s'→Q (.ref D) (upd H' D (.lst ys))→s'.heap.Ns C m→upd H' D (.lst ys) C=none→s.heap.objs.size<C→RR (.ref D) C (.ok .next) s') :
  wpAny (model X.prog X.w) X.A (newList []) (λae s₃=>wpAny (model X.prog X.w) X.A (newFunctionEnv sc X.env.globals (clOf sc X.env) [] X.env.qual none .none (some X.env)) (λcenv s₄ =>
   codeAny (model X.prog X.w) X.A (.compStart (.ListComp elt [⟨tg,iter,ifs,0⟩] sc pos) 0 (.ref it) ae {cenv with scope:=relabel sc X.env}) (RR ae cenv.locals) s₄) E s₃) E s:=by
 refine wpAny_newObj_type (zha B.one B.psh ?_)
 dsimp only
 generalize hD:s.heap.objs.size=D
 generalize eT:s.heap.push {cls:=.type "list",dict:=none,data:=.seq ([]:List Value).toArray}=g2
 generalize jX:och oz (g2.push {cls:=.type "dict",data:=.dict #[]})=h₁
 have kp:∀(q:Nm) (b:Nd) (o:Obj),q.get? b=some o→(och oz q).get? b=some o:=λq b o e=>by
  cases oz with
  |none=>exact e
  |some _=>exact Qf _ e
 have hns₁:h₁.Ns g2.objs.size (λ_=>none):=jX▸(Heap.Ns.new g2 (.type "dict")).keeps λb o e=>kp _ b o e
 have hz₁:∀z,oz=some z→h₁.IsCell (g2.objs.size+1) none:=λz ez=>by
  have e:(g2.push {cls:=.type "dict",data:=.dict #[]}).objs.size=g2.objs.size+1:=Wl ..
  rw[←jX,←e,ez]
  exact⟨_,Qw _ rfl,rfl⟩
 have hC:g2.objs.size=D+1:=by rw[←eT,Wl,hD]
 have k2:∀b o,s.heap.get? b=some o→g2.get? b=some o:=λb o e=>by rw[←eT];exact Qf _ e
 have I3:Inv X a6 σ H {s with heap:=g2}:=I.kept (t':=s.toks) k2
 have HD:H D=none:=I.hok.fresh (by rw[hD];exact Qg _)
 have fD:FpOk X a6 H D:=I.fpOk (by rw[hD];exact Qg _) HD
 have D2:g2.get? D=some {cls:=.type "list",dict:=none,data:=.seq ([]:List Value).toArray}:=by rw[←eT,←hD];exact Qw _ rfl
 have k1:∀b o,g2.get? b=some o→h₁.get? b=some o:=λb o e=>jX▸kp _ b o (Qf _ e)
 have fpx:∀b∈D::fp,FpOk X a6 H b:=λb hb=>by
  rcases Qh.mp hb with e | e
  ·rw[e];exact fD
  ·exact hf b e
 have fplt:∀b∈D::fp,b<g2.objs.size:=λb hb=>by
  rcases Qh.mp hb with e | e
  ·rw[e,hC];exact Ya _
  ·obtain ⟨o,q,_⟩:=T.obj _ _ h0 b e
   exact Qr (k2 b o q)
 have fpD:D∉fp:=λhm=>by
  obtain⟨o,q,_⟩:=T.obj _ _ h0 D hm
  have:=Qr q
  rw[hD]at this
  exact Ym _ this
 generalize ak:zcw X sc oz M g2.objs.size a6 (D::fp) {s with heap:=g2} H=Y
 have IY:Inv Y [] (inner ix σ) H {s with heap:=h₁,toks:=s.toks+([]:List (Str×Value)).length}:=by
  rw[←ak]
  exact zic B I3 fpx fplt rfl hns₁ hz₁ k1 rfl rfl
 have Yg:=ak▸hg g2.objs.size (D::fp) {s with heap:=g2} H
 have Yt:=ak▸ht g2.objs.size (D::fp) {s with heap:=g2} H
 have Ye:=ak▸he g2.objs.size (D::fp) {s with heap:=g2} H
 have eP:Y.prog=X.prog:=by rw[←ak];rfl
 have eW:Y.w=X.w:=by rw[←ak];rfl
 have eK:Y.K=X.K:=by rw[←ak];rfl
 have eA:Y.A=X.A:=by rw[←ak];rfl
 have eC:Y.calm=true:=by rw[←ak];exact hc
 have eE:Y.env=compEnvC sc (ocl oz g2.objs.size (clOf sc X.env)) g2.objs.size X.env:=by rw[←ak];rfl
 have eX:Y.xe=λ_ _=>False:=by rw[←ak];rfl
 have eEx:Y.ex=D::fp:=by rw[←ak];rfl
 have eFs:Y.fs=frs X.stack:=by rw[←ak];rfl
 have ePn:Y.pn=X.pn++a6:=by rw[←ak];rfl
 have eL:Y.env.locals=g2.objs.size:=by rw[eE];rfl
 have om:Y.H₀=H:=by rw[←ak];rfl
 have j8:Y.s₀={s with heap:=g2}:=by rw[←ak];rfl
 have fY:∀{H':Hp} {pl:Nc} {b:Nd},b∈D::fp→H' b=none→(∀p∈pl,p.1≠b)→FpOk Y pl H' b:=λ{H' pl b} hb hn hp=>by
  obtain⟨f0,f1,f2,f3,f4,f5⟩:=fpx b hb
  refine⟨hn,?_,?_,.inl (by rw[eEx];exact hb),IY.ok.exf b (by rw[eEx];exact hb) |>.2,λp aH=>?_⟩
  ·rw[eL];exact Zj (fplt b hb)
  ·rw [eFs]
   intro z
   rcases Qh.mp (I3.stkSub b z) with q | q
   ·exact f1 q
   ·exact f2 q
  ·rw [ePn] at aH
   rcases Qd.mp aH with z | z
   ·exact f5 p z
   ·exact hp p z
 obtain⟨W,⟨m0,w0⟩,turn⟩:=q
 have loop:∀ sN:Shared,sN={ s with heap:=h₁,toks:=s.toks+([]:List (Str×Value)).length } →
   codeAny (model X.prog X.w) X.A (.compLoop (.ListComp elt [⟨tg,iter,ifs,0⟩] sc pos) 0 (.ref it) (.ref D) (compEnvC sc (ocl oz g2.objs.size (clOf sc X.env)) g2.objs.size X.env)) (RR (.ref D) g2.objs.size) sN:=by
  rintro sN rfl
  refine zfj (λn s'=>Ex6 λi τ H' ys a7 k=>Aj7 (Inv Y [] τ H' s') (tn i s'.heap) (∀b∈D::fp,H' b=none) (s'.heap.get? D=some {cls:=.type "list",data:=.seq (a7:Ni).toArray k}) (Vals ys a7) (ys.length≤sizeLine) (W i n ys τ H')) ?_ m0
   ⟨0,inner ix σ,H,[],[],0,IY,T.keep _ _ _ h0 λb _ o e=>k1 b o (k2 b o e),λb hb=>(fpx b hb).1,k1 _ _ D2,.nil,Zp _,w0⟩
  rintro n s5 ⟨i,τ,H5,ys,a7,k,I5,t5,n5,d5,v5,z5,w5⟩
  have oD:∀{s':Nh} {its':Ni} {k':Nat},s'.heap.get? D=some {cls:=.type "list",data:=.seq its'.toArray k'}→∀b∈[D],∃o,s'.heap.get? b=some o∧∀v,o.data≠.cell v:=λ{s' its' k'} e b hb=>by
   rw[Qb.mp hb]
   exact⟨_,e,λv z=>by cases z⟩
  have gT:Inv Y ([]++zb3 [D] s5.heap) τ H5 s5:=I5.pinned (λb hb=>fY (by rw[Qb.mp hb];exact Qe) (n5 b (by rw[Qb.mp hb];exact Qe)) (by simp)) (oD d5)
  have pD:∀p∈zb3 [D] s5.heap,p.1=D∧p.2={cls:=.type "list",data:=.seq a7.toArray k}:=λp hp=>by
   obtain⟨e1,e2⟩:=zel hp
   have cv:p.1=D:=Qb.mp e1
   rw[cv,d5]at e2
   exact⟨cv,(Qv e2).symm⟩
  have fN:∀{H':Hp},(∀b∈fp,H' b=none)→∀b∈fp,FpOk Y ([]++zb3 [D] s5.heap) H' b:=λhn b hb=>fY (Qi _ hb) (hn b hb) λp hp z=>by
   rw[Wu]at hp
   rw[(pD p hp).1]at z
   exact fpD (z▸hb)
  rcases turn i n ys τ H5 w5 with⟨stop,qn⟩ | ⟨go,zl,step⟩
  ·have h6:=T.done Y eP eW eK eC i _ s5 τ H5 (fun _ _=>False) gT (fN fun b hb=>n5 b (Qi _ hb)) t5 stop
   rw[eA]at h6
   refine thn h6 λr s6 ⟨hr,I6⟩=>?_
   subst hr
   have d6:s6.heap.get? D=some {cls:=.type "list",data:=.seq a7.toArray k}:=by
    have hp:=zbi (fp:=[D]) (Qb.mpr rfl) d5
    exact(I6.pin (D,_) (Qk _ hp)).1
   have H5D:H5 D=none:=n5 D Qe
   obtain⟨mL,nL,_⟩:=I6.loc
   rw[eL]at nL
   have CD:g2.objs.size≠D:=by rw[hC];exact Kx _
   refine kG D _ mL ys H5 s6 ?_ (qn D H5D) nL ?_ (by rw[hC,hD];exact Ya _)
   ·have u6:=I6.base
    rw[eFs,eEx,om,j8]at u6
    refine I3.call' (ch:=D::fp) (I6.os.trans (by rw[j8])) ⟨u6.keep,u6.slot,λb o e n hx=>?_,u6.there,λb xs e=>?_,λb o u e=>?_,λb ps e=>?_⟩ ?_ I6.bare λb hb=>?_
    ·rw[zad (λz=>hx (by rw[z];exact Qe))];exact u6.free b o e n hx
    ·rw[zad (zab e HD)];exact u6.tups b xs e
    ·rw[zad (zab e HD)];exact u6.frzs b o u e
    ·rw[zad (zab e HD)];exact u6.tbls b ps e
    ·have iF:=I6.hok
     rw[eP,eW]at iF
     intro b u e
     by_cases hb:b=D
     ·subst hb
      rw[zac]at e
      cases e
      exact⟨z5,a7,k,v5,d6⟩
     ·rw [zad hb] at e
      exact(iF b u e).stay (λc v _ q=>q) (λc q=>by rw[zad (zab q H5D)];exact q) λc xs q=>by rw[zad (zab q H5D)];exact q
    ·obtain ⟨f0,f1,f2,f3,f4,f5⟩:=fpx b hb
     exact⟨f3,f1,f4,f5⟩
   ·rw [zad CD]
    have:=I6.free
    rw[eL]at this
    exact this
  ·have h6:=T.item Y eP eW eK eC i _ s5 τ H5 (fun _ _=>False) gT (fN fun b hb=>n5 b (Qi _ hb)) t5 go
   rw[eA]at h6
   refine thn h6 λr s6 ⟨u,hr,h7⟩=>?_
   subst hr
   refine thn h7 λ_ s7 ⟨x,H7,I7,r7,y7,t7,n7⟩=>?_
   have oy:=I7.pinned (fN n7) (T.obj _ _ t7)
   have h8:=Yg _ s7 τ H7 x u _ oy r7 (step x H7 y7)
   rw[eP,eW,eA,eX,eE]at h8
   refine thn h8 λ_ s8 ⟨τ8,H8,I8,q8⟩=>?_
   have h9:=Yt _ s8 τ8 H8 _ I8 q8
   rw[eP,eW,eA,eX,eE]at h9
   refine thn h9 λok s9 ⟨H9,I9,q9⟩=>?_
   have again:∀{τ':St} {H':Hp} {s':Nh},Inv Y (([]++zb3 [D] s5.heap)++zb3 fp s7.heap) τ' H' s'→s'.heap.get? D=some {cls:=.type "list",data:=.seq a7.toArray k}∧H' D=none∧tn (i+1) s'.heap∧∀b∈fp,H' b=none:=λ{τ' H' s'} I'=>by
    have pp:∀{b:Nd} {o:Obj},b∈fp→s7.heap.get? b=some o→s'.heap.get? b=some o∧H' b=none:=λ{b o} hb e =>
     let z:=I'.pin (b,o) (Qk _ (Qk _ (zbi hb e)))
     ⟨z.1,z.2.1⟩
    have hp:=zbi (fp:=[D]) (Qb.mpr rfl) d5
    have z:=I'.pin (D,_) (Qk _ (Qn _ hp))
    refine⟨z.1,z.2.1,T.keep _ _ _ t7 λb hb o e=>(pp hb e).1,λb hb=>?_⟩
    obtain⟨o,e,_⟩:=T.obj _ _ t7 b hb
    exact(pp hb e).2
   have drop:∀{pl:Nc} {τ':St} {H':Hp} {s':Nh},Inv Y pl τ' H' s'→Inv Y [] τ' H' s':=λI'=>I'.pins_of (by simp)
   cases ok with
   |false =>
    rw[if_neg (by decide)]at q9 ⊢
    obtain⟨m',hm,w9⟩:=q9
    obtain⟨d9,H9D,t9,n9⟩:=again I9
    exact⟨m',hm,i+1,τ8,H9,ys,a7,k,drop I9,t9,λb hb=>(Qh.mp hb).elim (λe=>e▸H9D) (n9 b),d9,v5,z5,w9⟩
   | true =>
    rw[if_pos rfl]at q9 ⊢
    have gN:=Ye _ s9 τ8 H9 _ I9 q9
    rw[eP,eW,eA,eX,eE]at gN
    refine thn gN λy dG ⟨yv,cC,kN,kR,m',hm,pW⟩=>?_
    obtain⟨kK,H10D,pY,qk⟩:=again kN
    refine call_meets F.slot_list_append ⟨_,kK,rfl⟩ F.entry_list_append (F.args_list_append_2 _ _) (PySem.list_append D a7.toArray k y (by rw[Qq,←v5.length];assumption)) ⟨kK,?_⟩
    have q:=PySem.IsL.update kK (λa=>a.push y)
    have tY:(a7.toArray.push y)=(a7++[y]).toArray:=by simp
    rw[tY]at q
    have kk:∀b o,b≠D→dG.heap.get? b=some o→(dG.heap.update D (Obj.mapSeq λa=>a.push y)).get? b=some o:=λb o hb e=>(Yd dG.heap (Obj.mapSeq λa=>a.push y) (Zi hb)).trans e
    obtain⟨g0,g1,g2',g3,g4,g5⟩:=fY (pl:=[]) (H':=cC) (b:=D) Qe H10D (by simp)
    have lA:=(drop kN).turned (h':=dG.heap.update D (Obj.mapSeq λa=>a.push y)) (t':=dG.toks) (it:=D) kk H10D g1 g3 g4 g5
    exact⟨m',hm,i+1,τ8,cC,ys++[yv],a7++[y],_,lA,T.keep _ _ _ pY λb hb o e=>kk b o (λz=>fpD (z▸hb)) e,λb hb=>(Qh.mp hb).elim (λe=>e▸H10D) (qk b),q,v5.append (.cons kR .nil),
     by rw[Qj,Zx];assumption,pW⟩
 exact codeAny_compStart_list (loop _ rfl) (T.self _ 0 _ _ _ (T.keep _ _ _ h0 λb _ o e=>k1 b o (k2 b o e)) (loop _ rfl))
def lc_block{tg elt iter:Expr}{ifs:Np}{pos:Pos}{g:TG}{tc:TT}{te:TE}{fp:Nl}{it:Nd}{tn:Nat→Heap→Prop}{J:It}{Q:VK}{RR:Value→Addr→Result→Shared→Prop}{E:Na}(B:Blk X sc M ix)(hc:X.calm=true)(hg:∀C ex s H,PG (zcq X sc M C a6 ex s H) tg g)(ht:∀C ex s H,PTs (zcq X sc M C a6 ex s H) ifs tc)(he:∀C ex s H,PE (zcq X sc M C a6 ex s H) elt te)(I:Inv X a6 σ H s)(T:Turn X.prog X.w X.K tg J fp it tn)(h0:tn 0 s.heap)(hf:∀b∈fp,FpOk X a6 H b)(q:rLC g tc te Q J (inner ix σ) H)(kG:∀D C m ys H' s',Inv X a6 σ (upd H' D (.lst ys)) s'→Q (.ref D) (upd H' D (.lst ys))→s'.heap.Ns C m→upd H' D (.lst ys) C=none→s.heap.objs.size<C→RR (.ref D) C (.ok .next) s') :
  wpAny (model X.prog X.w) X.A (newList []) (λae s₃=>wpAny (model X.prog X.w) X.A (newFunctionEnv sc X.env.globals (clOf sc X.env) [] X.env.qual none .none (some X.env)) (λcenv s₄ =>
   codeAny (model X.prog X.w) X.A (.compStart (.ListComp elt [⟨tg,iter,ifs,0⟩] sc pos) 0 (.ref it) ae {cenv with scope:=relabel sc X.env}) (RR ae cenv.locals) s₄) E s₃) E s:=lc_blockG B.g hc hg ht he I T h0 hf q kG
def Inv.letgo{C:Nd}{m:Ng}{h':Nm}{s₀:Nm}(I:Inv X a6 σ H s)(hn:s.heap.Ns C m)(hC:H C=none)(ad:X.env.locals<s₀.objs.size)(cA:∀x c,X.env.cells.lookup x=some c→c<s₀.objs.size)(hp:∀p∈X.pn++a6,p.1<s₀.objs.size)(aE:X.s₀.heap.objs.size≤s₀.objs.size)(hc:s₀.objs.size<C)(hs:Heap.SameBut C s.heap h'):Inv X a6 σ H {s with heap:=h'} :=
 I.turned (t':=s.toks) (it:=C) (λb o hb e=>(hs.2 b hb).trans e) hC (Yq (Wg ad hc)) (.inr (Zk aE (Ww hc))) (λx c e=>Zj (Wg (cA x c e) hc)) λp q=>Zj (Wg (hp p q) hc)
def Inv.cl_lt(I:Inv X a6 σ H s):∀x c,X.env.cells.lookup x=some c→c<s.heap.objs.size:=λx c e=>by
 obtain⟨v,q⟩:=I.cell x c e
 exact q.lt
def Inv.pin_lt(I:Inv X a6 σ H s):∀p∈X.pn++a6,p.1<s.heap.objs.size:=λp hp=>Qr (I.pin p hp).1
def pe_lcC(B:BlkG X sc oz M ix)(hc:X.calm=true)(hi:PI X tg iter wi)(hg:∀C a6 ex s H,PG (zcw X sc oz M C a6 ex s H) tg g)(ht:∀C a6 ex s H,PTs (zcw X sc oz M C a6 ex s H) ifs tc)(he:∀C a6 ex s H,PE (zcw X sc oz M C a6 ex s H) elt te)(hs:∀x,foldedSetIterable iter X.env x=pure x:=by intro _;rfl):PE X (.ListComp elt [⟨tg,iter,ifs,0⟩] sc pos) (tLC ix wi g tc te):=by
 intro a6 s σ H Q I h
 rw[eval_ListComp]
 refine wpAny_comprehension_free (use:=none) rfl hs (zb5 (B.clos I)) B.kind B.names (thn (hi a6 s σ H _ I h) λv s1 h1=>thn h1 λitv s2 h2=>?_)
 obtain⟨it,fp,tn,J,H2,e,I2,T,bu,f2,q⟩:=h2
 subst e
 refine lc_blockG (RR:=λae C=>compPost (model X.prog X.w) X.A X.xe none (EP X a6 σ Q) ae C) B hc (hg · a6) (ht · a6) (he · a6) I2 T bu f2 q ?_
 intro D C m ys H' s' I' q' hn hC ad
 refine⟨m,hn,λh' cw=>⟨.ref D,_,I'.letgo hn hC I2.lt I2.cl_lt I2.pin_lt I2.sz ad cw,rfl,q'⟩⟩
def pe_lc(B:Blk X sc M ix)(hc:X.calm=true)(hi:PI X tg iter wi)(hg:∀C a6 ex s H,PG (zcq X sc M C a6 ex s H) tg g)(ht:∀C a6 ex s H,PTs (zcq X sc M C a6 ex s H) ifs tc)(he:∀C a6 ex s H,PE (zcq X sc M C a6 ex s H) elt te)(hs:∀x,foldedSetIterable iter X.env x=pure x:=by intro _;rfl):PE X (.ListComp elt [⟨tg,iter,ifs,0⟩] sc pos) (tLC ix wi g tc te):=pe_lcC B.g hc hi hg ht he hs
def ps_lc(hN:X.N.Nodup)(gh:X.N[i]?=some y)(hy:X.env.scope.names.lookup y=some .local)(B:Blk X sc M ix)(hc:X.calm=true)(hi:PI X tg iter wi)(hg:∀C a6 ex s H,PG (zcq X sc M C a6 ex s H) tg g)(ht:∀C a6 ex s H,PTs (zcq X sc M C a6 ex s H) ifs tc)(he:∀C a6 ex s H,PE (zcq X sc M C a6 ex s H) elt te)(qT:swapsWith (.ListComp elt [⟨tg,iter,ifs,0⟩] sc pos) (some (.Name y py)) spos.line X.env=pure true)(hs:∀x,foldedSetIterable iter X.env x=pure x:=by intro _;rfl):PS X (.Assign [.Name y py] (.ListComp elt [⟨tg,iter,ifs,0⟩] sc pos) spos) (tAsg (tLC ix wi g tc te) (gName i)):=by
 intro a6 s σ H D' I h
 rw[exec_Assign_Name_used _ _ _ _ qT]
 refine wpAny_bind (wpAny_standAt (wpAny_bind ?_))
 show wpAny _ X.A (do let _ ←comprehension (.ListComp elt [⟨tg,iter,ifs,0⟩] sc pos) sc X.env _ (newList []) false (eval iter X.env) (some (assign (.Name y py) X.env))) _ _ s
 refine wpAny_bind (wpAny_mono (wpAny_comprehension_free (use:=some (assign (.Name y py) X.env)) (Q:=λ_ s'=>SP X a6 D' .next s') rfl hs (zb5 (B.clos I)) B.kind B.names
  (thn (hi a6 s σ H _ I h) λv s1 h1=>thn h1 λitv s2 h2=>?_)) (λ_ s' hq=>wpAny_pure (wpAny_pure hq)) λ_ _ e=>e)
 obtain⟨it,fp,tn,J,H2,e,I2,T,bu,f2,q⟩:=h2
 subst e
 refine lc_block (RR:=λae C=>compPost (model X.prog X.w) X.A X.xe (some (assign (.Name y py) X.env)) (λ_ s'=>SP X a6 D' .next s') ae C) B hc (hg · a6) (ht · a6) (he · a6) I2 T bu f2 q ?_
 intro D C m ys H' s' I' q' hn hC ad
 show wpAny _ X.A (assign (.Name y py) X.env (.ref D)) _ _ s'
 refine wpAny_assign_Name (zfz I' hN gh (.inl hy) (v:=.ref D) rfl (λlE uw ⟨a,sb,ha⟩=>?_) (.inr hy))
 have aC:C≠a:=by
  rcases ha with z | z
  ·rw[z];exact Yq (Wg I2.lt ad)
  ·exact Yq (Wg (I2.cl_lt _ _ z) ad)
 have cz:=hn.sameBut sb aC
 exact⟨m,cz,λh' cw=>⟨_,_,uw.letgo cz hC I2.lt I2.cl_lt I2.pin_lt I2.sz ad cw,q'⟩⟩
end
end L2
end
section
namespace Tm
open PySem PyProof.Rows
def gallopT:Bool→Keyed→Array Keyed→Nat→Nat→Nat→StateT SortSt Sem (Option Nat):=sortPriv% PySem.Builtin.gallop
def mergeLoT:Array Keyed→Array Keyed→StateT SortSt Sem (Array Keyed):=sortPriv% PySem.Builtin.mergeLo
def mergeHiT:Array Keyed→Array Keyed→StateT SortSt Sem (Array Keyed):=sortPriv% PySem.Builtin.mergeHi
section
variable{σ α β:Type}{M:Model}{A:No}{E:Na}{s:Nh}{Q:α→σ→Prop}{st:σ}{c:Prop}[Decidable c]
def zc7(h:∀Q0:α→σ→Prop,(∀r a9,Q r a9→Q0 r a9)→wpS M A E s m Q0 st):wpS M A E s m Q st:=h Q λ_ _ z=>z
def jp_if{f:Unit→β→StateT σ Sem α}(h:∀z,wpS M A E s (f () z) Q st):wpS M A E s (if c then f () x else f () y) Q st:=by
 split
 ·exact h _
 ·exact h _
def zam{x y:StateT σ Sem α}(h1:c→wpS M A E s x Q st)(h2:¬c→wpS M A E s y Q st):wpS M A E s (if c then x else y) Q st:=by
 split
 next z=>exact h1 z
 next z=>exact h2 z
end
section
variable{prog:Nj}{w:Nk}{A:No}{E:Na}{s:Nh}{kd:SortKind}{a₀:Array Keyed}
def Cmp(prog:Nj)(w:Nk)(A:No)(E:Na)(s:Nh)(kd:SortKind)(a₀:Array Keyed):Prop :=
 ∀(x y:Keyed) (st:SortSt) (Q:Option Bool→SortSt→Prop),x∈a₀.toList→y∈a₀.toList→kindOf st=kd→(∀b,Q (some b) st)→wpS (model prog w) A E s (lt' x y) Q st
def Of(a₀ xs:Array Keyed):Prop:=∀(i:Nat) (p:Keyed),xs[i]?=some p→p∈a₀.toList
def zat{arr:Array Keyed}{i:Nat}{p:Keyed}{Q:Keyed→SortSt→Prop}{st:SortSt}(h:arr[i]?=some p)(q:Q p st):wpS (model prog w) A E s (elem' arr i) Q st:=by
 rw[elem'_eq,h];exact wpS_pure q
def beyondT(left:Bool)(ky:Keyed)(arr:Array Keyed)(i:Nat):StateT SortSt Sem (Option Bool):=do
 let x ←elem' arr i
 if left=true then lt' x ky else do
  let r ←lt' ky x
  pure (r.map λz=>!z)
def wpS_beyond{left:Bool}{ky:Keyed}{arr:Array Keyed}{i:Nat}{Q:Option Bool→SortSt→Prop}{st:SortSt}(C:Cmp prog w A E s kd a₀)(hk:kindOf st=kd)(hO:Of a₀ arr)(hy:ky∈a₀.toList)(hi:i<arr.size)(q:∀b,Q (some b) st):wpS (model prog w) A E s (beyondT left ky arr i) Q st:=by
 have e:=getElem?_pos arr i hi
 unfold beyondT
 refine wpS_bind (zat e ?_)
 have m:=hO _ _ e
 cases left with
 |true=>exact C _ _ _ _ m hy hk q
 |false=>exact wpS_bind (C _ _ _ _ hy m hk λb=>wpS_pure (q _))
def zck{left:Bool}{ky:Keyed}{arr:Array Keyed}{base n hint:Nat}{Q:Option Nat→SortSt→Prop}{st:SortSt}(C:Cmp prog w A E s kd a₀)(hk:kindOf st=kd)(hO:Of a₀ arr)(hy:ky∈a₀.toList)(hb:base+n≤arr.size)(hh:hint<n)(h:∀k,k≤n→Q (some k) st):wpS (model prog w) A E s (gallopT left ky arr base n hint) Q st:=by
 have ask:∀{i:Nat} {Q':Option Bool→SortSt→Prop},i<n→(∀b,Q' (some b) st)→wpS (model prog w) A E s (beyondT left ky arr (base+i)) Q' st:=λ{i Q'} hi q=>wpS_beyond C hk hO hy (by omega) q
 have last:∀(f:Nat→(Option (Option Nat)×Nat×Nat)→StateT SortSt Sem (ForInStep (Option (Option Nat)×Nat×Nat))) (lo hi:Nat),lo≤hi→hi≤n →
   (∀x l r Q',l≥r→Q' (ForInStep.done (none,l,r)) st→wpS (model prog w) A E s (f x (none,l,r)) Q' st) →
   (∀x l r Q',¬l≥r→r≤n→Q' (ForInStep.yield (none,l+(r-l)/2+1,r)) st→Q' (ForInStep.yield (none,l,l+(r-l)/2)) st→wpS (model prog w) A E s (f x (none,l,r)) Q' st) →
   wpS (model prog w) A E s (forIn [:n] (none,lo,hi) f) (λc a9=>a9=st∧∃k,c=(none,k,k)∧k≤n) st:=by
  intro f lo hi h1 h2 f1 f2
  refine wpS_forRange (I:=λx c a9=>Aj2 (a9=st) (Ex2 λl r=>Aj4 (c=(none,l,r)) (l≤r) (r≤n) (r-l≤n-x))) ?step ?fin ?init
  case init=>exact⟨rfl,lo,hi,rfl,h1,h2,by omega⟩
  case fin =>
   rintro c a9 ⟨rfl,l,r,rfl,a1,a2,a3⟩
   have:l=r:=by omega
   subst this
   exact⟨rfl,l,rfl,a2⟩
  case step =>
   rintro x c a9 _ hx ⟨rfl,l,r,rfl,a1,a2,a3⟩
   by_cases dX:l≥r
   ·refine f1 x l r _ dX ?_
    have:l=r:=Nat.le_antisymm a1 dX
    subst this
    exact⟨rfl,l,rfl,a2⟩
   ·exact f2 x l r _ dX a2 ⟨rfl,_,_,rfl,by omega,a2,by omega⟩ ⟨rfl,_,_,rfl,Wp _ _,by omega,by omega⟩
 unfold gallopT
 refine wpS_bind (ask (i:=hint) hh λb0=>?_)
 cases b0 with
 | true =>
  refine wpS_bind (wpS_mono (wpS_forRange
   (I:=λx c a9=>Aj2 (a9=st) (Ex2 λla of=>Aj4 (c=(none,la,of)) (hint+la<n) (la<of) (x<of)))
   (Q:=λc a9=>Aj2 (a9=st) (Ex2 λla of=>Aj3 (c=(none,la,of)) (hint+la<n) (la<of))) ?step ?fin ?init) ?post)
  case init=>exact⟨rfl,0,1,rfl,hh,Qg _,Qg _⟩
  case fin =>
   rintro c a9 ⟨rfl,la,of,rfl,a2,a3,a4⟩
   exact⟨rfl,la,of,rfl,a2,a3⟩
  case step =>
   rintro x c a9 _ hx ⟨rfl,la,of,rfl,a2,a3,a4⟩
   dsimp only
   refine zam (λ_=>wpS_pure ⟨rfl,la,of,rfl,a2,a3⟩) λdX=>wpS_bind (ask (i:=hint+of) (by omega) λb=>?_)
   cases b with
   |true=>exact wpS_pure ⟨rfl,of,2*of+1,rfl,by omega,by omega,by omega⟩
   |false=>exact wpS_pure ⟨rfl,la,of,rfl,a2,a3⟩
  case post =>
   rintro c a9 ⟨rfl,la,of,rfl,a2,a3⟩
   refine wpS_bind (wpS_mono (last _ (hint+la+1) (hint+min of (n-hint)) (by omega) (by omega) ?_ ?_) ?_)
   ·intro x l r Q' dX q
    exact zam (λ_=>wpS_pure q) λz=>absurd dX z
   ·intro x l r Q' dX hr q1 q2
    refine zam (λz=>absurd z dX) λ_=>wpS_bind (ask (i:=l+(r-l)/2) (by omega) λb=>?_)
    cases b with
    |true=>exact wpS_pure q1
    |false=>exact wpS_pure q2
   ·rintro c a9 ⟨rfl,k,rfl,b1⟩
    exact wpS_pure (h k b1)
 | false =>
  refine wpS_bind (wpS_mono (wpS_forRange
   (I:=λx c a9=>Aj2 (a9=st) (Ex2 λla of=>Aj4 (c=(none,la,of)) (la≤hint) (la<of) (x<of)))
   (Q:=λc a9=>Aj2 (a9=st) (Ex2 λla of=>Aj3 (c=(none,la,of)) (la≤hint) (la<of))) ?step ?fin ?init) ?post)
  case init=>exact⟨rfl,0,1,rfl,Zp _,Qg _,Qg _⟩
  case fin =>
   rintro c a9 ⟨rfl,la,of,rfl,a2,a3,a4⟩
   exact⟨rfl,la,of,rfl,a2,a3⟩
  case step =>
   rintro x c a9 _ hx ⟨rfl,la,of,rfl,a2,a3,a4⟩
   dsimp only
   refine zam (λ_=>wpS_pure ⟨rfl,la,of,rfl,a2,a3⟩) λdX=>wpS_bind (ask (i:=hint-of) (by omega) λb=>?_)
   cases b with
   |true=>exact wpS_pure ⟨rfl,la,of,rfl,a2,a3⟩
   |false=>exact wpS_pure ⟨rfl,of,2*of+1,rfl,by omega,by omega,by omega⟩
  case post =>
   rintro c a9 ⟨rfl,la,of,rfl,a2,a3⟩
   refine wpS_bind (wpS_mono (last _ (hint+1-min of (hint+1)) (hint-la) (by omega) (by omega) ?_ ?_) ?_)
   ·intro x l r Q' dX q
    exact zam (λ_=>wpS_pure q) λz=>absurd dX z
   ·intro x l r Q' dX hr q1 q2
    refine zam (λz=>absurd z dX) λ_=>wpS_bind (ask (i:=l+(r-l)/2) (by omega) λb=>?_)
    cases b with
    |true=>exact wpS_pure q1
    |false=>exact wpS_pure q2
   ·rintro c a9 ⟨rfl,k,rfl,b1⟩
    exact wpS_pure (h k b1)
end
section
variable{prog:Nj}{w:Nk}{A:No}{E:Na}{s:Nh}{kd:SortKind}{a₀:Array Keyed}
variable{all out ra rb seg:List Keyed}
def Pm(all out ra rb:List Keyed):Prop:=(out++(ra++rb)).Perm all
def Pm.appA(j:Pm all out (seg++ra) rb):Pm all (out++seg) ra rb:=by
 unfold Pm at *
 rw[Qu,←Qu seg];exact j
def Pm.appB(j:Pm all out ra (seg++rb)):Pm all (out++seg) ra rb:=by
 unfold Pm at *
 rw[Qu]
 refine List.Perm.trans (Zy _ ?_) j
 rw[←Qu,←Qu]
 exact Wc.append_right _
def drop_cons{a:Array Keyed}{i:Nat}(h:i<a.size):a.toList.drop i=a[i]::a.toList.drop (i+1):=by
 rw[Kk (by simpa using h)];simp
def zc8{a:Array Keyed}{i:Nat}:(a.extract i a.size).toList=a.toList.drop i:=by
 simp[Qz]
def zgo{a:Array Keyed}{i k:Nat}(h:i+k≤a.size):(a.extract i (i+k)).toList++a.toList.drop (i+k)=a.toList.drop i:=by
 rw[Array.toList_extract,Kj]
 have:i+k-i=k:=by omega
 rw[this,←List.drop_drop,Yx]
abbrev Pa(a b o:Array Keyed)(i k:Nat):Prop:=Pm (a.toList++b.toList) o.toList (a.toList.drop i) (b.toList.drop k)
variable{a b o:Array Keyed}{i k n:Nat}
def Pa.pushA(j:Pa a b o i k)(h:i<a.size):Pa a b (o.push a[i]) (i+1) k:=by
 have:=Pm.appA (seg:=[a[i]]) (ra:=a.toList.drop (i+1)) (by rw[Jp,←drop_cons h];exact j)
 rwa[←Jo]at this
def Pa.pushB(j:Pa a b o i k)(h:k<b.size):Pa a b (o.push b[k]) i (k+1):=by
 have:=Pm.appB (seg:=[b[k]]) (rb:=b.toList.drop (k+1)) (by rw[Jp,←drop_cons h];exact j)
 rwa[←Jo]at this
def Pa.runA(j:Pa a b o i k)(h:i+n≤a.size):Pa a b (o++a.extract i (i+n)) (i+n) k:=by
 have:=Pm.appA (seg:=(a.extract i (i+n)).toList) (ra:=a.toList.drop (i+n)) (by rw[zgo h];exact j)
 show Pm _ (o++a.extract i (i+n)).toList _ _
 rw[Yn];exact this
def Pa.runB(j:Pa a b o i k)(h:k+n≤b.size):Pa a b (o++b.extract k (k+n)) i (k+n):=by
 have:=Pm.appB (seg:=(b.extract k (k+n)).toList) (rb:=b.toList.drop (k+n)) (by rw[zgo h];exact j)
 show Pm _ (o++b.extract k (k+n)).toList _ _
 rw[Yn];exact this
def Pa.end1(j:Pa a b o i k):(o++a.extract i++b.extract k).toList.Perm (a.toList++b.toList):=by
 rw[Yn,Yn,zc8,zc8,Qu];exact j
def Pa.end2(j:Pa a b o i k):(o++b.extract k++a.extract i).toList.Perm (a.toList++b.toList):=by
 rw[Yn,Yn,zc8,zc8,Qu]
 exact(Zy _ Wc).trans j
def SG(st a9:SortSt):Prop:=∃g,a9=SortSt.mk' (kindOf st) (arrOf st) (pendingOf st) g (failedOf st)
def wpS_mergeLo{Q:Array Keyed→SortSt→Prop}{st:SortSt}(C:Cmp prog w A E s kd a₀)(hk:kindOf st=kd)(oa:Of a₀ a)(ob:Of a₀ b)(ha:0 < a.size)(hb:0 < b.size)(h:∀(res:Array Keyed) (a9:SortSt),res.toList.Perm (a.toList++b.toList)→SG st a9→Q res a9):wpS (model prog w) A E s (mergeLoT a b) Q st:=by
 have ia_:∀i (hi:i<a.size),a[i]∈a₀.toList:=λi hi=>oa i _ (getElem?_pos a i hi)
 have ib_:∀i (hi:i<b.size),b[i]∈a₀.toList:=λi hi=>ob i _ (getElem?_pos b i hi)
 have ea:∀i (hi:i<a.size),a[i]?=some a[i]:=λi hi=>getElem?_pos a i hi
 have eb:∀i (hi:i<b.size),b[i]?=some b[i]:=λi hi=>getElem?_pos b i hi
 have sgk:∀{a9},SG st a9→kindOf a9=kd:=λ⟨g,e⟩=>by rw[e];exact hk
 unfold mergeLoT
 refine wpS_bind (wpS_lift (wpAny_rule ⟨rfl,?_⟩))
 refine wpS_bind (zat (eb 0 hb) ?_)
 have j0:Pa a b (#[b[0]]:Array Keyed) 0 1:=by
  have j:Pa a b (#[]:Array Keyed) 0 0:=by show List.Perm _ _;simp
  exact j.pushB hb
 refine zam (λc1=>wpS_pure (h _ _ j0.end1 ⟨_,rfl⟩)) λc1=>zam (λc2=>wpS_pure (h _ _ j0.end2 ⟨_,rfl⟩)) λc2=>?_
 have u3:¬b.size=1:=λz=>c1 (by simp[z])
 have oq:¬a.size=1:=λz=>c2 (by simp[z])
 refine wpS_bind (wpS_get ?_)
 refine wpS_bind (wpS_mono (wpS_forRange
  (I:=λx c a9=>Aj2 (SG st a9) (Ex4 λo i k g=>Aj5 (c=(none,o,i,k,g)) (i+1<a.size) (k<b.size) (Pa a b o i k) (x≤i+k)))
  (Q:=λc a9=>Aj2 (SG st a9) (Ex2 λres r=>Aj2 (c=(some res,r)) (res.toList.Perm (a.toList++b.toList)))) ?step ?fin ?init) ?post)
 case init=>exact⟨⟨_,rfl⟩,_,0,1,_,rfl,by omega,by omega,j0,by omega⟩
 case fin =>
  rintro c a9 ⟨_,o,i,k,g,rfl,a1,a2,a3,a4⟩
  exfalso;omega
 case post =>
  rintro c a9 ⟨g,res,r,rfl,m⟩
  exact wpS_pure (h res a9 m g)
 case step =>
  rintro x c bj _ hx ⟨g1,o1,i1,k1,mg,rfl,a1,a2,a3,a4⟩
  dsimp -zeta only
  refine wpS_bind (wpS_mono (wpS_forRange
   (I:=λy c a9=>Aj2 (a9=bj) (Ex5 λo i k ac bc=>Aj5 (c=(none,o,i,k,ac,bc)) (i+1<a.size) (k<b.size) (Pa a b o i k) (i1+k1+y≤i+k)))
   (Q:=λc a9=>Aj2 (a9=bj) ((Ex2 λres r=>Aj2 (c=(some res,r)) (res.toList.Perm (a.toList++b.toList)))∨Ex5 λo i k ac bc=>Aj5 (c=(none,o,i,k,ac,bc)) (i+1<a.size) (k<b.size) (Pa a b o i k) (i1+k1<i+k))) ?step1 ?fin1 ?init1) ?post1)
  case init1=>exact⟨rfl,o1,i1,k1,0,0,rfl,a1,a2,a3,Qg _⟩
  case fin1 =>
   rintro c a9 ⟨_,o,i,k,ac,bc,rfl,b1,b2,b3,b4⟩
   exfalso;omega
  case step1 =>
   rintro y c bu _ hy ⟨rfl,o,i,k,ac,bc,rfl,b1,b2,b3,b4⟩
   have pP:i<a.size:=by omega
   dsimp -zeta only
   refine wpS_bind (zat (eb k b2) (wpS_bind (zat (ea i pP) (wpS_bind (C _ _ _ _ (ib_ k b2) (ia_ i pP) (sgk g1) λe=>?_)))))
   dsimp -zeta only
   refine zam (λ_=>?_) (λ_=>?_)
   ·refine wpS_bind (zat (eb k b2) ?_)
    have j:=b3.pushB b2
    refine zam (λ_=>wpS_pure ⟨rfl,.inl ⟨_,_,rfl,j.end1⟩⟩) λd1=>?_
    have oo:¬k+1=b.size:=λz=>d1 (beq_iff_eq.mpr z)
    exact zam (λ_=>wpS_pure ⟨rfl,.inr ⟨_,i,k+1,_,_,rfl,b1,by omega,j,by omega⟩⟩) λ_=>wpS_pure ⟨rfl,_,i,k+1,_,_,rfl,b1,by omega,j,by omega⟩
   ·refine wpS_bind (zat (ea i pP) ?_)
    have j:=b3.pushA pP
    refine zam (λ_=>wpS_pure ⟨rfl,.inl ⟨_,_,rfl,j.end2⟩⟩) λd1=>?_
    have oo:¬i+1+1=a.size:=λz=>d1 (beq_iff_eq.mpr z)
    exact zam (λ_=>wpS_pure ⟨rfl,.inr ⟨_,i+1,k,_,_,rfl,by omega,b2,j,by omega⟩⟩) λ_=>wpS_pure ⟨rfl,_,i+1,k,_,_,rfl,by omega,b2,j,by omega⟩
  case post1 =>
   rintro c bu ⟨rfl,⟨res,r,rfl,m⟩ | ⟨o2,i2,k2,ac2,bc2,rfl,b1,b2,b3,b4⟩⟩
   ·exact wpS_pure ⟨g1,res,_,rfl,m⟩
   dsimp -zeta only
   refine wpS_bind (wpS_lift (wpAny_rule ⟨rfl,?_⟩))
   refine wpS_bind (wpS_mono (wpS_forRange
    (I:=λy c a9=>Aj2 (SG st a9) (Ex6 λo i k g ac bc=>Aj5 (c=(none,o,i,k,g,ac,bc)) (i+1<a.size) (k<b.size) (Pa a b o i k) (i2+k2≤i+k)))
    (Q:=λc a9=>Aj2 (SG st a9) ((Ex2 λres r=>Aj2 (c=(some res,r)) (res.toList.Perm (a.toList++b.toList)))∨Ex6 λo i k g ac bc=>Aj5 (c=(none,o,i,k,g,ac,bc)) (i+1<a.size) (k<b.size) (Pa a b o i k) (i2+k2≤i+k))) ?step2 ?fin2 ?init2) ?post2)
   case init2=>exact⟨g1,o2,i2,k2,_,_,_,rfl,b1,b2,b3,Qg _⟩
   case fin2 =>
    rintro c a9 ⟨g,o,i,k,g',ac,bc,rfl,c1,c2,c3,c4⟩
    exact⟨g,.inr ⟨o,i,k,g',ac,bc,rfl,c1,c2,c3,c4⟩⟩
   case post2 =>
    rintro c au ⟨g3,⟨res,r,rfl,m⟩ | ⟨o3,i3,k3,g',uv,u4,rfl,c1,c2,c3,c4⟩⟩
    ·exact wpS_pure ⟨g3,res,_,rfl,m⟩
    dsimp -zeta only
    refine wpS_bind (wpS_modify ?_)
    obtain⟨gg,e3⟩:=g3
    exact wpS_pure ⟨⟨_,by rw[e3]⟩,o3,i3,k3,_,rfl,c1,c2,c3,by omega⟩
   case step2 =>
    rintro y c au _ hy ⟨g3,o3,i3,k3,mg3,uv,u4,rfl,c1,c2,c3,c4⟩
    refine zc7 λQ0 bA=>?_
    dsimp -zeta only
    have sgm:∀g',SG st (SortSt.mk' (kindOf au) (arrOf au) (pendingOf au) g' (failedOf au)):=λg'=>by
     obtain⟨g,e⟩:=g3
     exact⟨g',by rw[e]⟩
    extract_lets -underBinder +onlyGivenNames s1 out s2 ia s3 ib s4 mn s5 ac bc jp
    refine jp_if (f:=jp) λm'=>?_
    refine wpS_bind (wpS_modify ?_)
    refine wpS_bind (zat (eb k3 c2) ?_)
    refine wpS_bind (zck (base:=i3) (n:=a.size-i3) (hint:=0) C (sgk (sgm _)) oa (ib_ k3 c2) (by omega) (by omega) λk q1=>?_)
    dsimp -zeta only
    have jr:=c3.runA (n:=k) (by omega)
    extract_lets -underBinder +onlyGivenNames ac' jp2
    have h2:∀(n':Nat) (o':Array Keyed) (f1:n'+1<a.size),i3≤n'→Pa a b o' n' k3→wpS (model prog w) A E s (jp2 () o' n') Q0 (SortSt.mk' (kindOf au) (arrOf au) (pendingOf au) m' (failedOf au)):=by
     intro n' o' f1 f2 fJ
     have f0:n'<a.size:=by omega
     refine wpS_bind (zat (eb k3 c2) ?_)
     have fK:=fJ.pushB c2
     refine zam (λ_=>wpS_pure (bA _ _ ⟨sgm _,.inl ⟨_,_,rfl,fK.end1⟩⟩)) λd=>?_
     have d':¬k3+1=b.size:=λz=>d (beq_iff_eq.mpr z)
     refine wpS_bind (zat (ea n' f0) ?_)
     refine wpS_bind (zck (base:=k3+1) (n:=b.size-(k3+1)) (hint:=0) C (sgk (sgm _)) ob (ia_ n' f0) (by omega) (by omega) λk' r1=>?_)
     dsimp -zeta only
     have js:=fK.runB (n:=k') (by omega)
     extract_lets -underBinder +onlyGivenNames bc' jp3
     have h3:∀(m2:Nat) (o2:Array Keyed) (p1:m2<b.size),k3+1≤m2→Pa a b o2 n' m2→wpS (model prog w) A E s (jp3 () o2 m2) Q0 (SortSt.mk' (kindOf au) (arrOf au) (pendingOf au) m' (failedOf au)):=by
      intro m2 o2 p1 p2 pJ
      refine wpS_bind (zat (ea n' f0) ?_)
      have pK:=pJ.pushA f0
      refine zam (λ_=>wpS_pure (bA _ _ ⟨sgm _,.inl ⟨_,_,rfl,pK.end2⟩⟩)) λd=>?_
      have d2:¬n'+1+1=a.size:=λz=>d (beq_iff_eq.mpr z)
      exact zam (λ_=>wpS_pure (bA _ _ ⟨sgm _,.inr ⟨_,n'+1,m2,_,_,_,rfl,by omega,p1,pK,by omega⟩⟩)) λ_=>wpS_pure (bA _ _ ⟨sgm _,_,n'+1,m2,_,_,_,rfl,by omega,p1,pK,by omega⟩)
     refine zam (λkz=>?_) (λkz=>?_)
     ·refine zam (fun _=>wpS_pure (bA _ _ ⟨sgm _,.inl ⟨_,_,rfl,js.end1⟩⟩)) fun d4=>?_
      have d4':¬k3+1+k'=b.size:=λz=>d4 (beq_iff_eq.mpr z)
      exact h3 (k3+1+k') _ (by omega) (Wp _ _) js
     ·exact h3 (k3+1) _ (by omega) (Qg _) fK
    refine zam (λkz=>?_) (λkz=>?_)
    ·refine zam (fun _=>wpS_pure (bA _ _ ⟨sgm _,.inl ⟨_,_,rfl,jr.end2⟩⟩)) fun d=>zam (fun _=>wpS_pure (bA _ _ ⟨sgm _,.inl ⟨_,_,rfl,jr.end1⟩⟩)) fun e=>?_
     have d':¬i3+k+1=a.size:=λz=>d (beq_iff_eq.mpr z)
     have e':¬i3+k=a.size:=λz=>e (beq_iff_eq.mpr z)
     exact h2 (i3+k) _ (by omega) (Wp _ _) jr
    ·exact h2 i3 _ c1 (Qg _) c3
end
section
variable{prog:Nj}{w:Nk}{A:No}{E:Na}{s:Nh}{kd:SortKind}{a₀:Array Keyed}
variable{a b o:Array Keyed}{na nb at_:Nat}
def zft:(a.extract 0 n).toList=a.toList.take n:=by simp
def zfp{a:Array Keyed}{i n:Nat}(hi:i≤n)(h:n≤a.size):a.toList.take i++(a.extract i n).toList=a.toList.take n:=by
 rw[Array.toList_extract,Kj]
 have e:a.toList.take i=(a.toList.take n).take i:=by rw[List.take_take];congr 1;omega
 have e2:(a.toList.drop i).take (n-i)=(a.toList.take n).drop i:=by rw[List.drop_take]
 rw[e,e2,Yx]
def Ph(a b o:Array Keyed)(na nb:Nat):Prop:=(a.toList.take na++(b.toList.take nb++o.toList)).Perm (a.toList++b.toList)
def mvA{t sg lD u r all:List Keyed}(h:((t++sg)++(u++r)).Perm all)(hs:lD.Perm sg):(t++(u++(r++lD))).Perm all:=by
 refine List.Perm.trans ?_ h
 rw[Qu,←Qu u]
 exact Zy _ ((Zy _ hs).trans Wc)
def mvB{t sg lD u r all:List Keyed}(h:(t++((u++sg)++r)).Perm all)(hs:lD.Perm sg):(t++(u++(r++lD))).Perm all:=by
 refine List.Perm.trans ?_ h
 rw[Qu]
 exact Zy _ (Zy _ ((Zy _ hs).trans Wc))
def Ph.runA(j:Ph a b o na nb)(hi:at_≤na)(h:na≤a.size):Ph a b (o++(a.extract at_ na).reverse) at_ nb:=by
 unfold Ph at *
 rw[←zfp hi h]at j
 rw[Yn,Js]
 exact mvA j (Jl _)
def Ph.runB(j:Ph a b o na nb)(hi:at_≤nb)(h:nb≤b.size):Ph a b (o++(b.extract at_ nb).reverse) na at_:=by
 unfold Ph at *
 rw[←zfp hi h]at j
 rw[Yn,Js]
 exact mvB j (Jl _)
def Ph.pushA(j:Ph a b o (na+1) nb)(h:na<a.size):Ph a b (o.push a[na]) na nb:=by
 unfold Ph at *
 rw[Qo (by simpa using h)]at j
 rw[Jo]
 exact mvA j (by simp)
def Ph.pushB(j:Ph a b o na (nb+1))(h:nb<b.size):Ph a b (o.push b[nb]) na nb:=by
 unfold Ph at *
 rw[Qo (by simpa using h)]at j
 rw[Jo]
 exact mvB j (by simp)
def Ph.end1(j:Ph a b o na nb):(a.extract 0 na++b.extract 0 nb++o.reverse).toList.Perm (a.toList++b.toList):=by
 rw[Yn,Yn,Js,zft,zft,Qu]
 exact(Zy _ (Zy _ (Jl _))).trans j
def Ph.end2(j:Ph a b o na nb):(b.extract 0 nb++a.extract 0 na++o.reverse).toList.Perm (a.toList++b.toList):=by
 rw[Yn,Yn,Js,zft,zft]
 refine List.Perm.trans ?_ j
 rw[←Qu]
 exact(Wc).append (Jl _)
def wpS_mergeHi{Q:Array Keyed→SortSt→Prop}{st:SortSt}(C:Cmp prog w A E s kd a₀)(hk:kindOf st=kd)(oa:Of a₀ a)(ob:Of a₀ b)(ha:0 < a.size)(hb:0 < b.size)(h:∀(res:Array Keyed) (a9:SortSt),res.toList.Perm (a.toList++b.toList)→SG st a9→Q res a9):wpS (model prog w) A E s (mergeHiT a b) Q st:=by
 have ia_:∀i (hi:i<a.size),a[i]∈a₀.toList:=λi hi=>oa i _ (getElem?_pos a i hi)
 have ib_:∀i (hi:i<b.size),b[i]∈a₀.toList:=λi hi=>ob i _ (getElem?_pos b i hi)
 have ea:∀i (hi:i<a.size),a[i]?=some a[i]:=λi hi=>getElem?_pos a i hi
 have eb:∀i (hi:i<b.size),b[i]?=some b[i]:=λi hi=>getElem?_pos b i hi
 have sgk:∀{a9},SG st a9→kindOf a9=kd:=λ⟨g,e⟩=>by rw[e];exact hk
 obtain⟨n0,hn0⟩:∃n0,a.size=n0+1:=⟨a.size-1,by omega⟩
 have gC:n0<a.size:=by omega
 have j0:Ph a b (#[a[n0]]:Array Keyed) n0 b.size:=by
  have j:Ph a b (#[]:Array Keyed) (n0+1) b.size:=by
   have e1:a.toList.take (n0+1)=a.toList:=Qz (by simp;omega)
   have e2:b.toList.take b.size=b.toList:=Qz (by simp)
   unfold Ph;rw[e1,e2];simp
  exact j.pushA gC
 unfold mergeHiT
 refine wpS_bind (wpS_lift (wpAny_rule ⟨rfl,?_⟩))
 have e2:a.size-1=n0:=by omega
 simp -zeta only [e2]
 refine wpS_bind (zat (ea n0 gC) ?_)
 refine zam (λc1=>wpS_pure (h _ _ j0.end1 ⟨_,rfl⟩)) λc1=>zam (λc2=>wpS_pure (h _ _ j0.end2 ⟨_,rfl⟩)) λc2=>?_
 have u3:¬n0=0:=λz=>c1 (by simp[z])
 have oq:¬b.size=1:=λz=>c2 (by simp[z])
 refine wpS_bind (wpS_get ?_)
 obtain⟨n1,rfl⟩:∃n1,n0=n1+1:=⟨n0-1,by omega⟩
 obtain⟨m1,bJ⟩:∃m1,b.size=m1+1+1:=⟨b.size-2,by omega⟩
 rw[bJ]at j0
 refine wpS_bind (wpS_mono (wpS_forRange
  (I:=λx c a9=>Aj2 (SG st a9) (Ex4 λo i k g=>Aj5 (c=(none,i+1,k+1+1,o,g)) (i<a.size) (k+1<b.size) (Ph a b o (i+1) (k+1+1)) (i+k+x+4≤a.size+b.size)))
  (Q:=λc a9=>Aj2 (SG st a9) (Ex2 λres r=>Aj2 (c=(some res,r)) (res.toList.Perm (a.toList++b.toList)))) ?step ?fin ?init) ?post)
 case init=>exact⟨⟨_,rfl⟩,_,n1,m1,_,by rw[bJ],by omega,by omega,j0,by omega⟩
 case fin =>
  rintro c a9 ⟨_,o,i,k,g,rfl,a1,a2,a3,a4⟩
  exfalso;omega
 case post =>
  rintro c a9 ⟨g,res,r,rfl,m⟩
  exact wpS_pure (h res a9 m g)
 case step =>
  rintro x c bj _ hx ⟨g1,o1,i1,k1,mg,rfl,a1,a2,a3,a4⟩
  dsimp -zeta only
  refine wpS_bind (wpS_mono (wpS_forRange
   (I:=λy c a9=>Aj2 (a9=bj) (Ex5 λo i k ac bc=>Aj5 (c=(none,i+1,k+1+1,o,ac,bc)) (i<a.size) (k+1<b.size) (Ph a b o (i+1) (k+1+1)) (i+k+y≤i1+k1)))
   (Q:=λc a9=>Aj2 (a9=bj) ((Ex2 λres r=>Aj2 (c=(some res,r)) (res.toList.Perm (a.toList++b.toList)))∨Ex5 λo i k ac bc=>Aj5 (c=(none,i+1,k+1+1,o,ac,bc)) (i<a.size) (k+1<b.size) (Ph a b o (i+1) (k+1+1)) (i+k<i1+k1))) ?step1 ?fin1 ?init1) ?post1)
  case init1=>exact⟨rfl,o1,i1,k1,0,0,rfl,a1,a2,a3,Qg _⟩
  case fin1 =>
   rintro c a9 ⟨_,o,i,k,ac,bc,rfl,b1,b2,b3,b4⟩
   exfalso;omega
  case step1 =>
   rintro y c bu _ hy ⟨rfl,o,i,k,ac,bc,rfl,b1,b2,b3,b4⟩
   dsimp -zeta only
   refine wpS_bind (zat (eb (k+1) b2) (wpS_bind (zat (ea i b1) (wpS_bind (C _ _ _ _ (ib_ (k+1) b2) (ia_ i b1) (sgk g1) λe=>?_)))))
   dsimp -zeta only
   refine zam (λ_=>?_) (λ_=>?_)
   ·refine wpS_bind (zat (ea i b1) ?_)
    have j:=b3.pushA b1
    refine zam (λ_=>wpS_pure ⟨rfl,.inl ⟨_,_,rfl,j.end1⟩⟩) λd1=>?_
    have oo:¬i=0:=λz=>d1 (beq_iff_eq.mpr z)
    cases i with
    |zero=>exact absurd rfl oo
    |succ i'=>exact zam (λ_=>wpS_pure ⟨rfl,.inr ⟨_,i',k,_,_,rfl,by omega,b2,j,by omega⟩⟩) λ_=>wpS_pure ⟨rfl,_,i',k,_,_,rfl,by omega,b2,j,by omega⟩
   ·refine wpS_bind (zat (eb (k+1) b2) ?_)
    have j:=b3.pushB b2
    refine zam (λ_=>wpS_pure ⟨rfl,.inl ⟨_,_,rfl,j.end2⟩⟩) λd1=>?_
    have oo:¬k+1=1:=λz=>d1 (beq_iff_eq.mpr z)
    cases k with
    |zero=>exact absurd rfl oo
    |succ k'=>exact zam (λ_=>wpS_pure ⟨rfl,.inr ⟨_,i,k',_,_,rfl,b1,by omega,j,by omega⟩⟩) λ_=>wpS_pure ⟨rfl,_,i,k',_,_,rfl,b1,by omega,j,by omega⟩
  case post1 =>
   rintro c bu ⟨rfl,⟨res,r,rfl,m⟩ | ⟨o2,i2,k2,ac2,bc2,rfl,b1,b2,b3,b4⟩⟩
   ·exact wpS_pure ⟨g1,res,_,rfl,m⟩
   dsimp -zeta only
   refine wpS_bind (wpS_lift (wpAny_rule ⟨rfl,?_⟩))
   refine wpS_bind (wpS_mono (wpS_forRange
    (I:=λy c a9=>Aj2 (SG st a9) (Ex6 λo i k g ac bc=>Aj5 (c=(none,i+1,k+1+1,o,g,ac,bc)) (i<a.size) (k+1<b.size) (Ph a b o (i+1) (k+1+1)) (i+k≤i2+k2)))
    (Q:=λc a9=>Aj2 (SG st a9) ((Ex2 λres r=>Aj2 (c=(some res,r)) (res.toList.Perm (a.toList++b.toList)))∨Ex6 λo i k g ac bc=>Aj5 (c=(none,i+1,k+1+1,o,g,ac,bc)) (i<a.size) (k+1<b.size) (Ph a b o (i+1) (k+1+1)) (i+k≤i2+k2))) ?step2 ?fin2 ?init2) ?post2)
   case init2=>exact⟨g1,o2,i2,k2,_,_,_,rfl,b1,b2,b3,Qg _⟩
   case fin2 =>
    rintro c a9 ⟨g,o,i,k,g',ac,bc,rfl,c1,c2,c3,c4⟩
    exact⟨g,.inr ⟨o,i,k,g',ac,bc,rfl,c1,c2,c3,c4⟩⟩
   case post2 =>
    rintro c au ⟨g3,⟨res,r,rfl,m⟩ | ⟨o3,i3,k3,g',uv,u4,rfl,c1,c2,c3,c4⟩⟩
    ·exact wpS_pure ⟨g3,res,_,rfl,m⟩
    dsimp -zeta only
    refine wpS_bind (wpS_modify ?_)
    obtain⟨gg,e3⟩:=g3
    exact wpS_pure ⟨⟨_,by rw[e3]⟩,o3,i3,k3,_,rfl,c1,c2,c3,by omega⟩
   case step2 =>
    rintro y c au _ hy ⟨g3,o3,i3,k3,mg3,uv,u4,rfl,c1,c2,c3,c4⟩
    refine zc7 λQ0 bA=>?_
    dsimp -zeta only
    have sgm:∀g',SG st (SortSt.mk' (kindOf au) (arrOf au) (pendingOf au) g' (failedOf au)):=λg'=>by
     obtain⟨g,e⟩:=g3
     exact⟨g',by rw[e]⟩
    extract_lets -underBinder +onlyGivenNames s1 na s2 nb s3 out s4 mn s5 ac bc jp
    refine jp_if (f:=jp) λm'=>?_
    refine wpS_bind (wpS_modify ?_)
    refine wpS_bind (zat (eb (k3+1) c2) ?_)
    refine wpS_bind (zck (n:=i3+1) (hint:=i3) C (sgk (sgm _)) oa (ib_ (k3+1) c2) (by omega) (by omega) λpQ q1=>?_)
    dsimp -zeta only
    have jr:=c3.runA (at_:=pQ) q1 (by omega)
    extract_lets -underBinder +onlyGivenNames kk ac' jp2
    have h2:∀(n':Nat) (o':Array Keyed) (f1:n'<a.size),n'≤i3→Ph a b o' (n'+1) (k3+1+1)→wpS (model prog w) A E s (jp2 () (n'+1) o') Q0 (SortSt.mk' (kindOf au) (arrOf au) (pendingOf au) m' (failedOf au)):=by
     intro n' o' f1 f2 fJ
     refine wpS_bind (zat (eb (k3+1) c2) ?_)
     have fK:=fJ.pushB c2
     refine zam (λ_=>wpS_pure (bA _ _ ⟨sgm _,.inl ⟨_,_,rfl,fK.end2⟩⟩)) λd=>?_
     have d':¬k3+1=1:=λz=>d (beq_iff_eq.mpr z)
     refine wpS_bind (zat (ea n' f1) ?_)
     refine wpS_bind (zck (n:=k3+1) (hint:=k3) C (sgk (sgm _)) ob (ia_ n' f1) (by omega) (by omega) λow r1=>?_)
     dsimp -zeta only
     have js:=fK.runB (at_:=ow) r1 (by omega)
     extract_lets -underBinder +onlyGivenNames oK bc' jp3
     have h3:∀(m2:Nat) (o2:Array Keyed) (p1:m2+1<b.size),m2≤k3→Ph a b o2 (n'+1) (m2+1+1)→wpS (model prog w) A E s (jp3 () (m2+1+1) o2) Q0 (SortSt.mk' (kindOf au) (arrOf au) (pendingOf au) m' (failedOf au)):=by
      intro m2 o2 p1 p2 pJ
      refine wpS_bind (zat (ea n' f1) ?_)
      have pK:=pJ.pushA f1
      refine zam (λ_=>wpS_pure (bA _ _ ⟨sgm _,.inl ⟨_,_,rfl,pK.end1⟩⟩)) λd=>?_
      have d2:¬n'=0:=λz=>d (beq_iff_eq.mpr z)
      cases n' with
      |zero=>exact absurd rfl d2
      |succ t=>exact zam (λ_=>wpS_pure (bA _ _ ⟨sgm _,.inr ⟨_,t,m2,_,_,_,rfl,by omega,p1,pK,by omega⟩⟩)) λ_=>wpS_pure (bA _ _ ⟨sgm _,_,t,m2,_,_,_,rfl,by omega,p1,pK,by omega⟩)
     refine zam (λkz=>?_) (λkz=>?_)
     ·refine zam (fun _=>wpS_pure (bA _ _ ⟨sgm _,.inl ⟨_,_,rfl,js.end2⟩⟩)) fun d4=>zam (fun _=>wpS_pure (bA _ _ ⟨sgm _,.inl ⟨_,_,rfl,js.end1⟩⟩)) fun d5=>?_
      have d4':¬ow=1:=λz=>d4 (beq_iff_eq.mpr z)
      have d5':¬ow=0:=λz=>d5 (beq_iff_eq.mpr z)
      obtain⟨m2,e2⟩:∃m2,ow=m2+1+1:=⟨ow-2,by omega⟩
      have:=h3 m2 _ (by omega) (by omega) (by rw[←e2];exact js)
      rw[←e2]at this
      exact this
     ·obtain ⟨m2,e2⟩:∃ m2,k3=m2+1:=⟨k3 - 1,by omega⟩
      have:=h3 m2 _ (by omega) (by omega) (by rw[←e2];exact fK)
      rw[←e2]at this
      exact this
    refine zam (λkz=>?_) (λkz=>?_)
    ·refine zam (fun _=>wpS_pure (bA _ _ ⟨sgm _,.inl ⟨_,_,rfl,jr.end1⟩⟩)) fun d=>?_
     have d':¬pQ=0:=λz=>d (beq_iff_eq.mpr z)
     obtain⟨n',e1⟩:∃n',pQ=n'+1:=⟨pQ-1,by omega⟩
     have:=h2 n' _ (by omega) (by omega) (by rw[←e1];exact jr)
     rw[←e1]at this
     exact this
    ·exact h2 i3 _ c1 (Qg _) c3
end
section
variable{prog:Nj}{w:Nk}{A:No}{E:Na}{s:Nh}{kd:SortKind}{a₀:Array Keyed}{p:Array (Nat×Nat×Nat)}{lo:Nat}
structure Bs(kd:SortKind)(a₀:Array Keyed)(p:Array (Nat×Nat×Nat))(st:SortSt):Prop where
 kind:kindOf st=kd
 failed:failedOf st=none
 pend:pendingOf st=p
 perm:(arrOf st).Perm a₀
def Bs.size{st:SortSt}(B:Bs kd a₀ p st):(arrOf st).size=a₀.size:=B.perm.size_eq
def Bs.mem{st:SortSt}(B:Bs kd a₀ p st){i:Nat}(hi:i<a₀.size):∃q,(arrOf st)[i]?=some q∧q∈a₀.toList:=by
 have gh:i<(arrOf st).size:=by rw[B.size];exact hi
 exact⟨_,getElem?_pos _ i gh,(Yi.mp B.perm).mem_iff.mp (by simp)⟩
def zgz{st:SortSt}{i j:Nat}{Q:Option Bool→SortSt→Prop}(C:Cmp prog w A E s kd a₀)(B:Bs kd a₀ p st)(hi:i<a₀.size)(hj:j<a₀.size)(h:∀b,Q (some b) st):wpS (model prog w) A E s (ltAt' i j) Q st:=by
 obtain⟨x,e1,m1⟩:=B.mem hi
 obtain⟨y,e2,m2⟩:=B.mem hj
 rw[ltAt'_eq]
 refine wpS_bind (wpS_get ?_)
 refine wpS_bind (zat e1 (wpS_bind (zat e2 ?_)))
 exact C x y st Q m1 m2 B.kind h
def Bs.mirror{st:SortSt}(B:Bs kd a₀ p st)(i j k:Nat):Bs kd a₀ p (setArr st (mirror (arrOf st) i j k)):=⟨B.kind,B.failed,B.pend,(mirror_perm _ _ _ _).trans B.perm⟩
def Bs.bubble{st:SortSt}(B:Bs kd a₀ p st)(src d:Nat):Bs kd a₀ p (setArr st (bubble (arrOf st) src d)):=⟨B.kind,B.failed,B.pend,(bubble_perm _ _ _).trans B.perm⟩
def wpS_binary{st:SortSt}{n ok:Nat}{Q:Bool→SortSt→Prop}(C:Cmp prog w A E s kd a₀)(hn:lo+n≤a₀.size)(B:Bs kd a₀ p st)(h:∀a9,Bs kd a₀ p a9→Q true a9):wpS (model prog w) A E s (binarySort' lo n ok) Q st:=by
 rw[binarySort'_eq]
 refine wpS_bind (wpS_mono (wpS_forRange (I:=λk c a9=>Aj2 (c=(none,())) (Bs kd a₀ p a9)) (Q:=λc a9=>Aj2 (c=(none,())) (Bs kd a₀ p a9)) ?step (λ_ _ z=>z) ⟨rfl,B⟩) ?post)
 case post =>
  rintro c a9 ⟨rfl,B'⟩
  exact wpS_pure (h a9 B')
 case step =>
  rintro k c a9 hak im ⟨rfl,B'⟩
  refine wpS_bind (wpS_mono (wpS_forRange
   (I:=λx c dF=>Aj2 (dF=a9) (Ex2 λl r=>Aj4 (c=(none,l,r)) (l≤r) (r≤k) (r-l≤k-x)))
   (Q:=λc dF=>Aj2 (dF=a9) (Ex1 λl=>Aj2 (c=(none,l,l)) (l≤k))) ?is ?if_ ?ii) ?ip)
  case ii=>exact⟨rfl,0,k,rfl,Zp _,Qg _,Qg _⟩
  case if_ =>
   rintro c dF ⟨rfl,l,r,rfl,b1,b2,b3⟩
   have:l=r:=by omega
   subst this
   exact⟨rfl,l,rfl,b2⟩
  case is =>
   rintro x c dF _ hx ⟨rfl,l,r,rfl,b1,b2,b3⟩
   dsimp only
   refine zam (λge=>?_) λge=>wpS_bind (zgz C B' (by omega) (by omega) λb=>?_)
   ·have:l=r:=Nat.le_antisymm b1 ge
    subst this
    exact wpS_pure ⟨rfl,l,rfl,b2⟩
   ·cases b with
    |true=>exact wpS_pure ⟨rfl,l,(l+r)/2,rfl,by omega,by omega,by omega⟩
    |false=>exact wpS_pure ⟨rfl,(l+r)/2+1,r,rfl,by omega,b2,by omega⟩
  case ip =>
   rintro c dF ⟨rfl,l,rfl,b2⟩
   show wpS _ _ _ _ (do moveDown' (lo+k) (lo+l);pure (ForInStep.yield (none,()))) _ _
   rw[moveDown'_eq]
   exact wpS_bind (wpS_modify (wpS_pure ⟨rfl,B'.bubble _ _⟩))
def jp_rev{α:Type}{c:Prop}[Decidable c]{i j:Nat}{f:Unit→StateT SortSt Sem α}{Q:α→SortSt→Prop}{st:SortSt}(B:Bs kd a₀ p st)(h:∀a9,Bs kd a₀ p a9→wpS (model prog w) A E s (f ()) Q a9):wpS (model prog w) A E s (if c then reverseSlice' i j >>= f else f ()) Q st:=by
 split
 ·exact wpS_bind (wpS_reverse (h _ (B.mirror _ _ _)))
 ·exact h _ B
def wpS_count{st:SortSt}{nrem:Nat}{Q:Option Nat→SortSt→Prop}(C:Cmp prog w A E s kd a₀)(hn:lo+nrem≤a₀.size)(h1:1≤nrem)(B:Bs kd a₀ p st)(h:∀m a9,Bs kd a₀ p a9→1≤m→m≤nrem→Q (some m) a9):wpS (model prog w) A E s (countRun' lo nrem) Q st:=by
 have asc:∀(f:Nat→(Option (Option Nat)×Nat)→StateT SortSt Sem (ForInStep (Option (Option Nat)×Nat))) (a:Nat) (bj:SortSt),1≤a→a≤nrem →
   (∀x y Q',1≤y→y<nrem→Q' (ForInStep.done (none,y)) bj→Q' (ForInStep.yield (none,y+1)) bj→wpS (model prog w) A E s (f x (none,y)) Q' bj) →
   wpS (model prog w) A E s (forIn [a:nrem] (none,a) f) (λc a9=>Aj2 (a9=bj) (Ex1 λn=>Aj3 (c=(none,n)) (a≤n) (n≤nrem))) bj:=by
  intro f a bj a1 a2 hf
  refine wpS_forRange (I:=λx c a9=>Aj2 (a9=bj) (c=(none,x))) ?step ?fin ⟨rfl,rfl⟩
  case fin =>
   rintro c a9 ⟨rfl,rfl⟩
   rw[show max a nrem=nrem by omega]
   exact⟨rfl,nrem,rfl,a2,Qg _⟩
  case step =>
   rintro x c a9 g1 g2 ⟨rfl,rfl⟩
   exact hf x x _ (by omega) g2 ⟨rfl,x,rfl,g1,Ww g2⟩ ⟨rfl,rfl⟩
 have two:∀{bj:SortSt},Bs kd a₀ p bj→∀{y:Nat},1≤y→y<nrem→lo+y<a₀.size∧lo+y-1<a₀.size:=λ_ y y1 y2=>⟨by omega,by omega⟩
 rw[countRun'_eq]
 refine wpS_bind (wpS_mono (asc _ 1 st (Qg _) h1 ?_) ?_)
 ·intro x y Q' y1 y2 q1 q2
  refine wpS_bind (zgz C B (two B y1 y2).1 (two B y1 y2).2 λb=>?_)
  cases b with
  |true=>exact wpS_pure q1
  |false=>exact wpS_pure q2
 rintro c a9 ⟨rfl,n,rfl,n1,n2⟩
 refine zc7 λQ0 bA=>?_
 refine zam (λd=>wpS_pure (bA _ _ (h n _ B n1 n2))) λd=>?_
 have d':n<nrem:=by have:¬n=nrem:=λz=>d (beq_iff_eq.mpr z);omega
 extract_lets -underBinder +onlyGivenNames jp
 have nh:∀bj,Bs kd a₀ p bj→wpS (model prog w) A E s (jp ()) Q0 bj:=by
  intro bj B1
  refine wpS_bind (wpS_lift (wpAny_rule ⟨rfl,?_⟩))
  refine wpS_bind (wpS_mono (wpS_forRange
   (I:=λx c bu=>Ex1 λq=>Aj4 (c=(none,x,q)) (Bs kd a₀ p bu) (2≤x) (x≤nrem))
   (Q:=λc bu=>Ex2 λx q=>Aj4 (c=(none,x,q)) (Bs kd a₀ p bu) (2≤x) (x≤nrem)) ?step ?fin ⟨0,rfl,B1,by omega,d'⟩) ?post)
  case fin =>
   rintro c bu ⟨q,rfl,b1,b2,b3⟩
   exact⟨_,q,rfl,b1,b2,b3⟩
  case step =>
   rintro x c bu x1 x2 ⟨q,rfl,b1,b2,b3⟩
   refine zc7 λQ1 gL=>?_
   refine wpS_bind (zgz (i:=lo+x) (j:=lo+x-1) C b1 (by omega) (by omega) λe1=>?_)
   cases e1 with
   |true =>
    refine zam (λ_=>?_) (λz=>absurd rfl z)
    exact jp_rev b1 λau B3=>wpS_pure (gL _ _ ⟨0,rfl,B3,by omega,x2⟩)
   |false =>
    refine zam (λz=>absurd z (by decide)) λ_=>wpS_bind (zgz (i:=lo+x-1) (j:=lo+x) C b1 (by omega) (by omega) λe2=>?_)
    cases e2 with
    |true=>exact zam (λ_=>wpS_pure (gL _ _ ⟨x,q,rfl,b1,b2,b3⟩)) (λz=>absurd rfl z)
    |false=>exact zam (λz=>absurd z (by decide)) λ_=>wpS_pure (gL _ _ ⟨q+1,rfl,b1,by omega,x2⟩)
  case post =>
   rintro c bu ⟨x,q,rfl,b1,b2,b3⟩
   refine jp_rev b1 λau B3=>?_
   refine wpS_bind (wpS_reverse ?_)
   have B6:=B3.mirror lo (lo+x) ((lo+x-lo)/2)
   refine wpS_bind (wpS_mono (asc _ x _ (by omega) b3 ?_) ?_)
   ·intro z y Q' y1 y2 q1 q2
    refine wpS_bind (zgz C B6 (two B6 y1 y2).1 (two B6 y1 y2).2 λb=>?_)
    cases b with
    |true=>exact wpS_pure q1
    |false=>exact wpS_pure q2
   ·rintro c st6 ⟨rfl,m,rfl,m1,m2⟩
    exact wpS_pure (bA _ _ (h m _ B6 (by omega) m2))
 refine zam (λd2=>?_) λd2=>nh _ B
 refine wpS_bind (zgz C B (by omega) (by omega) λe=>?_)
 cases e with
 |true=>exact zam (λ_=>wpS_pure (bA _ _ (h n _ B n1 n2))) (λz=>absurd rfl z)
 |false=>exact zam (λz=>absurd z (by decide)) λ_=>wpS_bind (wpS_reverse (nh _ (B.mirror _ _ _)))
end
def PL:List (Nat×Nat×Nat)→Nat→Nat→Prop
 |[],off,aj=>off=aj
 |q::ps,off,aj=>q.1=off∧0<q.2.1∧PL ps (off+q.2.1) aj
def PL.split{gz:List (Nat×Nat×Nat)}{aj:Nat}:∀{da:List (Nat×Nat×Nat)} {off:Nat},PL (da++gz) off aj→∃mid,PL da off mid∧PL gz mid aj:=by
 intro da
 induction da with
 |nil=>intro off h;exact⟨off,rfl,h⟩
 |cons q ps ih =>
  intro off h
  obtain⟨mid,a,b⟩:=ih h.2.2
  exact⟨mid,⟨h.1,h.2.1,a⟩,b⟩
def PL.join{gz:List (Nat×Nat×Nat)}{mid aj:Nat}:∀{da:List (Nat×Nat×Nat)} {off:Nat},PL da off mid→PL gz mid aj→PL (da++gz) off aj:=by
 intro da
 induction da with
 |nil=>intro off a b;cases(show off=mid from a);exact b
 |cons q ps ih=>intro off a b;exact⟨a.1,a.2.1,ih a.2.2 b⟩
def PL.len{aj:Nat}:∀{ps:List (Nat×Nat×Nat)} {off:Nat},PL ps off aj→off+ps.length≤aj:=by
 intro ps
 induction ps with
 |nil=>intro off h;exact Nat.le_of_eq h
 |cons q ps ih =>
  intro off h
  have:=ih h.2.2
  have:=h.2.1
  rw[Zf];omega
def put_back{sa:Nat}:∀ (l:List Keyed) (n:Nat) (arr:Array Keyed) (F M S:List Keyed),arr.toList=F++(M++S)→F.length=sa+n→M.length=l.length →
  ((l.zipIdx n).foldl (λ(a:Array Keyed) (q:Keyed×Nat)=>a.setIfInBounds (sa+q.2) q.1) arr).toList=F++(l++S):=by
 intro l
 induction l with
 |nil =>
  intro n arr F M S e _ hl
  have:M=[]:=List.length_eq_zero_iff.mp (by simpa using hl)
  rw[this]at e
  simpa using e
 | cons p l ih =>
  intro n arr F M S e hf hl
  cases M with
  |nil=>simp at hl
  | cons m M =>
   rw[List.zipIdx_cons,Ju]
   have e2:(arr.setIfInBounds (sa+n) p).toList=(F++[p])++(M++S):=by
    rw[Array.toList_setIfInBounds,e,←hf,List.set_append_right _ _ (Qg _),Nat.sub_self]
    simp
   rw[ih (n+1) _ (F++[p]) M S e2 (by rw[Qj];simp;omega) (by simpa using hl)]
   simp
section
variable{prog:Nj}{w:Nk}{A:No}{E:Na}{s:Nh}{kd:SortKind}{a₀:Array Keyed}
structure Rn(kd:SortKind)(a₀:Array Keyed)(aj:Nat)(st:SortSt):Prop where
 kind:kindOf st=kd
 failed:failedOf st=none
 perm:(arrOf st).Perm a₀
 pend:PL (pendingOf st).toList 0 aj
 le:aj≤a₀.size
def of_perm{xs:Array Keyed}(h:xs.Perm a₀):Of a₀ xs:=λi p e=>by
 refine(Yi.mp h).mem_iff.mp ?_
 have:xs.toList[i]?=some p:=by simpa using e
 exact Yo this
def of_ext{xs:Array Keyed}(h:xs.Perm a₀)(i j:Nat):Of a₀ (xs.extract i j):=λk p e=>by
 have e1:(xs.extract i j).toList[k]?=some p:=by rw[Ug];exact e
 have:=Yo e1
 rw[Array.toList_extract,Kj]at this
 exact(Yi.mp h).mem_iff.mp (Wd (Ys this))
def wpS_set{Q:PUnit→SortSt→Prop}{st a9:SortSt}(h:Q ⟨⟩ a9):wpS (model prog w) A E s (set a9:StateT SortSt Sem PUnit) Q st:=by
 unfold wpS;rw[StateT.run_set];exact wpAny_pure ⟨rfl,h⟩
def zfv{i aj:Nat}{Q:Bool→SortSt→Prop}{st:SortSt}(C:Cmp prog w A E s kd a₀)(R:Rn kd a₀ aj st)(hi:i+1 < (pendingOf st).size)(h:∀a9,Rn kd a₀ aj a9→(pendingOf a9).size+1=(pendingOf st).size→Q true a9):wpS (model prog w) A E s (mergeAt' i) Q st:=by
 obtain⟨da,q1,q2,gz,hp,hl⟩:∃da q1 q2 gz,(pendingOf st).toList=da++q1::q2::gz∧da.length=i:=by
  have h1:i<(pendingOf st).toList.length:=by simp;omega
  have h2:i+1<(pendingOf st).toList.length:=by simp;omega
  refine⟨(pendingOf st).toList.take i,(pendingOf st).toList[i],(pendingOf st).toList[i+1],(pendingOf st).toList.drop (i+2),?_,by rw[Zn];omega⟩
  rw[←Kk h2,←Kk h1,Yx]
 have pr:=R.pend
 rw[hp]at pr
 obtain⟨sa,pr1,e1,hA,e2,hB,jc⟩:=pr.split
 obtain⟨ax,na,pw⟩:=q1
 obtain⟨sb',nb,pw2⟩:=q2
 dsimp only at e1 hA e2 hB jc
 subst e1 e2
 have x1:(pendingOf st)[i]?=some (ax,na,pw):=by
  have:(pendingOf st)[i]?=(pendingOf st).toList[i]?:=by simp
  rw[this,hp,←hl];simp
 have x2:(pendingOf st)[i+1]?=some (ax+na,nb,pw2):=by
  have:(pendingOf st)[i+1]?=(pendingOf st).toList[i+1]?:=by simp
  rw[this,hp,←hl];simp
 have hsz:ax+na+nb≤(arrOf st).size:=by
  have:=jc.len
  have:=R.le
  rw[R.perm.size_eq];omega
 have oA:=of_perm R.perm
 have mem:∀j (hj:j<(arrOf st).size),(arrOf st)[j]∈a₀.toList:=λj hj=>oA j _ (getElem?_pos _ j hj)
 have fin:∀(a9:SortSt),kindOf a9=kd→failedOf a9=none→(arrOf a9).Perm a₀→pendingOf a9=((pendingOf st).setIfInBounds i (ax,na+nb,pw)).eraseIdxIfInBounds (i+1)→Q true a9:=by
  intro a9 m3 m4 m5 m6
  have e:(pendingOf a9).toList=da++(ax,na+nb,pw)::gz:=by
   rw[m6]
   have e1:((pendingOf st).setIfInBounds i (ax,na+nb,pw)).toList=da++(ax,na+nb,pw)::(ax+na,nb,pw2)::gz:=by
    rw[Array.toList_setIfInBounds,hp,←hl,List.set_append_right _ _ (Qg _),Nat.sub_self]
    rfl
   rw[Array.toList_eraseIdxIfInBounds,e1,←hl,List.eraseIdx_append_of_length_le (Wp _ _)]
   simp
  refine h a9 ⟨m3,m4,m5,?_,R.le⟩ ?_
  ·rw [e]
   exact pr1.join ⟨rfl,Nat.add_pos_left hA _,by rw[←Nat.add_assoc];exact jc⟩
  ·rw[←Wk,←Wk,e,hp];simp;omega
 unfold mergeAt'
 refine wpS_bind (wpS_get ?_)
 rw[x1,x2]
 dsimp only
 refine wpS_bind (wpS_set ?_)
 have lr:ax+na<(arrOf st).size:=by omega
 refine wpS_bind (zat (getElem?_pos (arrOf st) (ax+na) lr) ?_)
 refine wpS_bind (zck (arr:=arrOf st) (base:=ax) (n:=na) (hint:=0) C R.kind oA (mem _ lr) (by omega) hA λk k1=>?_)
 refine zam (λc1=>wpS_pure (fin _ R.kind R.failed R.perm rfl)) λc1=>?_
 have u3:¬na-k=0:=λz=>c1 (beq_iff_eq.mpr z)
 have hla:ax+k+(na-k)-1<(arrOf st).size:=by omega
 refine wpS_bind (zat (getElem?_pos (arrOf st) (ax+k+(na-k)-1) hla) ?_)
 refine wpS_bind (zck (arr:=arrOf st) (base:=ax+na) (n:=nb) (hint:=nb-1) C R.kind oA (mem _ hla) (by omega) (by omega) λm n1=>?_)
 refine zam (λc2=>wpS_pure (fin _ R.kind R.failed R.perm rfl)) λc2=>?_
 have oq:¬m=0:=λz=>c2 (beq_iff_eq.mpr z)
 have ox:(arrOf st).toList=(arrOf st).toList.take (ax+k)++((((arrOf st).extract (ax+k) (ax+na)).toList++((arrOf st).extract (ax+na) (ax+na+m)).toList)++(arrOf st).toList.drop (ax+na+m)):=by
  rw[←Qu,←Qu,zfp (by omega) (by omega),zfp (by omega) (by omega),Yx]
 have oX:=of_ext R.perm (ax+k) (ax+na)
 have oY:=of_ext R.perm (ax+na) (ax+na+m)
 have zX:0<((arrOf st).extract (ax+k) (ax+na)).size:=by rw[Array.size_extract];omega
 have zY:0<((arrOf st).extract (ax+na) (ax+na+m)).size:=by rw[Array.size_extract];omega
 have done:∀(res:Array Keyed) (a9:SortSt),res.toList.Perm (((arrOf st).extract (ax+k) (ax+na)).toList++((arrOf st).extract (ax+na) (ax+na+m)).toList)→SG (SortSt.mk' (kindOf st) (arrOf st) (((pendingOf st).setIfInBounds i (ax,na+nb,pw)).eraseIdxIfInBounds (i+1)) (gallopOf st) (failedOf st)) a9 →
   wpS (model prog w) A E s (do
    modify λz=>SortSt.mk' (kindOf z) (res.toList.zipIdx.foldl (λ(a:Array Keyed) (q:Keyed×Nat)=>a.setIfInBounds (ax+k+q.2) q.1) (arrOf z)) (pendingOf z) (gallopOf z) (failedOf z)
    let z ←get
    pure (failedOf z).isNone) Q a9:=by
  intro res a9 mg ⟨g,est⟩
  subst est
  refine wpS_bind (wpS_modify (wpS_bind (wpS_get ?_)))
  have mv:failedOf st=none:=R.failed
  show wpS _ _ _ _ (pure (failedOf st).isNone) _ _
  rw[mv]
  refine wpS_pure (fin _ R.kind rfl ?_ rfl)
  have pb:=put_back (sa:=ax+k) res.toList 0 (arrOf st) _ _ _ ox (by rw[Zn,Wk];omega) mg.length_eq.symm
  refine Yi.mpr (List.Perm.trans ?_ (Yi.mp R.perm))
  refine List.Perm.trans (List.Perm.of_eq pb) ?_
  conv=>rhs;rw[ox]
  exact Zy _ (List.Perm.append_right _ mg)
 exact zam (λ_=>wpS_bind (wpS_mergeLo C R.kind oX oY zX zY done)) λ_=>wpS_bind (wpS_mergeHi C R.kind oX oY zX zY done)
end
section
variable{prog:Nj}{w:Nk}{A:No}{E:Na}{s:Nh}{kd:SortKind}{a₀:Array Keyed}
def PL.congr:∀{ps kS:List (Nat×Nat×Nat)} {off:Nat},(ps.map λq=>(q.1,q.2.1))=(kS.map λq=>(q.1,q.2.1))→PL ps off aj→PL kS off aj:=by
 intro ps
 induction ps with
 |nil =>
  intro kS off e h
  cases kS with
  |nil=>exact h
  |cons q r=>cases e
 | cons q ps ih =>
  intro kS off e h
  cases kS with
  |nil=>cases e
  |cons q' r =>
   rw[Ql,Ql]at e
   obtain⟨e1,e2⟩:=List.cons.inj e
   obtain⟨e3,e4⟩:=Uz e1
   exact⟨e3.symm.trans h.1,e4▸h.2.1,ih e2 (e4▸h.2.2)⟩
def map_mod(f:Nat×Nat×Nat→Nat×Nat×Nat)(hf:∀q,((f q).1,(f q).2.1)=(q.1,q.2.1))(l:List (Nat×Nat×Nat))(i:Nat):((l.modify i f).map λq=>(q.1,q.2.1))=l.map λq=>(q.1,q.2.1):=by
 apply List.ext_getElem?
 intro k
 rw[Qt,Qt,List.getElem?_modify]
 cases l[k]? with
 |none=>simp
 |some q =>
  by_cases e:i=k
  ·simp[e];exact Uz (hf q)
  ·simp[e]
def Rn.mod{aj:Nat}{st:SortSt}(R:Rn kd a₀ aj st)(i:Nat)(f:Nat×Nat×Nat→Nat×Nat×Nat)(hf:∀q,((f q).1,(f q).2.1)=(q.1,q.2.1)):Rn kd a₀ aj (setPending st ((pendingOf st).modify i f)) :=
 ⟨R.kind,R.failed,R.perm,by
  show PL ((pendingOf st).modify i f).toList 0 aj
  rw[Array.toList_modify]
  exact R.pend.congr (map_mod f hf _ i).symm,R.le⟩
def zfu{st:SortSt}{Q:Unit→SortSt→Prop}(C:Cmp prog w A E s kd a₀)(hk:kindOf st=kd)(hf:failedOf st=none)(hp:(arrOf st).Perm a₀)(fM:pendingOf st=#[])(h:∀a9,(arrOf a9).Perm a₀→failedOf a9=none→Q () a9):wpS (model prog w) A E s sortRuns' Q st:=by
 have R0:Rn kd a₀ 0 st:=⟨hk,hf,hp,by rw[fM];rfl,Zp _⟩
 rw[sortRuns'_eq]
 refine wpS_bind (wpS_get ?_)
 dsimp -zeta only
 have hz:(arrOf st).size=a₀.size:=hp.size_eq
 rw[hz]
 refine wpS_bind (wpS_mono (wpS_forRange
  (I:=λx c a9=>Ex1 λaj=>Aj3 (c=(none,aj)) (Rn kd a₀ aj a9) (x≤aj))
  (Q:=λc a9=>Ex1 λaj=>Aj3 (c=(none,aj)) (Rn kd a₀ aj a9) (a₀.size≤aj)) ?step ?fin ⟨0,rfl,R0,Zp _⟩) ?post)
 case fin =>
  rintro c a9 ⟨aj,rfl,R,hx⟩
  exact⟨aj,rfl,R,by omega⟩
 case step =>
  rintro x c bj _ hx ⟨aj,rfl,R,oO⟩
  refine zc7 λQ0 bA=>?_
  refine zam (λc0=>wpS_pure (bA _ _ ⟨aj,rfl,R,c0⟩)) λc0=>?_
  have B0:Bs kd a₀ (pendingOf bj) bj:=⟨R.kind,R.failed,rfl,R.perm⟩
  refine wpS_bind (wpS_count (lo:=aj) (nrem:=a₀.size-aj) C (by omega) (by omega) B0 λm bu B2 m1 m2=>?_)
  dsimp -zeta only
  extract_lets -underBinder +onlyGivenNames n0 jp
  have nh:∀(n':Nat) (au:SortSt),1≤n'→aj+n'≤a₀.size→Bs kd a₀ (pendingOf bj) au→wpS (model prog w) A E s (jp () n') Q0 au:=by
   intro n' au l1 l2 B3
   have R3:Rn kd a₀ aj au:=⟨B3.kind,B3.failed,B3.perm,by rw[B3.pend];exact R.pend,R.le⟩
   have push:∀aS,Rn kd a₀ aj aS→Rn kd a₀ (aj+n') (setPending aS ((pendingOf aS).push (aj,n',0))):=λaS R4 =>
    ⟨R4.kind,R4.failed,R4.perm,by show PL ((pendingOf aS).push _).toList 0 _;rw[Jo];exact R4.pend.join ⟨rfl,l1,rfl⟩,l2⟩
   refine wpS_bind (wpS_get ?_)
   extract_lets -underBinder +onlyGivenNames jp2
   have ng:∀aS,Rn kd a₀ aj aS→wpS (model prog w) A E s (jp2 ()) Q0 aS:=λaS R4=>wpS_bind (wpS_modify (wpS_pure (bA _ _ ⟨aj+n',rfl,push aS R4,by omega⟩)))
   cases(pendingOf au).back? with
   |none=>exact ng _ R3
   | some q =>
    obtain⟨s1,n1,o1⟩:=q
    refine wpS_bind (wpS_mono (wpS_forRange (I:=λ_ c aS=>Aj2 (c=(none,())) (Rn kd a₀ aj aS)) (Q:=λc aS=>Aj2 (c=(none,())) (Rn kd a₀ aj aS)) ?istep (λ_ _ z=>z) ⟨rfl,R3⟩) ?ipost)
    case istep =>
     rintro y c aS _ _ ⟨rfl,R4⟩
     refine zc7 λQ1 gL=>wpS_bind (wpS_get ?_)
     dsimp only
     by_cases hs:(pendingOf aS).size>1
     ·rw [if_pos hs,getElem?_pos (pendingOf aS) ((pendingOf aS).size - 2) (by omega)]
      refine zam (λ_=>wpS_pure (gL _ _ ⟨rfl,R4⟩)) λ_=>wpS_bind (zfv C R4 (by omega) λlB R5 _=>?_)
      exact zam (λz=>absurd z (by decide)) λ_=>wpS_pure (gL _ _ ⟨rfl,R5⟩)
     ·rw [if_neg hs]
      exact wpS_pure (gL _ _ ⟨rfl,R4⟩)
    case ipost =>
     rintro c aS ⟨rfl,R4⟩
     exact wpS_bind (wpS_modify (ng _ (R4.mod _ _ λq=>rfl)))
  refine zam (λc1=>?_) λc1=>nh m bu m1 (by omega) B2
  have u3:m<minRun' a₀.size a₀.size 0:=c1
  refine wpS_bind (wpS_lift (wpAny_rule ⟨rfl,?_⟩))
  refine wpS_bind (wpS_binary (lo:=aj) (n:=min (a₀.size-aj) (minRun' a₀.size a₀.size 0)) C (by omega) B2 λau B3=>?_)
  exact zam (λz=>absurd z (by decide)) λ_=>nh _ au (by omega) (by omega) B3
 case post =>
  rintro c bj ⟨aj,rfl,R,hx⟩
  refine wpS_bind (wpS_mono (wpS_forRange (I:=λ_ c aS=>Aj2 (c=(none,())) (Rn kd a₀ aj aS)) (Q:=λc aS=>Aj2 (c=(none,())) (Rn kd a₀ aj aS)) ?istep (λ_ _ z=>z) ⟨rfl,R⟩) ?ipost)
  case istep =>
   rintro y c aS _ _ ⟨rfl,R4⟩
   refine zc7 λQ1 gL=>wpS_bind (wpS_get ?_)
   dsimp only
   refine zam (λ_=>wpS_pure (gL _ _ ⟨rfl,R4⟩)) λhs=>wpS_bind (zfv C R4 ?_ λlB R5 _=>?_)
   ·repeat' split
    all_goals omega
   ·exact zam (λz=>absurd z (by decide)) λ_=>wpS_pure (gL _ _ ⟨rfl,R5⟩)
  case ipost =>
   rintro c aS ⟨rfl,R4⟩
   exact wpS_pure (h aS R4.perm R4.failed)
end
end Tm
end
section
namespace Tm
open PySem PyProof.Rows PySem.W
section
variable{O:KeyOrd}{kf:Nat→O.α}{n:Nat}{s:Nh}{cmp:Nat→Nat→(Bool→Shared→Prop)→Shared→Prop}
def kk(kf:Nat→O.α)(p:Array Nat)(i:Nat):O.α:=kf (p.getD i 0)
def kk_rev{p:Array Nat}{i j:Nat}(hj:j≤p.size)(k:Nat):kk kf (kas_rev p i j) k=if i≤k∧k<j then kk kf p (i+j-1-k) else kk kf p k:=by
 unfold kk kas_rev
 simp only[Wz,getElem?_mirror_all hj k]
 split<;>rfl
def kk_bub(hs:a<p.size)(hd:d≤a)(k:Nat):kk kf (bubble p a d) k=if k=a-d then kk kf p a else if a-d<k∧k≤a then kk kf p (k-1) else kk kf p k:=by
 unfold kk
 simp only[Wz,getElem?_bubble hs d hd k]
 repeat' split
 all_goals rfl
def Up(kf:Nat→O.α)(p:Array Nat)(k:Nat):Prop:=∀i j,i≤j→j<k→O.kle (kk kf p i) (kk kf p j)
def Dn(kf:Nat→O.α)(p:Array Nat)(k:Nat):Prop:=∀i j,i≤j→j<k→O.kle (kk kf p j) (kk kf p i)
def Up.snoc{p:Array Nat}{a:Nat}(h1:1≤a)(h:Up kf p a)(e:O.kle (kk kf p (a-1)) (kk kf p a)):Up kf p (a+1):=λi j cZ hj=>by
 by_cases z:j<a
 ·exact h i j cZ z
 obtain rfl:j=a:=by omega
 by_cases z2:i=j
 ·subst z2;exact Jv _
 ·exact Jb (h i (j-1) (by omega) (by omega)) e
def Dn.snoc{p:Array Nat}{a:Nat}(h1:1≤a)(h:Dn kf p a)(e:O.kle (kk kf p a) (kk kf p (a-1))):Dn kf p (a+1):=λi j cZ hj=>by
 by_cases z:j<a
 ·exact h i j cZ z
 obtain rfl:j=a:=by omega
 by_cases z2:i=j
 ·subst z2;exact Jv _
 ·exact Jb e (h i (j-1) (by omega) (by omega))
structure Ar(n:Nat)(p:Array Nat):Prop where
 sz:p.size=n
 lt:∀i,0<n→p.getD i 0<n
 pm:p.Perm (List.toArray (List.range n))
def Ar.of(h:p.Perm (List.toArray (List.range n))):Ar n p:=by
 have z:p.size=n:=by rw[h.size_eq];simp
 refine⟨z,λi h0=>?_,h⟩
 by_cases hi:i<p.size
 ·have:p[i]∈List.range n:=(Yi.mp h).mem_iff.mp (by simp)
  rw[Wz,getElem?_pos p i hi]
  exact Yh.mp this
 ·rw[Wz,getElem?_neg p i hi];exact h0
def Ar.rev{p:Array Nat}(h:Ar n p)(i j:Nat):Ar n (kas_rev p i j):=.of ((mirror_perm _ _ _ _).trans h.pm)
def Ar.bub(h:Ar n p)(i j:Nat):Ar n (bubble p i j):=.of ((bubble_perm _ _ _).trans h.pm)
variable(h0:0<n)(hc:∀i j C,i<n→j<n→C (O.blt (kf i) (kf j)) s→cmp i j C s)
include h0 hc
theorem t_ask{p:Array Nat}(P:Ar n p){α:Type}{i j:Nat}{k:Bool→KasT α}{Q:α→Shared→Prop}(h1:O.klt (kk kf p i) (kk kf p j)→(k true).kasWp cmp Q s)(h2:O.kle (kk kf p j) (kk kf p i)→(k false).kasWp cmp Q s):(KasT.ask (p.getD i 0) (p.getD j 0) k).kasWp cmp Q s:=by
 refine hc _ _ _ (P.lt _ h0) (P.lt _ h0) ?_
 cases e:O.blt (kf (p.getD i 0)) (kf (p.getD j 0)) with
 |true=>exact h1 e
 |false=>exact h2 e
theorem t_asc(P:Ar n p){Q:Nat→Shared→Prop}:∀(f a:Nat),1≤a→a+f≤n→Up kf p a→(∀m,a≤m→m≤a+f→Up kf p m→(m=a+f∨O.klt (kk kf p m) (kk kf p (m-1)))→Q m s)→(kas_asc p f a).kasWp cmp Q s
 |0,a,_,_,hs,h=>h a (Qg _) (Qg _) hs (.inl rfl)
 |f+1,a,h1,hn,hs,h=>t_ask h0 hc P (λe=>h a (Qg _) (by omega) hs (.inr e)) λe=>t_asc P f (a+1) (by omega) (by omega) (hs.snoc h1 e) λm h2 h3=>h m (by omega) (by omega)|>λq h4 h5=>q h4 (h5.imp (by omega) id)
theorem t_desc{Q:Array Nat×Nat×Nat→Shared→Prop}:∀(f:Nat) (p:Array Nat) (a q:Nat),Ar n p→1≤a→a+f≤n→Dn kf p a→q<a→(∀i,a-(q+1)≤i→i<a→kk kf p i=kk kf p (a-1))→(∀p' m q',Ar n p'→a≤m→m≤a+f→Dn kf p' m→q'<m→(∀i,m-(q'+1)≤i→i<m→kk kf p' i=kk kf p' (m-1))→Q (p',m,q') s)→(kas_desc f p a q).kasWp cmp Q s
 |0,p,a,q,P,_,_,hs,hq,he,h=>h p a q P (Qg _) (Qg _) hs hq he
 | f+1,p,a,q,P,h1,hn,hs,hq,he,h=>by
  have again:∀p',Ar n p'→Dn kf p' (a+1)→∀q'<a+1,(∀i,a+1-(q'+1)≤i→i<a+1→kk kf p' i=kk kf p' (a+1-1))→(kas_desc f p' (a+1) q').kasWp cmp Q s:=λp' P' cw q' fH dY=>t_desc f p' (a+1) q' P' (by omega) (by omega) cw fH dY λp2 m q2 P2 h3 h4=>h p2 m q2 P2 (by omega) (by omega)
  have one:∀(p':Array Nat) (i:Nat),a+1-(0+1)≤i→i<a+1→kk kf p' i=kk kf p' (a+1-1):=λp' i h2 h3=>by rw[show i=a+1-1 by omega]
  refine t_ask h0 hc P (λe=>?_) λe=>?_
  ·rw [if_pos rfl]
   have same:∀k,kk kf (kas_rev p (a-(q+1)) a) k=kk kf p k:=λk=>by
    rw[kk_rev (by rw[P.sz];omega)]
    split
    ·rw[he _ (by omega) (by omega),he k (by omega) (by omega)]
    ·rfl
   split
   ·refine again _ (P.rev _ _) (fun i j cZ hj=>?_) 0 (by omega) (one _)
    rw[same,same]
    exact hs.snoc h1 (Ki e) i j cZ hj
   ·exact again _ P (hs.snoc h1 (Ki e)) 0 (by omega) (one _)
  ·rw [if_neg (by simp)]
   refine t_ask h0 hc P (λe2=>?_) λe2=>?_
   ·rw[if_pos rfl];exact h p a q P (Qg _) (by omega) hs hq he
   ·rw [if_neg (by simp)]
    have eq:=KeyOrd.kle_antisymm e2 e
    refine again _ P (hs.snoc h1 e2) (q+1) (by omega) λi h2 h3=>?_
    rw[Nat.add_sub_cancel]
    by_cases z:i=a
    ·rw[z]
    ·rw[he i (by omega) (by omega),eq]
theorem t_tail(P:Ar n p)(h1:1≤m)(hm:m≤n)(hs:Dn kf p m)(h:∀p' k,Ar n p'→1≤k→k≤n→Up kf p' k→Q (k,p') s):(kas_tail3 m n p).kasWp cmp Q s:=by
 unfold kas_tail3
 rw[Kv]
 refine t_asc h0 hc (P.rev 0 m) _ m h1 (by omega) (λi j cZ hj=>?_) λk h2 h3 h4 _=>h _ k (P.rev 0 m) (by omega) (by omega) h4
 rw[kk_rev (by rw[P.sz];omega),kk_rev (by rw[P.sz];omega),if_pos (by omega),if_pos (by omega)]
 exact hs _ _ (by omega) (by omega)
theorem t_dpart(P:Ar n p)(hm:m+1≤n)(hs:Dn kf p (m+1))(h:∀p' k,Ar n p'→1≤k→k≤n→Up kf p' k→Q (k,p') s):(kas_descPart m n p).kasWp cmp Q s:=by
 unfold kas_descPart
 rw[Kv]
 refine t_desc h0 hc _ p (m+1) 0 P (by omega) (by omega) hs (by omega) (λi h2 h3=>by rw[show i=m+1-1 by omega]) λp' k q P' h2 h3 cw hq he=>?_
 dsimp only
 split
 ·refine t_tail h0 hc (P'.rev _ _) (by omega) (by omega) (fun i j cZ hj=>?_) h
  have same:∀i,kk kf (kas_rev p' (k-(q+1)) k) i=kk kf p' i:=λi=>by
   rw[kk_rev (by rw[P'.sz];omega)]
   split
   ·rw[he _ (by omega) (by omega),he i (by omega) (by omega)]
   ·rfl
  rw[same,same]
  exact cw i j cZ hj
 ·exact t_tail h0 hc P' (by omega) (by omega) cw h
theorem t_count(P:Ar n p){Q:Nat×Array Nat→Shared→Prop}(h:∀p' k,Ar n p'→1≤k→k≤n→Up kf p' k→Q (k,p') s):(kas_count n p).kasWp cmp Q s:=by
 unfold kas_count
 rw[Kv]
 refine t_asc h0 hc P _ 1 (Qg _) (by omega) (λi j cZ hj=>by rw[show i=j by omega];exact Jv _) λm h1 h2 hs i9=>?_
 split
 ·exact h p m P h1 (by omega) hs
 rename_i aJ
 have mK:m≠n:=by simpa using aJ
 have ad:=i9.resolve_left (by omega)
 split
 ·refine t_ask h0 hc P (fun _=>?_) fun e=>?_
  ·rw[if_pos rfl];exact h p m P h1 (by omega) hs
  ·rw [if_neg (by simp)]
   have all:∀k,k<m→kk kf p k=kk kf p (m-1):=λk hk=>KeyOrd.kle_antisymm (hs k (m-1) (by omega) (by omega)) (Jb e (hs 0 k (by omega) hk))
   have same:∀k,kk kf (kas_rev p 0 m) k=kk kf p k:=λk=>by
    rw[kk_rev (by rw[P.sz];omega)]
    split
    ·rw[all _ (by omega),all k (by omega)]
    ·rfl
   refine t_dpart h0 hc (P.rev 0 m) (by omega) (Dn.snoc h1 (λi j cZ hj=>?_) (by rw[same,same];exact Ki ad)) h
   rw[same,same,all i (by omega),all j hj]
   exact Jv _
 ·obtain rfl:m=1:=by omega
  exact t_dpart h0 hc P (by omega) (Dn.snoc (Qg _) (λi j cZ hj=>by rw[show i=j by omega];exact Jv _) (Ki ad)) h
theorem t_place{k:Nat}(P:Ar n p)(hs:Up kf p k){Q:Nat→Shared→Prop}:∀(f l r:Nat),l≤r→r≤k→r-l≤f→(∀i,i<l→O.kle (kk kf p i) (kk kf p k))→(∀i,r≤i→i<k→O.klt (kk kf p k) (kk kf p i))→(∀l,l≤k→(∀i,i<l→O.kle (kk kf p i) (kk kf p k))→(∀i,l≤i→i<k→O.klt (kk kf p k) (kk kf p i))→Q l s)→(kas_place p k f l r).kasWp cmp Q s
 |0,l,r,h1,h2,h3,h4,h5,h=>h l (by omega) h4 λi q=>h5 i (by omega)
 | f+1,l,r,h1,h2,h3,h4,h5,h=>by
  unfold kas_place
  split
  ·exact h l (by omega) h4 λi q=>h5 i (by omega)
  ·refine t_ask h0 hc P (fun e=>?_) fun e=>?_
   ·rw [if_pos rfl]
    exact t_place P hs f l _ (by omega) (by omega) (by omega) h4 (λi q1 q2=>KeyOrd.klt_of_klt_of_kle e (hs _ _ q1 q2)) h
   ·rw [if_neg (by simp)]
    exact t_place P hs f _ r (by omega) h2 (by omega) (λi q=>Jb (hs i ((l+r)/2) (by omega) (by omega)) e) h5 h
theorem t_bin(h:∀p,Ar n p→Up kf p n→Q p s):∀(f:Nat) (p:Array Nat) (k:Nat),Ar n p→Up kf p k→k+f=n→(kas_bin f p k).kasWp cmp Q s
 |0,p,k,P,hs,e=>h p P (by rwa[←e])
 | f+1,p,k,P,hs,e=>by
  unfold kas_bin
  rw[Kv]
  refine t_place h0 hc P hs k 0 k (by omega) (by omega) (by omega) (λi q=>absurd q (by omega)) (λi q1 q2=>absurd q2 (by omega)) λl hl hlo hhi=>t_bin h f _ (k+1) (P.bub _ _) (λi j cZ hj=>?_) (by omega)
  have hk:k<p.size:=by rw[P.sz];omega
  rw[kk_bub hk (by omega),kk_bub hk (by omega),show k-(k-l)=l by omega]
  repeat' split
  all_goals first
   |(exfalso;omega)
   |exact Jv _
   |exact hlo _ (by omega)
   |exact Ki (hhi _ (by omega) (by omega))
   |exact hs _ _ (by omega) (by omega)
theorem t_sort(h:∀p,Ar n p→Up kf p n→Q p s):(kas_sort n).kasWp cmp Q s:=by
 unfold kas_sort
 rw[Kv]
 refine t_count h0 hc (.of (Array.Perm.refl _)) λp k P h1 h2 hs=>?_
 dsimp only
 split
 ·exact t_bin h0 hc h _ p _ P (by rwa[Nat.max_eq_left h1]) (by omega)
 ·exact h p P (by rwa[show k=n by omega]at hs)
end
open AutoSeq1 (wpAny_loadPart')
open MeetsSeq MeetsSeq2 MeetsSeq3 SeqRoads2
section
variable{prog:Nj}{w:Nk}{A:No}{E:Na}{s:Nh}{R:List Value→Prop}{vs:Ni}
structure zb6(prog:Nj)(w:Nk)(A:No)(E:Na)(s:Nh)(R:List Value→Prop)(vs:Ni):Prop where
 few:vs.length<2→R vs
 go:2≤vs.length→∃kd:SortKind,(∀Q:SortKind→Shared→Prop,Q kd s→wpAny (model prog w) A (keyKind' vs.toArray) Q E s) ∧
  ∀Q:Unit→SortSt→Prop,(∀a9,(arrOf a9).Perm (pairsOf vs)→failedOf a9=none→R ((arrOf a9).toList.map (·.2))→Q () a9)→wpS (model prog w) A E s sortRuns' Q (SortSt.mk' kd (vs.toArray.zip vs.toArray) #[] 7 none)
def zdp(vs:Ni):(pairsOf vs).toList=vs.map λv=>(v,v):=by
 rw[pairsOf_toList]
 induction vs with
 |nil=>rfl
 |cons v r ih=>rw[List.zip_cons_cons,Ql,ih]
def perm_back{l:List Keyed}{vs:Ni}(h:l.Perm (vs.map λv=>(v,v))):(l.map (·.2)).Perm vs:=by
 have:=h.map (·.2)
 rwa[Zr,show((λ(p:Keyed)=>p.2)∘λv=>(v,v))=id from rfl,List.map_id]at this
def cmp_of{kd:SortKind}(h:∀x y,x∈vs→y∈vs→∀(Q:Bool→Shared→Prop) (E':Value→Shared→Prop),(∀b,Q b s)→wpAny (model prog w) A (keyLt' kd x y) Q E' s):Cmp prog w A E s kd (pairsOf vs):=by
 intro x y st Q hx hy hk q
 rw[zdp]at hx hy
 obtain⟨v,hv,rfl⟩:=Qm.mp hx
 obtain⟨u,hu,rfl⟩:=Qm.mp hy
 rw[lt'_eq]
 refine wpS_bind (wpS_get ?_)
 rw[hk]
 refine wpS_bind (wpS_lift (wpAny_attempt (h v u hv hu _ _ λb=>⟨rfl,?_⟩)))
 exact wpS_pure (q b)
def zb6.any(h:2≤vs.length→∃kd:SortKind,(∀Q:SortKind→Shared→Prop,Q kd s→wpAny (model prog w) A (keyKind' vs.toArray) Q E s)∧∀x y,x∈vs→y∈vs→∀(Q:Bool→Shared→Prop) (E':Na),(∀b,Q b s)→wpAny (model prog w) A (keyLt' kd x y) Q E' s):zb6 prog w A E s (λ_=>True) vs :=
 ⟨fun _=>trivial,fun h2=>by
  obtain⟨kd,a1,a2⟩:=h h2
  exact⟨kd,a1,λQ q=>zfu (cmp_of a2) rfl rfl (Array.Perm.refl _) rfl λa9 p1 p2=>q a9 p1 p2 trivial⟩⟩
def zb6.ord{O:KeyOrd}{kv:Value→O.α}(h:2≤vs.length→∃ kd:SortKind,(∀ Q:SortKind→Shared→Prop,Q kd s→wpAny (model prog w) A (keyKind' vs.toArray) Q E s)∧∀ x y,x∈vs→y∈vs→∀ (Q:Bool→Shared→Prop) (E':Na),Q (O.blt (kv x) (kv y)) s→wpAny (model prog w) A (keyLt' kd x y) Q E' s):zb6 prog w A E s (fun ws=>vs.length < 64→ws.Pairwise fun x y=>O.kle (kv x) (kv y)) vs:=by
 refine⟨λh2 _=>?_,λh2=>?_⟩
 ·obtain _ | ⟨v,_ | ⟨v',r⟩⟩:=vs
  ·exact List.Pairwise.nil
  ·exact Yz _ _
  ·exact absurd h2 (by simp)
 obtain⟨kd,a1,a2⟩:=h h2
 refine⟨kd,a1,λQ q=>?_⟩
 by_cases pE:vs.length<64
 ·have at_:∀ i,i < vs.length→vs.getD i .none∈vs:=fun i hi=>by
   rw[Qy,Qc hi]
   exact Qp hi
  have st0:SortSt.mk' kd (vs.toArray.zip vs.toArray) #[] 7 none=kas_st kd (pairsOf vs) (List.toArray (List.range vs.length)):=by
   unfold kas_st
   rw[←pairsOf_size vs,kas_range]
   rfl
  rw[st0]
  refine kas_runs (κ:=kd) (it:=pairsOf vs) (E:=E) (Q:=λr st s'=>s'=s∧Q r st) (G:=λp s'=>Aj3 (s'=s) (Ar vs.length p) (Up (O:=O) (λi=>kv (vs.getD i .none)) p vs.length)) h2 pE (λp a9 s' hz ha hf ⟨hs,P,U⟩=>⟨hs,q a9 ?_ hf λ_=>?_⟩) (t_sort (O:=O) (kf:=λi=>kv (vs.getD i .none)) (by omega) (λi j C hi hj hC=>?_) λp P U=>⟨rfl,P,U⟩)
  ·have:=(Yi.mp P.pm).map (kas_item (pairsOf vs))
   rw[←Kz,←Kz,←pairsOf_size vs,kas_range]at this
   rw[ha]
   exact Yi.mpr this
  ·rw [ha,Kz,Zr,Ux,Uh]
   intro i j hi hj cZ
   have e:∀k (hk:k<p.toList.length),kv ((kas_item (pairsOf vs) p.toList[k]).2)=kk (λi=>kv (vs.getD i .none)) p k:=λk hk=>by
    unfold kk
    rw[kas_item_eq,Wz,getElem?_pos p k (by simpa using hk)]
    rfl
   show O.kle (kv _) (kv _)
   dsimp only[Function.comp]
   rw[e i hi,e j hj]
   exact U i j (Ww cZ) (by simpa[P.sz] using hj)
  ·unfold kas_cmp
   rw[kas_item_eq,kas_item_eq]
   exact a2 _ _ (at_ i hi) (at_ j hj) _ _ hC
 ·exact zfu (cmp_of λx y hx hy Q' E' q'=>a2 x y hx hy Q' E' (q' _)) rfl rfl (Array.Perm.refl _) rfl λa9 p1 p2=>q a9 p1 p2 λz=>absurd z pE
abbrev strO:KeyOrd:=strKind.toKeyOrd
def kvS(v:Value):List Nat:=(strOf v).cps.toList
def zeb(hv:∀v∈vs,∃x t,v=.str x t):zb6 prog w A E s (λws=>vs.length<64→ws.Pairwise λx y=>strO.kle (kvS x) (kvS y)) vs:=by
 refine .ord λh2=>⟨oneType',λQ q=>kas_kind (T:=.type "str") h2 (λv hm=>?_) (by decide) (by decide) q,λx y hx hy Q E' q=>?_⟩
 ·obtain ⟨x,t,rfl⟩:=hv v hm
  exact Looks.of_pure rfl
 ·obtain ⟨a,t,rfl⟩:=hv x hx
  obtain⟨b,u,rfl⟩:=hv y hy
  rw[keyLt'_oneType]
  exact oneLt_str q
def sort_list{a:Nd}{n:Nat}{P:Fin→Shared→Prop}(ho:s.heap.get? a=some (seqObj "list" vs.toArray n))(hz:vs.length≤sizeLine)(hS:∀s':Shared,(∀b o,b≠a→s.heap.get? b=some o→s'.heap.get? b=some o)→zb6 prog w A E s' R vs)(h:∀ws:List Value,ws.Perm vs→R ws→P (.done (.ret .none)) {s with heap:=sortedHeap s.heap a vs ws.toArray}) :
  wpAny (model prog w) A (Builtin.«list.sort» ⟨[.ref a],[]⟩) P E s:=by
 have lt:a<s.heap.objs.size:=Qr ho
 rw[list_sort_plain]
 refine wpAny_bind (listItems_at ho rfl (wpAny_bind (listUpdate_at ho rfl ?_ (hsz:=by simpa using hz) (hsz2:=by simp))))
 obtain⟨e1,k1⟩:∃e,(s.heap.update a (Obj.mapSeq λ_=>#[])).get? a=some (seqObj "list" #[] e):=⟨_,get?_update_seq ho λ_=>#[]⟩
 refine wpAny_bind (seqEpoch_at k1 rfl (wpAny_bind (wpAny_newTuple (wpAny_bind (wpAny_newList (wpAny_holding ?_))))))
 show wpAny (model prog w) A _ P E {s with heap:=((s.heap.update a (Obj.mapSeq λ_=>#[])).push (seqObj "tuple" vs.toArray 0)).push (seqObj "list" #[] 0)}
 generalize hg:((s.heap.update a (Obj.mapSeq λ_=>#[])).push (seqObj "tuple" vs.toArray 0)).push (seqObj "list" #[] 0)=g
 have k6:g.get? a=some (seqObj "list" #[] e1):=by
  rw[←hg]
  exact Qf _ (Qf _ k1)
 have kk:∀b o,b≠a→s.heap.get? b=some o→g.get? b=some o:=λb o hb e=>by
  rw[←hg]
  exact Qf _ (Qf _ ((Yd s.heap _ (Zi hb)).trans e))
 have eh:∀out,sortedHeap s.heap a vs out=g.update a (Obj.mapSeq λ_=>out):=λout=>by rw[←hg];rfl
 have S:=hS {s with heap:=g} kk
 dsimp only
 have fin:∀(l:Array Keyed),l.toList.Perm (vs.map λv=>(v,v))→R (l.toList.map (·.2))→P (.done (.ret .none)) {s with heap:=g.update a (Obj.mapSeq λ_=>l.map (·.2))}:=λl p1 p2=>by
  have:=h _ (perm_back p1) p2
  rw[eh]at this
  rw[show l.map (·.2)=(l.toList.map (·.2)).toArray by rw[←Kz]]
  exact this
 have lz:vs.toArray.size=vs.length:=Qq
 have szOk:∀l:Array Keyed,l.toList.Perm (vs.map λv=>(v,v))→(l.map (·.2)).size≤sizeLine+1:=λl p1=>by
  rw[Array.size_map,←Wk,p1.length_eq,Qa];exact zar16 ‹_›
 by_cases few:vs.toArray.size<2
 ·rw [if_pos few,if_pos few]
  refine wpAny_bind (wpAny_pure ?_)
  rw[StateT.run_pure]
  have pr:(pairsOf vs).toList.Perm (vs.map λv=>(v,v)):=by rw[zdp]
  refine wpAny_bind (wpAny_pure (wpAny_bind (seqEpoch_at k6 rfl (wpAny_bind (listUpdate_at k6 rfl ?_ (hsz:=by simp) (hsz2:=szOk (pairsOf vs) pr))))))
  simp only[bne_self_eq_false,Kg,if_false]
  refine wpAny_pure (fin (pairsOf vs) pr ?_)
  rw[zdp,Zr,show((λ(p:Keyed)=>p.2)∘λv=>(v,v))=id from rfl,List.map_id]
  exact S.few (by rw[←lz];exact few)
 ·rw [if_neg few,if_neg few]
  obtain⟨kd,ask,C⟩:=S.go (by omega)
  refine wpAny_bind (ask _ ?_)
  refine wpAny_bind (wpAny_mono (C (λ_ a9=>Aj3 ((arrOf a9).Perm (pairsOf vs)) (failedOf a9=none) (R ((arrOf a9).toList.map (·.2)))) λa9 p1 p2 p3=>⟨p1,p2,p3⟩) ?_ λ_ _ e=>e)
  rintro⟨⟨⟩,a9⟩ s' ⟨rfl,p1,p2,p3⟩
  have pr:(arrOf a9).toList.Perm (vs.map λv=>(v,v)):=by rw[←zdp];exact Yi.mp p1
  dsimp only
  refine wpAny_bind (seqEpoch_at k6 rfl (wpAny_bind (listUpdate_at k6 rfl ?_ (hsz:=by simp) (hsz2:=szOk (arrOf a9) pr))))
  rw[p2]
  simp only[bne_self_eq_false,Kg,if_false]
  exact wpAny_pure (fin _ pr p3)
def zeu{x:Value}{G:List Value→Prop}{R:List Value→List Value→Prop}{Q:Na}(tD:∀(E':Na) (R:List Value→Shared→Prop),(∀(g:Nm) (tk:Nat) (vs:Ni),(∀b o,s.heap.get? b=some o→g.get? b=some o)→s.heap.objs.size≤g.objs.size→G vs→R vs {s with heap:=g,toks:=tk})→wpAny (model prog w) A.in1 (collect x) R E' s)(hz:∀vs,G vs→vs.length≤sizeLine)(hS:∀vs,G vs→∀(A':Around) (E':Value→Shared→Prop) (s':Shared),A'.units≤A.units+8→(∀b o,s.heap.get? b=some o→s'.heap.get? b=some o)→zb6 prog w A' E' s' (R vs) vs)(h:∀(vs ws:Ni) (l:Nd) (g:Nm) (tk e:Nat),G vs→ws.Perm vs→R vs ws→s.heap.objs.size≤l→(∀b o,s.heap.get? b=some o→g.get? b=some o)→g.get? l=some (seqObj "list" ws.toArray e)→Q (.ref l) {s with heap:=g,toks:=tk}) :
  wpAny (model prog w) A (call (.builtin "sorted") [x]) Q E s:=by
 refine Calls.call_function_entry kind_sorted plain_sorted entry_sorted (args_sorted1 _) ?_
 unfold Builtin.«sorted»
 refine wpAny_bind (m:=checkCount "sorted" 1 1 _) (wpAny_pure (wpAny_bind (tD _ _ λg tk vs kg le hG=>?_)))
 have hzv:=hz vs hG
 refine wpAny_bind (wpAny_newList ?_ (hsz:=hzv))
 have o1:(g.push (seqObj "list" vs.toArray 0)).get? g.objs.size=some (seqObj "list" vs.toArray 0):=Qw _ rfl
 show wpAny _ _ _ _ _ {s with heap:=g.push (seqObj "list" vs.toArray 0),toks:=tk}
 refine wpAny_bind (wpAny_holding (wpAny_call_entry slot_list_sort ⟨_,o1,rfl⟩ entry_list_sort (sort_list (R:=R vs) o1 hzv (λs' k=>hS vs hG _ _ s' ?_ λb o e=>k b o (λz=>?_) (Qf _ (kg b o e))) λws p1 p2=>⟨_,rfl,?_⟩) (args_list_sort _)))
 ·show A.units+1+1≤A.units+8
  omega
 ·have lt:b < g.objs.size:=Qr (kg b o e)
  rw[z]at lt
  exact absurd lt (Ym _)
 ·obtain ⟨e,he⟩:=sortedHeap_at (out:=ws.toArray) o1
  refine wpAny_pure ⟨_,rfl,h vs ws _ _ _ e hG p1 p2 le (λb o q=>?_) he⟩
  have lt:b<g.objs.size:=Qr (kg b o q)
  rw[sortedHeap_old (Zj lt) (by rw[size_push'];exact Ul lt)]
  exact Qf _ (kg b o q)
def zgp{T:String}{r d:Nd}{n:Nat}{P:Nat→Value→Prop}{OK:Heap→Prop}{R:List Value→Shared→Prop}(K:KdlSrc prog w T r d n P OK)(hh:A.handled=none)(ok:OK s.heap)(hn:n≤sizeLine)(h:∀(g:Nm) (tk:Nat) (ae:Array Value),(∀b o,s.heap.get? b=some o→g.get? b=some o)→s.heap.objs.size≤g.objs.size→ItemsOf P ae n→R ae.toList {s with heap:=g,toks:=tk}) :
  wpAny (model prog w) A (collect (.ref r)) R E s:=by
 have there:=K.there _ ok
 unfold collect
 refine wpAny_bind (wpAny_runValue (codeAny_builtin entry_proto_collect' ?_))
 rw[Wi PySem.F.plain_proto_collect _]
 show wpAny _ A.in1 (newList [] >>= λl =>
  again (.builtin "list.__iadd__" ⟨[l,.ref r],[]⟩)) _ _ s
 refine wpAny_bind (wpAny_newObj_type (wpAny_pure ⟨plainId_quiet PySem.F.plain_list_iadd _,codeAny_builtin entry_list_iadd' ?_⟩))
 rw[Wi PySem.F.plain_list_iadd _]
 show wpAny _ A.in1 (Builtin.List.listExtendWith (.ref s.heap.objs.size)
  (.ref r) (.ref s.heap.objs.size)) _ _ _
 have kM:(s.heap.push {cls:=.type "list",data:=.seq ([]:List Value).toArray}).get? s.heap.objs.size=some {cls:=.type "list",data:=.seq #[]}:=Qw _ rfl
 refine wpAny_mono (kdl_extend (A:=A) (s:={s with heap:=s.heap.push {cls:=.type "list",data:=.seq ([]:List Value).toArray}})
  (R:=fun (q:Result) (s':Nh)=>∃ (g:Nm) (tk:Nat) (ae:Array Value) (c:Nat),q=.ok (.ret (.ref s.heap.objs.size))∧s'={ s with heap:=g,toks:=tk } ∧
   (∀b o,s.heap.get? b=some o→g.get? b=some o)∧g.get? s.heap.objs.size=some {cls:=.type "list",dict:=none,data:=.seq ae c,slots:=#[]}∧ItemsOf P ae n)
  K hh (K.keep _ _ ok λb _ o e=>Qf _ e) s.heap.objs.size (Yq there.1) (Yq there.2) (.ref s.heap.objs.size) 0 kM
  (λg tk ae c hk hS ha=>⟨g,tk,ae,c,rfl,rfl,λb o e=>hk b o (Zj (Qr e)) (Qf _ e),hS,ha⟩) hn) (λfin s' x=>?_) λe s' x=>?_
 ·cases fin with
  |done f =>
   obtain⟨g,tk,ae,c,e,rfl,hk,hS,ha⟩:=x
   cases e
   show wpAny _ A (load s.heap.objs.size >>= _) _ _ _
   exact wpAny_bind (wpAny_load hS (wpAny_pure (h g tk ae hk (Ww (Qr hS)) ha)))
  |again c1 =>
   refine⟨x.1,codeAny_mono x.2 λq s2 y=>?_⟩
   obtain⟨g,tk,ae,c,rfl,rfl,hk,hS,ha⟩:=y
   show wpAny _ A (load s.heap.objs.size >>= _) _ _ _
   exact wpAny_bind (wpAny_load hS (wpAny_pure (h g tk ae hk (Ww (Qr hS)) ha)))
 ·obtain ⟨_,_,_,_,e',_⟩:=x
  cases e'
def sorted_any{Q:Na}(hl:s.heap.IsList l vs.toArray)(hz:vs.length≤sizeLine)(hS:∀(A':Around) (E':Value→Shared→Prop) (s':Shared),A'.units≤A.units+8→(∀b o,s.heap.get? b=some o→s'.heap.get? b=some o)→zb6 prog w A' E' s' R vs)(h:∀(ws:Ni) (l:Nd) (g:Nm) (tk e:Nat),ws.Perm vs→R ws→s.heap.objs.size≤l→(∀b o,s.heap.get? b=some o→g.get? b=some o)→g.get? l=some (seqObj "list" ws.toArray e)→Q (.ref l) {s with heap:=g,toks:=tk}) :
  wpAny (model prog w) A (call (.builtin "sorted") [.ref l]) Q E s :=
 zeu (G:=λus=>us=vs) (R:=λ_=>R) (λE' R' hR=>collect_list hl (hR _ _ _ (λb o e=>(Yd _ _ (Zi (Zj (Qr e)))).trans (Qf _ e)) (by rw[Heap.size_update,size_push'];exact Jk _) rfl) hz) (λus e=>e▸hz) (λus e=>e▸hS) λus ws l g tk e e' p1 p2=>h ws l g tk e (e'▸p1) p2
end
def str_ext{a b:Str}(h:a.cps.toList=b.cps.toList):a=b:=by
 cases a;cases b
 exact congrArg _ (Xa.mp h)
def str_ne{a b:Str}(h:¬a=b):¬a.cps.toList=b.cps.toList:=λq=>h (str_ext q)
def pairO(O P:KeyOrd):KeyOrd where
 α:=O.α×P.α
 blt a b:=O.blt a.1 b.1||(!O.blt b.1 a.1&&P.blt a.2 b.2)
 irrefl a:=by rw[O.irrefl,P.irrefl];rfl
 trans a b c h1 h2:=by
  simp only[Bool.or_eq_true,Jq,Jn]at *
  rcases h1 with h1 | ⟨n1,h1⟩
  ·rcases h2 with h2 | ⟨n2,h2⟩
   ·exact .inl (O.trans _ _ _ h1 h2)
   ·exact .inl (KeyOrd.klt_of_klt_of_kle h1 n2)
  ·rcases h2 with h2 | ⟨n2,h2⟩
   ·exact .inl (KeyOrd.klt_of_kle_of_klt n1 h2)
   ·exact .inr ⟨Jb n1 n2,P.trans _ _ _ h1 h2⟩
 negTrans a b c h:=by
  simp only[Bool.or_eq_true,Jq,Jn]at *
  rcases h with h | ⟨n,h⟩
  ·rcases O.negTrans _ b.1 _ h with q | q
   ·exact .inl (.inl q)
   ·exact .inr (.inl q)
  ·cases e1:O.blt a.1 b.1 with
   |true=>exact .inl (.inl rfl)
   | false =>
    cases e2:O.blt b.1 c.1 with
    |true=>exact .inr (.inl rfl)
    |false =>
     have n1:O.blt b.1 a.1=false:=Jb (O:=O) (a:=a.1) (b:=c.1) (c:=b.1) n e2
     have n2:O.blt c.1 b.1=false:=Jb (O:=O) (a:=b.1) (b:=a.1) (c:=c.1) e1 n
     rcases P.negTrans _ b.2 _ h with q | q
     ·exact .inl (.inr ⟨n1,q⟩)
     ·exact .inr (.inr ⟨n2,q⟩)
 total a b h1 h2:=by
  simp only[Bool.or_eq_false_iff,Bool.and_eq_false_iff,Bool.not_eq_false']at *
  have e1:=O.total _ _ h1.1 h2.1
  obtain⟨a1,a2⟩:=a
  obtain⟨b1,b2⟩:=b
  simp only at e1 h1 h2
  subst e1
  have i:=O.irrefl a1
  rw[i]at h1 h2
  have p1:P.blt a2 b2=false:=h1.2.elim (λz=>by cases z) id
  have p2:P.blt b2 a2=false:=h2.2.elim (λz=>by cases z) id
  rw[P.total _ _ p1 p2]
def zib(h:Nm):Value→List Value
 | .ref a=>match h.get? a with
  |some o=>match o.data with
   |.seq xs _=>xs.toList
   |_=>[]
  |none=>[]
 |_=>[]
def itemsAt_ref(e:h.get? a=some o)(d:o.data=.seq xs n):zib h (.ref a)=xs.toList:=by
 unfold zib
 dsimp only
 rw[e]
 dsimp only
 rw[d]
def kvP(h:Nm)(v:Value):List Nat×List Nat:=(kvS ((zib h v).getD 0 .none),kvS ((zib h v).getD 1 .none))
def zfn(h:Nm)(v:Value)(x:Str)(q:Value):Prop:=∃a o t n,v=.ref a∧h.get? a=some o∧o.cls=.type "tuple" ∧ o.data=.seq #[.str x t,q] n
def zfn.key(p:zfn h v x q):kvP h v=(x.cps.toList,kvS q):=by
 obtain⟨a,o,t,n,rfl,e,c,d⟩:=p
 unfold kvP
 rw[itemsAt_ref e d]
 rfl
theorem katTups(k:∀b o,h.get? b=some o→s.get? b=some o):∀(vs:Ni),(∀v∈vs,∃x q,zfn h v x q)→∃fs,KatTups s vs fs∧fs.length=vs.length∧∀f∈fs,∃x t,f=.str x t
 |[],_=>⟨[],.nil,rfl,λf hf=>by cases hf⟩
 |v::vs,hv=>by
  obtain⟨fs,h1,h2,h3⟩:=katTups k vs λu hu=>hv u (Qi _ hu)
  obtain⟨x,q,a,o,t,n,rfl,e,c,d⟩:=hv v Qe
  refine⟨.str x t::fs,.cons (k _ _ e) c d rfl h1,by rw[Zf,Zf,h2],λf hf=>?_⟩
  rcases Qh.mp hf with z | z
  ·exact⟨x,t,z⟩
  ·exact h3 f z
section
variable{prog:Nj}{w:Nk}{A:No}{E:Na}{s:Nh}{vs:Ni}{h:Nm}
def kind_tups(k:∀b o,h.get? b=some o→s.heap.get? b=some o)(hv:∀v∈vs,∃x q,zfn h v x q)(h2:2≤vs.length)(q:Q (tuples' true) s):wpAny (model prog w) A (keyKind' vs.toArray) Q E s:=by
 obtain⟨fs,h1,h3,h4⟩:=katTups k vs hv
 refine kat_kind (T:=.type "str") h1 (by omega) (λf hf=>?_) (by decide) q
 obtain⟨x,t,rfl⟩:=h4 f hf
 exact Looks.of_pure rfl
def blt_p:(pairO strO strO).blt (x,y) (x',y')=if x=x' then decide (y<y') else decide (x<x'):=by
 show(decide (x<x')||(!decide (x'<x)&&decide (y<y')))=_
 split
 ·rename_i e
  subst e
  rw[decide_eq_false (Wh x)];rfl
 ·rename_i ne
  by_cases h1:x<x'
  ·rw[decide_eq_true h1];rfl
  ·rw[decide_eq_false h1,decide_eq_true (Km λh2=>ne (strO.total _ _ (decide_eq_false h1) (decide_eq_false h2)))];rfl
def zea(k:∀ b o,h.get? b=some o→s.heap.get? b=some o)(hv:∀ v∈vs,∃ x q,zfn h v x q)(hd:∀ v∈vs,∀ u∈vs,∀ x p q,zfn h v x p→zfn h u x q→v=u∨∃ y t y' t',p=.str y t∧q=.str y' t'):zb6 prog w A E s (fun ws=>vs.length < 64→ws.Pairwise fun x y=>(pairO strO strO).kle (kvP h x) (kvP h y)) vs:=by
 refine .ord λh2=>⟨tuples' true,λQ q=>kind_tups k hv h2 q,λv v' hx hy Q E' q=>?_⟩
 have same:=hd v hx v' hy
 obtain⟨x,z,p⟩:=hv v hx
 obtain⟨x',z',p'⟩:=hv v' hy
 have P:=p
 have P':=p'
 rw[P.key,P'.key,blt_p]at q
 obtain⟨a,o,t,n,rfl,e,c,d⟩:=p
 obtain⟨a',o',t',n',rfl,e',c',d'⟩:=p'
 refine kat_lt (k _ _ e) d (k _ _ e') d' ?_
 show KatLex _ _ _ _ _ _ [(Value.str x t,Value.str x' t'),(z,z')] 0 s
 refine kat_cons (wpAny_eqBool_str ?_)
 by_cases ex:x=x'
 ·subst ex
  rw[if_pos rfl]at q
  rw[decide_eq_true rfl]
  refine kat_yes (kat_cons ?_)
  rcases same x z z' P P' with e2 | ⟨y,u,y',u',rfl,rfl⟩
  ·cases e2
   rw[e]at e'
   cases e'
   rw[d]at d'
   have d2:(#[Value.str x t,z]:Array Value)=#[Value.str x t',z']:=by injection d'
   have d3:z=z':=by
    have:=congrArg (λa:Array Value=>a[1]?) d2
    simpa using this
   subst d3
   rw[decide_eq_false (Wh _)]at q
   exact SeqAt.EqAt.same z _ _ _ _ (kat_yes (kat_nil q))
  ·refine wpAny_eqBool_str ?_
   by_cases ey:y=y'
   ·subst ey
    rw[show kvS (Value.str y u')=kvS (Value.str y u) from rfl,decide_eq_false (Wh _)]at q
    rw[decide_eq_true rfl]
    exact kat_yes (kat_nil q)
   ·rw [decide_eq_false ey]
    exact kat_no (kat_one _ _ (lt_str q))
 ·rw [decide_eq_false ex]
  rw[if_neg (str_ne ex)]at q
  exact kat_no (oneLt_str q)
end
def lt_loopAt(l b:Nd)(xs ys:List (Str×Tok))(n n2:Nat)(k:Nat) :
  ∀ i:Nat,min xs.length ys.length - i=k→i≤min xs.length ys.length→Meets (Builtin.«list.__eq__.loop» ⟨[.ref l,.ref b,rawInt i,rawInt 0],[]⟩)
   (fun A R s=>s.heap.get? l=some { cls:=.type "list",data:=.seq (strValues xs).toArray n }∧s.heap.get? b=some { cls:=.type "list",data:=.seq (strValues ys).toArray n2 } ∧
    ∀z,R (.ok (.ret (.bool z))) s):=by
 have get:∀(zs:List (Str×Tok)) (i:Nat),(strValues zs).toArray[((i:Nat):Int).toNat]?=zs[i]?.map λp=>Value.str p.1 p.2:=λzs i=>by
  simp[strValues]
 induction k with
 | zero =>
  intro i hk dm prog w A R s h
  obtain⟨hp,g,d,tk,os⟩:=s;obtain⟨hl,hb,h⟩:=h
  wp_walk using wpAny_loadPart' hl,wpAny_loadPart' hb
  rw[get,get]
  by_cases hx:i<xs.length
  ·have hy:ys[i]?=none:=by simp;lia
   rw[hy,Qc hx]
   dsimp only[Option.map_some,Option.map_none]
   wp_walk using wpAny_loadPart' hl,wpAny_loadPart' hb
   exact h _
  ·have bE:xs[i]?=none:=by simp;lia
   rw[bE]
   dsimp only[Option.map_some,Option.map_none]
   wp_walk using wpAny_loadPart' hl,wpAny_loadPart' hb
   exact h _
 | succ k ih =>
  intro i hk dm prog w A R s h
  obtain⟨hp,g,d,tk,os⟩:=s;obtain⟨hl,hb,h⟩:=h
  wp_walk using wpAny_loadPart' hl,wpAny_loadPart' hb
  have hx:i<xs.length:=by lia
  have hy:i<ys.length:=by lia
  rw[get,get,Qc hx,Qc hy]
  dsimp only[Option.map_some]
  have hc:((i:Int)+1)=((i+1:Nat):Int):=by push_cast;rfl
  refine wpAny_bind (wpAny_eqBool_str ?_)
  by_cases he:xs[i].1=ys[i].1
  ·rw [decide_eq_true he]
   wp_walk
   rw[hc]
   exact⟨plainId_quiet plain_eq_loop _,codeAny_builtin entry_eq_loop (by
    rw[Wi plain_eq_loop _]
    exact ih (i+1) (by lia) (by lia) prog w A R _ ⟨hl,hb,h⟩)⟩
  ·rw [decide_eq_false he]
   wp_walk using wpAny_loadPart' hl,wpAny_loadPart' hb
   rw[get,get,Qc hx,Qc hy]
   dsimp only[Option.map_some]
   refine wpAny_bind (show wpAny _ _ (compareOp .Lt (Value.str xs[i].1 xs[i].2) (Value.str ys[i].1 ys[i].2)) _ _ _ from lt_str ?_)
   wp_walk
   exact h _
def list_ltAt(l b:Nd)(xs ys:List (Str×Tok))(n n2:Nat):Meets (Builtin.«list.__lt__» ⟨[.ref l,.ref b],[]⟩)
   (fun A R s=>s.heap.get? l=some { cls:=.type "list",data:=.seq (strValues xs).toArray n }∧s.heap.get? b=some { cls:=.type "list",data:=.seq (strValues ys).toArray n2 } ∧
    ∀z,R (.ok (.ret (.bool z))) s):=by
 intro prog w A R s h
 obtain⟨hp,g,d,tk,os⟩:=s;obtain⟨hl,hb,h⟩:=h
 have f3:=AutoSeq1.sub_list_list
 wp_walk using wpAny_loadPart' hl,wpAny_loadPart' hb
 exact⟨plainId_quiet plain_eq_loop _,codeAny_builtin entry_eq_loop (by
  rw[Wi plain_eq_loop _]
  exact lt_loopAt l b xs ys n n2 _ 0 rfl (Zp _) prog w A R _ ⟨hl,hb,h⟩)⟩
section
variable{prog:Nj}{w:Nk}{A:No}{E:Na}{s:Nh}
def zgt{vs:Ni}{h:Nm}(hu:A.units<cLine)(k:∀b o,h.get? b=some o→s.heap.get? b=some o)(hv:∀v∈vs,∃a xs n,v=.ref a∧h.get? a=some {cls:=.type "list",data:=.seq (strValues xs).toArray n}):zb6 prog w A E s (λ_=>True) vs:=by
 refine .any λh2=>⟨oneType',λQ q=>kas_kind (T:=.type "list") h2 (λv hm=>?_) (by decide) (by decide) q,λx y hx hy Q E' q=>?_⟩
 ·obtain ⟨a,xs,n,rfl,e⟩:=hv v hm
  exact(Looks.ld (k _ _ e)).andThen .now
 ·obtain ⟨a,xs,n,rfl,e⟩:=hv x hx
  obtain⟨b,ys,m,rfl,e'⟩:=hv y hy
  rw[keyLt'_oneType,oneLt'_eq]
  simp only[if_true]
  refine wpAny_bind (wpAny_cRoomFor hu ?_)
  refine wpAny_bind (wpAny_callSpecialIfBound?_slot ⟨_,k _ _ e,rfl⟩ F.slot_list_lt (call_meets F.slot_list_lt ⟨_,k _ _ e,rfl⟩ F.entry_list_lt (F.args_list_lt_2 _ _) (list_ltAt a b xs ys n m) ⟨k _ _ e,k _ _ e',λz=>?_⟩))
  exact wpAny_truthy_bool (q _)
end
end Tm
end
section
namespace L2
open PySem PySem.Spec PyProof.Rows
def zdr{K:Nb}{a:Nd}{zs:Nf}{g:TG}{tb:TS}{D:Ends}{σ:St}{H:Hp}(Pv:Nat→St→Hp→Prop)(h0:Pv 0 σ H)(hl:∀i σ H,i≤(zs.map V.str).length→Pv i σ H→SqL K H a (zs.map V.str))(hs:∀i (hi:i<zs.length) σ H,Pv i σ H→g (.str zs[i]) σ H λ σ2 H2=>tb {D with nx:=Pv (i+1),ct:=Pv (i+1),bk:=D.nx} σ2 H2)(hd:∀σ H,Pv (zs.map V.str).length σ H→D.nx σ H) :
  ∃W:Nat→Nat→St→Hp→Prop,(∃m,W 0 m σ H)∧∀i m σ H,W i m σ H →
   ((Itl K a).stop i H∧D.nx σ H)∨((Itl K a).go i H∧∃N:St→Hp→Prop,(∀σ' H',N σ' H'→∃m',m'<m∧W (i+1) m' σ' H')∧∀x H',(Itl K a).yld i H x H'→g x σ H' λ σ2 H2=>tb {D with nx:=N,ct:=N,bk:=D.nx} σ2 H2) :=
 zbw Pv h0 hl (λi x σ H e p=>by
  have hi:i<zs.length:=by
   have:=(Ze.mp e).1
   rwa[Qa]at this
  rw[Qt,Qc hi]at e
  cases e
  exact hs i hi σ H p) hd
section
variable{X:Cx}
inductive RrIndex(x:V)(vs:List V)(H:Hp)(Q:VK):Prop
 |mk (l:Nd) (xs:List V) (y:V) (j:Nat) (h0:x=.ref l) (h1:vs=[y]) (h2:H l=some (.lst xs)) (h3:ze4 y=true) (h4:xs.all ze4=true) (h5:(∃z,xs[j]?=some z∧eqV z y=true)) (h6:(∀m z,m<j→xs[m]?=some z→eqV z y=false)) (h7:Q (.int j) H):RrIndex x vs H Q
def rIndex:V→List V→Hp→VK→Prop:=λx vs H Q=>RrIndex x vs H Q
def zen:MtM X "list.index" rIndex:=by
 intro a6 s σ H x vs v us Q I rx rv h
 obtain⟨l,xs,y,j,rfl,rfl,hH,fy,fs,⟨z,hz,ez⟩,cY,q⟩:=h
 cases rx
 obtain⟨u,rfl,ru⟩:=rv.one
 obtain⟨zz,a7,n,r,hl,e⟩:=I.lstM hH
 have hn:=zeo
 obtain⟨wv,hw,dH⟩:=r.get hz
 have hj:j<a7.length:=(Ze.mp hw).1
 have fl:∀{i:Nat} {a:V},xs[i]?=some a→ze4 a=true:=λ{i a} q=>Jd.mp fs a (Yo q)
 refine call_meets F.slot_list_index ⟨_,e,rfl⟩ F.entry_list_index (F.args_list_index_2 _ _)
  (SeqAt.list_indexAt l a7.toArray n none #[] u (eqU y) j (by simpa using hj) (by lia) ?_ ?_) ⟨e,λa ha=>zdq ru fy r fs a (by simpa using ha),?_⟩
 ·have e1:a7[j]=wv:=by
   have:=Qc hj
   rw[this]at hw;exact Qv hw
  show eqU y (a7.toArray[j])=true
  rw[Um,e1,eqU_of dH (fl hz)]
  exact ez
 ·intro m hm ad
  have hm':m<a7.length:=by simpa using hm
  have bJ:m<xs.length:=by exact zar6 ‹_› ‹_›
  have gx:xs[m]?=some xs[m]:=Qc bJ
  obtain⟨wm,hwm,rm⟩:=r.get gx
  have e1:a7[m]=wm:=by
   have:=Qc hm'
   rw[this]at hwm;exact Qv hwm
  show eqU y (a7.toArray[m])=false
  rw[Um,e1,eqU_of rm (fl gx)]
  exact cY m _ ad gx
 ·exact⟨.int j,H,I.tok _,⟨_,rfl⟩,q⟩
inductive RrInsert(x:V)(vs:List V)(H:Hp)(Q:VK):Prop
 |mk (l:Nd) (xs:List V) (y:V) (k:Nat) (h0:x=.ref l) (h1:vs=[.int k,y]) (h2:H l=some (.lst xs)) (h3:xs.length<sizeLine) (h4:k≤xs.length) (h5:Q .non (upd H l (.lst (xs.take k++y::xs.drop k)))):RrInsert x vs H Q
def rInsert:V→List V→Hp→VK→Prop:=λx vs H Q=>RrInsert x vs H Q
def zem:MtM X "list.insert" rInsert:=by
 intro a6 s σ H x vs v us Q I rx rv h
 obtain⟨l,xs,y,k,rfl,rfl,hH,hz,hk,q⟩:=h
 cases rx
 obtain⟨u1,u,rfl,⟨t,rfl⟩,ru⟩:=rv.two
 obtain⟨zz,a7,n,r,hl,e⟩:=I.lstM hH
 have hn:=zeo
 obtain⟨i,hi⟩:∃i:Int,i=(k:Int):=⟨_,rfl⟩
 have sA:¬(!Builtin.List.listFitsIndex i)=true:=by
  rw[fitsIndex_both (by lia) (by lia)]
  exact Zc
 have hsz:a7.toArray.size≤sizeLine:=by rw[Qq];exact zd7 ‹_› ‹_›
 have M:=AutoSeq1.list_insert_list_int_val_1 l a7.toArray n i t u sA hsz
 rw[←hi]
 refine call_meets F.slot_list_insert ⟨_,e,rfl⟩ F.entry_list_insert (F.args_list_insert_3 _ _ _) M ⟨e,?_⟩
 refine⟨.non,_,I.lset (its':=a7.take k++u::a7.drop k) hH e ?_ ((r.take k).append (.cons ru (r.drop k))) ?_,rfl,q⟩
 ·have e1:¬ (i < 0):=by lia
  have e2:min i.toNat a7.toArray.size=k:=by rw[Qq];lia
  show(a7.toArray.extract 0 (if i<0 then(i+((a7.toArray.size:Nat):Int)).toNat else min i.toNat a7.toArray.size)).push u++a7.toArray.extract (if i<0 then(i+((a7.toArray.size:Nat):Int)).toNat else min i.toNat a7.toArray.size)=_
  rw[if_neg e1,e2]
  apply Xa.mp
  simp
  rw[Qz (by rw[Yv];exact Qg _)]
 ·simp;lia
theorem zfw:∀{zs:Nf} {a7:Ni},Vals (zs.map V.str) a7→∃l:List (Str×Tok),a7=PySem.strValues l∧l.map (·.1)=zs
 |[],_,.nil=>⟨[],rfl,rfl⟩
 |z::zs,_,.cons r t=>by
  obtain⟨tk,rfl⟩:=r
  obtain⟨l,rfl,e⟩:=zfw t
  exact⟨(z,tk)::l,rfl,by rw[Ql,e]⟩
def call_isi_str:zb2 X (.builtin "isinstance") (λxs H Q=>Ex1 λz=>Aj2 (xs=[.str z,.ty "str"]) (Q (.bl true) H)):=by
 intro a6 s σ H xs us Q I r h
 obtain⟨z,rfl,q⟩:=h
 obtain⟨u,w',rfl,⟨t,rfl⟩,e⟩:=vals2 r
 have e':w'=Value.type "str" := e
 subst e'
 exact IsiPair.str_str ⟨.bl true,H,I,rfl,q⟩
def zhm{a6:Nc}{s:Nh}{σ:St}{H:Hp}{p:Nd}{ys:List V}(hc:X.calm=true)(I:Inv X a6 σ H s)(hq:SqL X.K H p ys){Q:Na}(h:∀ (a7:Ni) (It:Nd) (h1:Nm),Vals ys a7→Walks X.prog X.w X.A.in1 It [It,p] [It] a7.toArray.size (fun i v=>a7.toArray[i]?=some v) (fun i h=>h.IsListIter It p i∧h.IsList p a7.toArray)→(h1.IsListIter It p 0∧h1.IsList p a7.toArray)→(∀ b∈[It,p],b < h1.objs.size) →
   (∀(h':Nm) (tk:Nat),(∀b o,b∉[It]→h1.get? b=some o→h'.get? b=some o)→Inv X a6 σ H {s with heap:=h',toks:=tk})→Q (.ref It) {s with heap:=h1}) :
  wpAny (model X.prog X.w) X.A.in1 (pyIter (.ref p)) Q X.xe s:=by
 obtain⟨a7,rv,pl,hz⟩:=I.list hq
 refine wpAny_pyIter_list pl.isList ?_
 have lt:p<s.heap.objs.size:=by obtain⟨o,n,e,_⟩:=pl;exact Qr e
 refine h a7 s.heap.objs.size _ rv (Walks.list (show X.A.in1.handled=none from I.ok.hd hc) _ _ (Zj lt) _) ⟨⟨_,Qw _ rfl,rfl,rfl⟩,?_⟩ (λb hb=>?_) λh' tk k=>I.kept (t':=tk) λb o e=>?_
 ·obtain ⟨o,e,r⟩:=pl.isList
  exact⟨o,Qf _ e,r⟩
 ·rcases Qh.mp hb with e | e
  ·rw[e];simp[Heap.push]
  ·rw[Qb.mp e];simp[Heap.push];exact Ul lt
 ·exact k b o (λz=>absurd (Qr e) (by rw[Qb.mp z];exact Ym _)) (Qf _ e)
theorem zd1(ns:List Int):∀k,k≤ns.length→preSum (λi=>ns.getD i 0) k=(ns.take k).sum
 |0,_=>rfl
 |k+1,h=>by
  show preSum (λi=>ns.getD i 0) k+ns.getD k 0=_
  have hk:k<ns.length:=h
  rw[zd1 ns k (by exact Ww ‹_›),Qo hk,List.sum_append,List.sum_singleton]
  congr 1
  simp[List.getD,hk]
theorem zg0:∀{ns:List Int} {a7:Ni},Vals (ns.map V.int) a7→∀(i:Nat) (v:Value),a7[i]?=some v→∃t,v=Value.int (ns.getD i 0) t
 |[],_,.nil,i,v,e=>by simp at e
 |n::ns,_,.cons r t,0,v,e=>by
  obtain⟨tk,rfl⟩:=r
  simp at e;subst e
  exact⟨tk,rfl⟩
 |n::ns,_,.cons r t,i+1,v,e=>by
  obtain⟨tk,h⟩:=zg0 t i v (by simpa using e)
  exact⟨tk,by rw[h];simp⟩
def sum_small{ns:List Int}(hb:∀n∈ns,0≤n∧n≤1000000):0≤ns.sum∧ns.sum≤1000000*(ns.length:Int):=by
 induction ns with
 |nil=>simp
 |cons a r ih =>
  have h1:=hb a Qe
  have h2:=ih λn hn=>hb n (Qi _ hn)
  rw[Yb,Zf]
  lia
def call_sum(hc:X.calm=true):zb2 X (.builtin "sum") (λxs H Q=>Ex2 λ(p:Nd) (ns:List Int)=>Aj5 (xs=[.ref p]) (SqL X.K H p (ns.map V.int)) (ns.length≤1000000) (∀n∈ns,0≤n∧n≤1000000) (Q (.int ns.sum) H)):=by
 intro a6 s σ H xs us Q I r h
 obtain⟨p,ns,rfl,hq,hl,hb,q⟩:=h
 obtain⟨u,rfl,rx⟩:=vals1 r
 cases rx
 refine call_sum_walk (zhm hc I hq λa7 It h1 rv W st lt keep=>⟨It,_,_,_,_,_,λi=>ns.getD i 0,rfl,W,st,lt,λi v e=>zg0 rv i v (by simpa using e),λj hj=>?_,λh' tk t' k=>⟨.int ns.sum,H,keep h' tk k,⟨t',?_⟩,q⟩⟩)
 ·have aq:=rv.length
  rw[Qa]at aq
  have lm:j<ns.length:=by rw[aq];simpa using hj
  have s1:=sum_small (ns:=ns.take (j+1)) λn hn=>hb n (Ys hn)
  rw[Zn]at s1
  have g:ns.getD j 0=ns[j]:=by simp[List.getD,lm]
  have g2:=hb _ (Qp lm)
  refine⟨?_,?_⟩
  ·show InLong (ns.getD j 0)
   rw[g];unfold InLong;lia
  ·rw [zd1 ns (j+1) lm]
   unfold InLong;lia
 ·have aq:=rv.length
  rw[Qa]at aq
  rw[Qq,zd1 ns _ (by lia),←aq,Qz (Qg _)]
theorem zg1:∀{bs:List Bool} {a7:Ni},Vals (bs.map V.bl) a7→∀(i:Nat) (v:Value),a7[i]?=some v→v=Value.bool (bs.getD i true)
 |[],_,.nil,i,v,e=>by simp at e
 |n::ns,_,.cons r t,0,v,e=>by
  cases r
  simp at e;subst e
  rfl
 |n::ns,_,.cons r t,i+1,v,e=>by
  have h:=zg1 t i v (by simpa using e)
  rw[h];simp
def all_range(bs:List Bool):(List.range bs.length).all (λi=>bs.getD i true)=bs.all id:=by
 rw[Yu,Jd,Jd]
 constructor
 ·intro h x hx
  obtain⟨i,hi,e⟩:=Zq hx
  have:=h i (Yh.mpr hi)
  simp[List.getD,hi]at this
  rw[←e];exact this
 ·intro h i hi
  have gh:=Yh.mp hi
  simp[List.getD,gh]
  exact h _ (Qp gh)
def call_all(hc:X.calm=true):zb2 X (.builtin "all") (λxs H Q=>Ex2 λ(p:Nd) (bs:List Bool)=>Aj3 (xs=[.ref p]) (SqL X.K H p (bs.map V.bl)) (Q (.bl (bs.all id)) H)):=by
 intro a6 s σ H xs us Q I r h
 obtain⟨p,bs,rfl,hq,q⟩:=h
 obtain⟨u,rfl,rx⟩:=vals1 r
 cases rx
 refine call_all_walk (zhm hc I hq λa7 It h1 rv W st lt keep=>⟨It,_,_,_,_,_,λi=>bs.getD i true,rfl,W,st,λi v s' Q' E' e q'=>?_,λh' tk k=>⟨.bl (bs.all id),H,keep h' tk k,?_,q⟩⟩)
 ·have e':=zg1 rv i v (by simpa using e)
  subst e'
  exact wpAny_truthy_bool q'
 ·have aq:=rv.length
  rw[Qa]at aq
  show Value.bool _=Value.bool _
  rw[Qq,←aq,all_range]
end
end L2
end
section
namespace L2
open PySem PySem.Spec PyProof.Rows Tm
def Vals.perm{ws us:Ni}(p:ws.Perm us):∀{ys:List V},Vals ys us→∃zs,zs.Perm ys∧Vals zs ws:=by
 induction p with
 |nil=>intro ys r;cases r;exact⟨[],.nil,.nil⟩
 | cons x q ih =>
  intro ys r
  cases r with
  |cons r1 r2 =>
   obtain⟨zs,h1,h2⟩:=ih r2
   exact⟨_::zs,h1.cons _,.cons r1 h2⟩
 | swap x y l =>
  intro ys r
  cases r with
  |cons r1 r2 =>
   cases r2 with
   |cons r3 r4=>exact⟨_,List.Perm.swap ..,.cons r3 (.cons r1 r4)⟩
 |trans _ _ ih1 ih2 =>
  intro ys r
  obtain⟨zs,h1,h2⟩:=ih2 r
  obtain⟨gy,h3,h4⟩:=ih1 h2
  exact⟨gy,h3.trans h1,h4⟩
theorem Vals.pairwise{α:Type}{R:α→α→Prop}{kv:Value→α}{kV:V→α}:∀{zs:List V} {ws:Ni},Vals zs ws→(∀v∈zs,∀u,RelV v u→kv u=kV v)→ws.Pairwise (λa b=>R (kv a) (kv b))→zs.Pairwise λa b=>R (kV a) (kV b)
 |_,_,.nil,_,_=>.nil
 |v::zs,u::ws,.cons r t,hk,h=>by
  rw[List.pairwise_cons]at h ⊢
  refine⟨λb hb=>?_,Vals.pairwise t (λv hv=>hk v (Qi _ hv)) h.2⟩
  obtain⟨i,hi,e⟩:=Zq hb
  obtain⟨x,hx,rx⟩:=Vals.get t (i:=i) (x:=b) (by rw[Qc hi,e])
  have:=h.1 x (Yo hx)
  rw[hk v Qe u r,hk b (Qi _ hb) x rx]at this
  exact this
section
variable{X:Cx}
def zdy{a6:Nc}{s:Nh}{σ:St}{H:Hp}{p:Nd}{ys:List V}{R:List Value→List Value→Prop}{Q:VK}(I:Inv X a6 σ H s)(hq:SqL X.K H p ys)(hS:∀a7,Vals ys a7→∀(A':Around) (E':Value→Shared→Prop) (s':Shared),A'.units≤X.A.units+8→(∀b o,s.heap.get? b=some o→s'.heap.get? b=some o)→zb6 X.prog X.w A' E' s' (R a7) a7)(h:∀(l:Nd) (ws:List V) (a7 us:Ni),H l=none→ws.Perm ys→Vals ys a7→Vals ws us→R a7 us→Q (.ref l) (upd H l (.lst ws))) :
  wpAny (model X.prog X.w) X.A (call (.builtin "sorted") [.ref p]) (EP X a6 σ Q) X.xe s:=by
 obtain⟨a7,r,pl,hz⟩:=I.list hq
 refine sorted_any pl.isList (by rw[←r.length];exact hz) (hS a7 r) λws l g tk e p1 p2 le k he=>?_
 obtain⟨zs,q1,q2⟩:=Vals.perm p1 r
 exact⟨.ref l,_,I.laid (t':=tk) k le (show zbr X.prog X.w _ g _ (.lst zs) from⟨by rw[q1.length_eq];exact hz,ws,e,q2,he⟩),rfl,h l zs a7 ws (I.hok.fresh le) q1 r q2 p2⟩
def leS(x y:Str):Prop:=¬y.cps.toList<x.cps.toList
def txV:V→List Nat
 |.str x=>x.cps.toList
 |_=>[]
def strs_perm{ws:List V}{zs:Nf}(pm:ws.Perm (zs.map V.str)):∃ts:List Str,ws=ts.map V.str∧ts.Perm zs:=by
 have a1:∀v∈ws,∃x,v=V.str x:=λv hv=>by
  obtain⟨x,_,e⟩:=Qm.mp (pm.mem_iff.mp hv)
  exact⟨x,e.symm⟩
 have a2:∃ts:List Str,ws=ts.map V.str:=by
  clear pm
  induction ws with
  |nil=>exact⟨[],rfl⟩
  |cons v r ih =>
   obtain⟨ts,e⟩:=ih λv hv=>a1 v (Qi _ hv)
   obtain⟨x,e2⟩:=a1 v Qe
   exact⟨x::ts,by rw[e,e2];rfl⟩
 obtain⟨ts,rfl⟩:=a2
 refine⟨ts,rfl,?_⟩
 have:=pm.map (λv=>match v with | .str x=>x | _=>Str.empty)
 rw[Zr,Zr]at this
 simpa[Function.comp_def] using this
def zfc{zs:Nf}{a7:Ni}(r:Vals (zs.map V.str) a7):∀v∈a7,∃x t,v=.str x t:=λv hv=>by
 obtain⟨l,rfl,e⟩:=zfw r
 obtain⟨pr,_,e2⟩:=Qm.mp hv
 exact⟨_,_,e2.symm⟩
def txV_str{zs:Nf}:∀v∈zs.map V.str,∀u,RelV v u→kvS u=txV v:=λv hv u ru=>by
 obtain⟨x,_,rfl⟩:=Qm.mp hv
 obtain⟨t,rfl⟩:=ru
 rfl
def strs_out{zs ts:Nf}{a7 us:Ni}(r:Vals (zs.map V.str) a7)(r2:Vals (ts.map V.str) us)(p:a7.length<64→us.Pairwise λx y=>strO.kle (kvS x) (kvS y))(h:zs.length<64):ts.Pairwise leS:=by
 have p2:=Vals.pairwise (R:=λa b=>strO.kle a b) (kV:=txV) r2 txV_str (p (by rw[←r.length,Qa];exact h))
 rw[Ux]at p2
 exact p2.imp of_decide_eq_false
def zdc:zb2 X (.builtin "sorted") (λxs H Q=>Ex2 λ(p:Nd) (zs:Nf)=>Aj3 (xs=[.ref p]) (SqL X.K H p (zs.map V.str)) (∀(l:Nd) (ws:Nf),H l=none→ws.Perm zs→(zs.length<64→ws.Pairwise leS)→Q (.ref l) (upd H l (.lst (ws.map V.str))))):=by
 intro a6 s σ H xs us Q I r h
 obtain⟨p,zs,rfl,hq,q⟩:=h
 obtain⟨u,rfl,rx⟩:=vals1 r
 cases rx
 refine zdy I hq (λa7 r A' E' s' _ _=>zeb (zfc r)) λl ws a7 us hl p1 r1 r2 p2=>?_
 obtain⟨ts,rfl,p3⟩:=strs_perm p1
 exact q l ts hl p3 (strs_out r1 r2 p2)
def zhp(I:Inv X a6 σ H s)(e:H a=some (.tup [.str x,z])):∃q,RelV z q∧zfn s.heap (.ref a) x q:=by
 obtain⟨_,a7,r,o,e1,c,n,d⟩:=I.hok a _ e
 obtain⟨u,w',rfl,⟨t,rfl⟩,rz⟩:=vals2 r
 exact⟨w',rz,a,o,t,n,rfl,e1,c,d⟩
def vals_back(r:Vals ys a7):∀v∈a7,∃b∈ys,RelV b v:=λv hv=>by
 obtain⟨i,hi,e⟩:=Zq hv
 have hl:=r.length
 have ay:i<ys.length:=by exact zar6 ‹_› ‹_›
 obtain⟨u,hu,ru⟩:=r.get (i:=i) (Qc ay)
 rw[Qc hi,e]at hu
 cases hu
 exact⟨_,Qp ay,ru⟩
def zfo(a:zfn h v x p)(b:zfn h v y q):x=y∧p=q:=by
 obtain⟨a,o,t,n,rfl,e,c,d⟩:=a
 obtain⟨a',o',t',n',e0,e',c',d'⟩:=b
 cases e0
 rw[e]at e'
 cases e'
 rw[d]at d'
 have d2:(#[Value.str x t,p]:Array Value)=#[Value.str y t',q]:=by injection d'
 have d3:=congrArg (λa:Array Value=>a[0]?) d2
 have d4:=congrArg (λa:Array Value=>a[1]?) d2
 simp at d3 d4
 exact⟨d3.1,d4⟩
def rowV(H:Hp):V→List Nat
 |.ref a=>match H a with
  |some (.tup [x,_])=>txV x
  |_=>[]
 |_=>[]
def zeg(e:H a=some (.tup [x,y])):rowV H (.ref a)=txV x:=by
 unfold rowV;dsimp only;rw[e]
def zfm:zb2 X (.builtin "sorted") (λxs H Q=>Ex2 λ(p:Nd) (ys:List V)=>Aj5 (xs=[.ref p]) (SqL X.K H p ys) (∀v∈ys,∃a x z,v=.ref a∧H a=some (.tup [.str x,z])) (∀v∈ys,∀u∈ys,rowV H v=rowV H u→v=u) (∀(l:Nd) (ws:List V),H l=none→ws.Perm ys→(ys.length<64→ws.Pairwise λa b=>strO.kle (rowV H a) (rowV H b))→Q (.ref l) (upd H l (.lst ws)))):=by
 intro a6 s σ H xs us Q I r h
 obtain⟨p,ys,rfl,hq,hy,hd,q⟩:=h
 obtain⟨u,rfl,rx⟩:=vals1 r
 cases rx
 have back:∀a7,Vals ys a7→∀v∈a7,∃b∈ys,RelV b v∧∃a x z q,b=.ref a∧v=.ref a∧H a=some (.tup [.str x,z])∧zfn s.heap v x q:=λa7 r v hv=>by
  obtain⟨b,hb,rb⟩:=vals_back r v hv
  obtain⟨a,x,z,rfl,e2⟩:=hy b hb
  have rb':=rb
  cases rb
  obtain⟨q',_,T⟩:=zhp I e2
  exact⟨_,hb,rb',a,x,z,q',rfl,rfl,e2,T⟩
 refine zdy I hq (λa7 r A' E' s' _ k=>zea k (λv hv=>?_) λv hv u hu x p q T T'=>?_) λl ws a7 us hl p1 r1 r2 p2=>q l ws hl p1 λpE=>?_
 ·obtain ⟨b,hb,rb,a,x,z,q,_,_,_,T⟩:=back a7 r v hv
  exact⟨x,q,T⟩
 ·obtain ⟨b,hb,rb,a,x1,z,q1,rfl,rfl,e1,T1⟩:=back a7 r v hv
  obtain⟨c,hc,rc,a',x2,z',q2,rfl,rfl,e2,T2⟩:=back a7 r u hu
  have h1:=(zfo T T1).1
  have h2:=(zfo T' T2).1
  subst h1
  subst h2
  have:=hd _ hb _ hc (by rw[zeg e1,zeg e2])
  cases this
  exact .inl rfl
 ·refine Vals.pairwise (R:=fun a b=>strO.kle a b) (kv:=fun u=>(kvP s.heap u).1) r2 (fun v hv u ru=>?_) ((p2 (by rw [← r1.length];exact pE)).imp fun h=>(Bool.or_eq_false_iff.mp h).1)
  obtain⟨a,x,z,rfl,e2⟩:=hy v (p1.mem_iff.mp hv)
  cases ru
  obtain⟨q',_,T⟩:=zhp I e2
  rw[T.key,zeg e2]
  rfl
def ze9(hu:X.A.units+8<cLine):zb2 X (.builtin "sorted") (λxs H Q=>Ex2 λ(p:Nd) (ys:List V)=>Aj4 (xs=[.ref p]) (SqL X.K H p ys) (∀v∈ys,∃a zs,v=.ref a∧H a=some (.lst (List.map V.str zs))) (∀(l:Nd) (ws:List V),H l=none→ws.Perm ys→Q (.ref l) (upd H l (.lst ws)))):=by
 intro a6 s σ H xs us Q I r h
 obtain⟨p,ys,rfl,hq,hy,q⟩:=h
 obtain⟨u,rfl,rx⟩:=vals1 r
 cases rx
 refine zdy I hq (λa7 r A' E' s' hA k=>zgt (by exact Ke ‹_› ‹_›) k λv hv=>?_) λl ws _ _ hl p1 _ _ _=>q l ws hl p1
 obtain⟨b,hb,ru⟩:=vals_back r v hv
 obtain⟨a,zs,rfl,e2⟩:=hy b hb
 cases ru
 obtain⟨_,aP,n,r2,e3⟩:=I.hok a _ e2
 obtain⟨l2,rfl,_⟩:=zfw r2
 exact⟨a,l2,n,rfl,e3⟩
def dk_at{a6:Nc}{s:Nh}{σ:St}{H:Hp}{d:Nd}{kvs:List (Key×V)}(I:Inv X a6 σ H s)(rd:Rd H d (.dK kvs)) :
  kvs.length≤sizeLine∧(d==sysModules)=false∧∃vs ep,KV kvs vs∧s.heap.DictAt (zaq X.prog X.w) d vs ep∧vs.length=kvs.length:=by
 obtain⟨z,y,vs,r,hd⟩:=rd.ok I.hok
 obtain⟨ep,ha⟩:=hd.dictAt
 exact⟨z,y,vs,ep,r,ha,(Yf r).symm⟩
def KV.get{kvs:List (Key×V)}{vs:List (Key×Value)}(r:KV kvs vs){i:Nat}(e:vs[i]?=some (k,x)):∃v,kvs[i]?=some (k,v)∧RelV v x:=by
 induction r generalizing i with
 |nil=>simp at e
 | cons h t ih =>
  cases i with
  |zero =>
   simp at e
   subst e
   exact⟨_,by simp;exact Kd h.1 rfl,h.2⟩
  |succ j =>
   obtain⟨v,h1,h2⟩:=ih (i:=j) (by simpa using e)
   exact⟨v,by simpa using h1,h2⟩
def key_rel(h:(zaq P w).is k v=true):RelV (kV k) v:=by
 rcases zbd h with⟨i,t,rfl,rfl⟩ | ⟨x,t,rfl,rfl⟩
 ·exact⟨t,rfl⟩
 ·exact⟨t,rfl⟩
def keys_vals{P:Nj}{w:Nk}{kvs:List (Key×V)}{vs:List (Key×Value)}{ae:Array Value}(r:KV kvs vs)(hl:vs.length=kvs.length)(h:ItemsOf (λi v=>∃k x,vs[i]?=some (k,x)∧(zaq P w).is k v=true) ae vs.length):Vals (kvs.map λp=>kV p.1) ae.toList:=by
 have g:∀(i:Nat),i<kvs.length→∃v,ae.toList[i]?=some v∧RelV (kV ((kvs.map Prod.fst).getD i (.inl 0))) v:=λi hi=>by
  have ay:i<ae.size:=by rw[h.1];exact zar6 ‹_› ‹_›
  have e:ae[i]?=some ae[i]:=by simp[ay]
  obtain⟨k,x,e1,e2⟩:=h.2 i _ e
  obtain⟨v',e3,_⟩:=KV.get r e1
  refine⟨ae[i],by rw[Ug];exact e,?_⟩
  have e4:(kvs.map Prod.fst).getD i (.inl 0)=k:=by
   rw[Qy,Qt,e3];rfl
  rw[e4]
  exact key_rel e2
 have hsz:ae.toList.length=kvs.length:=by rw[Wk,h.1];exact hl
 clear h r hl
 generalize ae.toList=l at g hsz
 induction kvs generalizing l with
 |nil =>
  have:l=[]:=List.length_eq_zero_iff.mp hsz
  subst this
  exact .nil
 | cons p t ih =>
  cases l with
  |nil=>cases hsz
  | cons u us =>
   refine .cons ?_ (ih us (λi hi=>?_) (by simpa using hsz))
   ·obtain ⟨v,e1,e2⟩:=g 0 (by simp)
    simp at e1
    subst e1
    exact e2
   ·obtain ⟨v,e1,e2⟩:=g (i+1) (by simpa using hi)
    exact⟨v,by simpa using e1,by simpa using e2⟩
def zgy(hc:X.calm=true):zb2 X (.type "list") (λxs H Q=>Ex2 λ(d:Nd) (kvs:List (Key×V))=>Aj3 (xs=[.ref d]) (Rd H d (.dK kvs)) (∀l,H l=none→Q (.ref l) (upd H l (.lst (kvs.map λp=>kV p.1))))):=by
 intro a6 s σ H xs us Q I r h
 obtain⟨d,kvs,rfl,hq,q⟩:=h
 obtain⟨u,rfl,rx⟩:=vals1 r
 cases rx
 obtain⟨z,lo,vs,ep,rk,ha,hl⟩:=dk_at I hq
 refine PySem.W.kdl_call (PySem.W.kdl_dict lo) (I.ok.hd hc) ha (by rw[hl];exact z) λh' tk ae c k e hi=>?_
 have rv:=keys_vals rk hl hi
 exact⟨.ref _,_,I.laid (t':=tk) k (Qg _) (show zbr X.prog X.w _ h' _ (.lst _) from⟨by rw[Qa];exact z,ae.toList,c,rv,by rw[e]⟩),rfl,q _ (I.hok.fresh (Qg _))⟩
def zbx(hc:X.calm=true):zb2 X (.builtin "sorted") (λxs H Q=>Ex3 λ(d:Nd) (kvs:List (Key×V)) (zs:Nf)=>Aj4 (xs=[.ref d]) (Rd H d (.dK kvs)) ((kvs.map λp=>kV p.1)=zs.map V.str) (∀(l:Nd) (ws:Nf),H l=none→ws.Perm zs→(zs.length<64→ws.Pairwise leS)→Q (.ref l) (upd H l (.lst (ws.map V.str))))):=by
 intro a6 s σ H xs us Q I r h
 obtain⟨d,kvs,zs,rfl,hq,ez,q⟩:=h
 obtain⟨u,rfl,rx⟩:=vals1 r
 cases rx
 obtain⟨z,lo,vs,ep,rk,ha,hl⟩:=dk_at I hq
 refine zeu (G:=λa7=>Vals (zs.map V.str) a7) (λE' R hR=>zgp (PySem.W.kdl_dict lo) (show X.A.in1.handled=none from I.ok.hd hc) ha (by rw[hl];exact z) λg tk ae k le hi=>hR g tk _ k le (ez▸keys_vals rk hl hi))
  (λa7 r=>by rw[←r.length,←ez,Qa];exact z) (λa7 r A' E' s' _ _=>zeb (zfc r)) λa7 ws l g tk e r p1 p2 le k he=>?_
 obtain⟨gy,q1,q2⟩:=Vals.perm p1 r
 obtain⟨ts,rfl,p3⟩:=strs_perm q1
 refine⟨.ref l,_,I.laid (t':=tk) k le (show zbr X.prog X.w _ g _ (.lst _) from⟨?_,ws,e,q2,he⟩),rfl,q l ts (I.hok.fresh le) p3 (strs_out r q2 p2)⟩
 rw[q1.length_eq,←ez,Qa];exact z
end
section
variable{X:Cx}{a6:Nc}{σ:St}{H:Hp}{s:Nh}
def Inv.freeze(I:Inv X a6 σ H s)(hd:H d=some u)(ho:s.heap.get? d=some o)(mu:Mut (some u)):Inv X a6 σ (upd H d (.frz o u)) s:=by
 have ne:∀b,H b=none→b≠d:=λb e z=>by rw[z,hd]at e;cases e
 have nt:∀b xs,H b=some (.tup xs)→b≠d:=λb xs e z=>by rw[z,hd]at e;cases e;exact mu
 have nf:∀b o' u',H b=some (.frz o' u')→b≠d:=λb o' u' e z=>by rw[z,hd]at e;cases e;exact mu
 have nb:∀b ps,H b=some (.tbl ps)→b≠d:=λb ps e z=>by rw[z,hd]at e;cases e;exact mu
 have no:∀b a,H b=some (.own a)→b≠d:=λb a e z=>by rw[z,hd]at e;cases e;exact mu
 refine I.un (h':=s.heap) (t':=s.toks) ⟨λb o e _ _ _=>e,λb o e _ _ _=>⟨o.slots,e⟩,λb o e n _=>by rw[zad (ne b n)];exact n,λb o e _=>⟨o,e⟩,λb xs e=>by rw[zad (nt b xs e)];exact e,
  λb o' u' e=>by rw[zad (nf b o' u' e)];exact e,λb ps e=>⟨#[],by rw[zad (nb b ps e),e];simp⟩⟩ λb v e=>?_
 by_cases hb:b=d
 ·subst hb
  rw[zac]at e
  cases e
  exact⟨ho,(I.hok b u hd).stay (λc v _ q=>q) (λc q=>by rw[zad (no c _ q)];exact q) λc xs q=>by rw[zad (nt c xs q)];exact q⟩
 ·rw [zad hb] at e
  exact(I.hok b v e).stay (λc v _ q=>q) (λc q=>by rw[zad (no c _ q)];exact q) λc xs q=>by rw[zad (nt c xs q)];exact q
def Inv.thaw(I:Inv X a6 σ H s)(hd:H d=some (.frz o u))(hx:∀o' u',X.H₀ d≠some (.frz o' u')):Inv X a6 σ (upd H d u) s:=by
 have ne:∀b,H b=none→b≠d:=λb e z=>by rw[z,hd]at e;cases e
 have nt:∀b xs,H b=some (.tup xs)→b≠d:=λb xs e z=>by rw[z,hd]at e;cases e
 have nb:∀b ps,H b=some (.tbl ps)→b≠d:=λb ps e z=>by rw[z,hd]at e;cases e
 have no:∀b a,H b=some (.own a)→b≠d:=λb a e z=>by rw[z,hd]at e;cases e
 have B:=I.base
 refine⟨I.ok,I.os,I.bare,⟨B.keep,B.slot,λb o e n hx=>?_,B.there,λb xs e=>?_,λb o' u' e=>?_,λb ps e=>?_⟩,I.loc,I.cell,?_,λx c e=>?_,λp hp=>?_,λb v e=>?_,I.len⟩
 ·have:=B.free b o e n hx
  rw[zad (ne b this)];exact this
 ·have:=B.tups b xs e
  rw[zad (nt b xs this)];exact this
 ·have:=B.frzs b o' u' e
  have nd:b≠d:=λz=>hx o' u' (z▸e)
  rw[zad nd];exact this
 ·obtain ⟨m,q⟩:=B.tbls b ps e
  exact⟨m,by rw[zad (nb b _ q)];exact q⟩
 ·rw[zad (ne _ I.free)];exact I.free
 ·rw[zad (ne c (I.freeC x c e))];exact I.freeC x c e
 ·obtain ⟨h1,h2,h3⟩:=I.pin p hp
  exact⟨h1,by rw[zad (ne _ h2)];exact h2,h3⟩
 ·by_cases hb:b=d
  ·subst hb
   rw[zac]at e
   cases e
   exact(show s.heap.get? b=some o∧zbr X.prog X.w H s.heap b u from I.hok b _ hd).2.stay (λc v _ q=>q) (λc q=>by rw[zad (no c _ q)];exact q) λc xs q=>by rw[zad (nt c xs q)];exact q
  ·rw [zad hb] at e
   exact(I.hok b v e).stay (λc v _ q=>q) (λc q=>by rw[zad (no c _ q)];exact q) λc xs q=>by rw[zad (nt c xs q)];exact q
inductive Thaw(X:Cx)(R:Hp→Prop)(H':Hp):Prop
 |mk (d:Nd) (o:Obj) (u:HO) (h:H' d=some (.frz o u)) (n:∀o' u',X.H₀ d≠some (.frz o' u')) (q:R (upd H' d u)):Thaw X R H'
def sThaw(X:Cx)(t:TS):TS:=λD σ H=>t {nx:=λ σ' H'=>Thaw X (D.nx σ') H',rt:=λv H'=>Thaw X (D.rt v) H',bk:=λ σ' H'=>Thaw X (D.bk σ') H',ct:=λ σ' H'=>Thaw X (D.ct σ') H'} σ H
def ps_thaw{st:Stmt}{t:TS}(h:PS X st t):PS X st (sThaw X t):=by
 intro a6 s σ H D I q
 refine thn (h a6 s σ H _ I q) λf s' z=>?_
 cases f with
 |next=>obtain⟨σ',H',I',d,o,w',e1,e2,e3⟩:=z;exact⟨σ',_,I'.thaw e1 e2,e3⟩
 |brk=>obtain⟨σ',H',I',d,o,w',e1,e2,e3⟩:=z;exact⟨σ',_,I'.thaw e1 e2,e3⟩
 |cont=>obtain⟨σ',H',I',d,o,w',e1,e2,e3⟩:=z;exact⟨σ',_,I'.thaw e1 e2,e3⟩
 |ret u=>obtain⟨v,σ',H',I',r,d,o,w',e1,e2,e3⟩:=z;exact⟨v,σ',_,I'.thaw e1 e2,r,e3⟩
def Itd(d:Nd)(o:Obj)(kvs:List (Key×V)):It :=
 ⟨λi H=>H d=some (.frz o (.dK kvs))∧i<kvs.length,λi H x H'=>H'=H∧∃p,kvs[i]?=some p∧x=kV p.1,λi H=>H d=some (.frz o (.dK kvs))∧kvs.length≤i⟩
def frz_at(I:Inv X a6 σ H s)(e:H d=some (.frz o (.dK kvs))):s.heap.get? d=some o∧zbr X.prog X.w H s.heap d (.dK kvs):=I.hok d _ e
def zhf{h:Nm}{kvs:List (Key×V)}{vs vs':List (Key×Value)}{ep ep':Nat}(ho:h.get? d=some o)(a:h.DictAt (zaq P w) d vs ep)(o':Obj)(h':Nm)(aw:h'.get? d=some o):h'.DictAt (zaq P w) d vs ep:=by
 obtain⟨q,es,e,r⟩:=a
 rw[ho]at e
 cases e
 exact⟨o,es,aw,r⟩
theorem turn_dict{P:Nj}{w:Nk}{K:Nb}{tg:Expr}{o:Obj}{kvs:List (Key×V)}{vs:List (Key×Value)}{ep:Nat}{h0:Nm}(d it:Nd)(rk:KV kvs vs)(hl:vs.length=kvs.length)(h00:h0.get? d=some o)(kM:h0.DictAt (zaq P w) d vs ep) :
  Turn P w K tg (Itd d o kvs) [it] it (λi h=>h.IsKeyIter it d i vs.length ep) where
 mem:=by simp
 obj:=λi h st b hb=>by
  have e:b=it:=by simpa using hb
  subst e
  obtain⟨o,e,c,d⟩:=st
  exact⟨o,e,λv z=>by rw[d]at z;cases z⟩
 keep:=λi h h' st k=>st.at λo e=>k it (by simp) o e
 item:=by
  intro X hP hw hK hc i a6 s σ H E I hf st hg
  subst hP hw hK
  obtain⟨fz,hi⟩:=hg
  obtain⟨ho,_⟩:=frz_at I fz
  have DA:s.heap.DictAt (zaq X.prog X.w) d vs ep:=zhf (kvs:=kvs) (vs':=vs) (ep':=ep) h00 kM o s.heap ho
  obtain⟨f0,f1,f2,f3,f4,f5⟩:=hf it (by simp)
  have ay:i<vs.length:=by exact zar6 ‹_› ‹_›
  obtain⟨v',e3,_⟩:=KV.get rk (i:=i) (k:=vs[i].1) (x:=vs[i].2) (Qc ay)
  refine wpAny_pyNext_dict_item st DA (k:=vs[i].1) (v:=vs[i].2) (Qc ay) λkey h' hk a9 sb=>?_
  have I1:Inv X a6 σ H {s with heap:=h'}:=I.turned (t':=s.toks) (λb o hb e=>(sb.2 b hb).trans e) f0 f1 f3 f4 f5
  obtain⟨o2,e,c,d2⟩:=id a9
  exact⟨key,rfl,go_of (s:={s with heap:=h'}) e c d2 (by decide) ⟨kV vs[i].1,H,I1,key_rel hk,⟨rfl,_,e3,rfl⟩,a9,λb hb=>(hf b hb).1⟩⟩
 done:=by
  intro X hP hw hK hc i a6 s σ H E I hf st hg
  subst hP hw hK
  obtain⟨fz,hi⟩:=hg
  obtain⟨ho,_⟩:=frz_at I fz
  have DA:s.heap.DictAt (zaq X.prog X.w) d vs ep:=zhf (kvs:=kvs) (vs':=vs) (ep':=ep) h00 kM o s.heap ho
  obtain⟨f0,f1,f2,f3,f4,f5⟩:=hf it (by simp)
  exact wpAny_pyNext_dict_end (I.ok.hd hc) st DA (Uf (by omega)) λh' eb=>⟨rfl,I.turned (t':=s.toks) (λb o hb e=>eb b o hb e) f0 f1 f3 f4 f5⟩
 self:=λ_ _ _ _ _ st h=>wpAny_pyIter_keyiter st h
inductive RIDi(x:V)(H:Hp)(R:It→Hp→Prop):Prop
 |mk (d:Nd) (kvs:List (Key×V)) (e:x=.ref d) (h:H d=some (.dK kvs)) (q:∀o,R (Itd d o kvs) (upd H d (.frz o (.dK kvs)))):RIDi x H R
def iDict(td:TE):TI:=λ σ H R=>td σ H λx H1=>RIDi x H1 R
def pi_dict{tg l:Expr}{tl:TE}(hl:PE X l tl):PI X tg l (iDict tl):=by
 intro a6 s σ H R I h
 refine thn (hl a6 s σ H _ I h) λv s1 ⟨x,H1,I1,r1,q1⟩=>?_
 obtain⟨d,kvs,e,hd,q⟩:=q1
 subst e
 cases r1
 obtain⟨z,lo,vs,ep,rk,ha,aa⟩:=dk_at I1 (.inl hd)
 obtain⟨o,es,ho,r⟩:=id ha
 refine wpAny_pyIter_dict lo ha ?_
 have I2:=I1.freeze hd ho trivial
 have I3:Inv X a6 σ (upd H1 d (.frz o (.dK kvs))) {s1 with heap:=s1.heap.push {cls:=.type "dict_keyiterator",data:=.fields #[.ref d,.int 0 0,.int vs.length 0,.int ep 0]}}:=I2.kept (t':=s1.toks) λb o e=>Qf _ e
 refine⟨s1.heap.objs.size,[s1.heap.objs.size],_,_,_,rfl,I3,turn_dict d _ rk aa ho ha,⟨_,Qw _ rfl,rfl,rfl⟩,λb hb=>?_,q o⟩
 have e:b=s1.heap.objs.size:=by simpa using hb
 subst e
 exact I2.fpOk (Qg _) (I2.hok.fresh (Qg _))
end
def for_dict{d:Nd}{o:Obj}{kvs:List (Key×V)}{g:TG}{tb:TS}{D:Ends}{σ:St}{H:Hp}(Pv:Nat→St→Hp→Prop)(h0:Pv 0 σ H)(hl:∀i σ H,i≤kvs.length→Pv i σ H→H d=some (.frz o (.dK kvs)))(hs:∀i p σ H,kvs[i]?=some p→Pv i σ H→g (kV p.1) σ H λ σ2 H2=>tb {D with nx:=Pv (i+1),ct:=Pv (i+1),bk:=D.nx} σ2 H2)(hd:∀σ H,Pv kvs.length σ H→D.nx σ H) :
  ∃W:Nat→Nat→St→Hp→Prop,(∃m,W 0 m σ H)∧∀i m σ H,W i m σ H →
   ((Itd d o kvs).stop i H∧D.nx σ H)∨((Itd d o kvs).go i H∧∃N:St→Hp→Prop,(∀σ' H',N σ' H'→∃m',m'<m∧W (i+1) m' σ' H')∧∀x H',(Itd d o kvs).yld i H x H'→g x σ H' λ σ2 H2=>tb {D with nx:=N,ct:=N,bk:=D.nx} σ2 H2):=by
 refine⟨λi m σ H=>m=kvs.length-i∧i≤kvs.length∧Pv i σ H,⟨kvs.length,by simp,Zp _,h0⟩,?_⟩
 rintro i m σ H ⟨rfl,hi,p⟩
 have q:=hl i σ H hi p
 by_cases ad:i<kvs.length
 ·refine .inr ⟨⟨q,ad⟩,Pv (i+1),fun σ' H' p'=>⟨kvs.length - (i+1),by exact zar1 ‹_›,rfl,ad,p'⟩,fun x H' y=>?_⟩
  obtain⟨e,pr,e2,rfl⟩:=y
  subst e
  exact hs i pr σ _ e2 p
 ·have e:i=kvs.length:=by exact zar3 ‹_› ‹_›
  subst e
  exact .inl ⟨⟨q,Qg _⟩,hd σ H p⟩
end L2
end
section
namespace Enu
open PySem PyProof.Rows
open AutoSeq1 (wpAny_loadPart')
section
variable{prog:Nj}{w:Nk}{A:No}{E:Na}{s:Nh}
def next_item(st:s.heap.IsTupleIter j t i)(ht:s.heap.IsTuple t xs)(hx:xs[i]?=some x)(hQ:∀g,g.IsTupleIter j t (i+1)→Heap.SameBut j s.heap g→Q x {s with heap:=g}):wpAny (model prog w) A (Builtin.SmallTypes.nextOf (.ref j)) Q E s:=by
 obtain⟨o,ho,hc,hd⟩:=id st
 obtain⟨p,hp,_,k,hk⟩:=ht
 unfold Builtin.SmallTypes.nextOf
 refine wpAny_bind (wpAny_callSpecial?_slot (name:=Str.ofString "__next__") st.typeIs Wm (wpAny_call_entry Wm st.typeIs Kw ?_ (Kl _)))
 show wpAny _ _ (field (.ref j) 0 >>= _) _ _ s
 refine wpAny_bind (wpAny_field ho hd (x:=.ref t) rfl ?_)
 show wpAny _ _ (if(Value.ref t==.none)=true then _ else _) _ _ s
 rw[if_neg (show ¬((Value.ref t==.none)=true) from Zc)]
 show wpAny _ _ (field (.ref j) 1 >>= _) _ _ s
 refine wpAny_bind (wpAny_field ho hd (x:=.int i 0) rfl ?_)
 show wpAny _ _ (seqItems? (.ref t) >>= _) _ _ s
 refine wpAny_bind (wpAny_seqItems hp hk ?_)
 simp only[Ws,hx]
 refine wpAny_bind (wpAny_setField ho hd (by simp) (wpAny_pure ⟨x,rfl,wpAny_pure (hQ _ ⟨_,Uo _ ho (Jc (Wf hd _)),(Xd ..).trans hc,by rw[Wf hd];simp[rawInt]⟩ (Wn ..))⟩))
def next_end(hh:A.handled=none)(st:s.heap.IsTupleIter j t i)(ht:s.heap.IsTuple t xs)(hx:xs[i]?=none)(hE:∀g e,Heap.ExtBut j s.heap g→(∃o,g.get? e=some o∧o.cls=.type "StopIteration")→E (.ref e) {s with heap:=g}):wpAny (model prog w) A (Builtin.SmallTypes.nextOf (.ref j)) Q E s:=by
 obtain⟨o,ho,hc,hd⟩:=id st
 obtain⟨p,hp,_,k,hk⟩:=ht
 unfold Builtin.SmallTypes.nextOf
 refine wpAny_bind (wpAny_callSpecial?_slot (name:=Str.ofString "__next__") st.typeIs Wm (wpAny_call_entry Wm st.typeIs Kw ?_ (Kl _)))
 show wpAny _ _ (field (.ref j) 0 >>= _) _ _ s
 refine wpAny_bind (wpAny_field ho hd (x:=.ref t) rfl ?_)
 show wpAny _ _ (if(Value.ref t==.none)=true then _ else _) _ _ s
 rw[if_neg (show ¬((Value.ref t==.none)=true) from Zc)]
 show wpAny _ _ (field (.ref j) 1 >>= _) _ _ s
 refine wpAny_bind (wpAny_field ho hd (x:=.int i 0) rfl ?_)
 show wpAny _ _ (seqItems? (.ref t) >>= _) _ _ s
 refine wpAny_bind (wpAny_seqItems hp hk ?_)
 simp only[Ws,hx]
 refine wpAny_bind (wpAny_rule (wpAny_bind (wpAny_setField ho hd (by simp) ?_)))
 show wpAny _ _ (newExc (.type "StopIteration") [] >>= _) _ _ _
 refine wpAny_bind ?_
 simp only[newExc,newTuple]
 refine wpAny_bind (wpAny_newObj_type (wpAny_bind (m:=firstArgMember _ _) (wpAny_of_eq (a:=Value.none) (by first | rfl | (simp only[firstArgMember];rfl)) (wpAny_newObj_type ?_ (by size_fits)))) (by size_fits))
 simp only[raiseNew]
 refine wpAny_bind (wpAny_handled ?_)
 first | rw[show A.in1.handled=none from hh] | rw[hh]
 refine wpAny_bind (wpAny_pure (wpAny_throw (hE _ _ (((Wn ..).extBut.push _).push _) ⟨_,Qw _ rfl,rfl⟩)))
theorem drawsT(hh:A.handled=none)(j t:Nd)(aJ:t≠j)(xs:Array Value) :
  Draws prog w A j [j,t] xs.size (λi v=>xs[i]?=some v) (λi h=>h.IsTupleIter j t i∧h.IsTuple t xs) where
 live:=λ_ _ st=>let⟨o,ho,_⟩:=st.1;⟨o,ho⟩
 frame:=λi h h' st k=>⟨st.1.at λo e=>k j (by simp) o e,let⟨o,e,r⟩:=st.2;⟨o,k t (by simp) o e,r⟩⟩
 item:=λi s Q E hi st hQ=>by
  refine next_item st.1 st.2 (x:=xs[i]) (by simp[hi]) λg a b=>?_
  obtain⟨o,e,r⟩:=st.2
  exact hQ _ g s.toks (by simp[hi]) ⟨a,o,(b.2 t aJ).trans e,r⟩ b
 done:=λs Q E st hE=>next_end hh st.1 st.2 (by simp) hE
def new_tuple(t:Nd)(xs:Array Value)(n:Nat)(dct:Option Addr)(sl:Array (Option Value)) :
  Meets (Builtin.«enumerate.__new__» ⟨[.type "enumerate",.ref t],[]⟩) (λ_ R s=>s.heap.get? t=some {cls:=.type "tuple",dict:=dct,data:=.seq xs n,slots:=sl} ∧
   R (.ok (.ret (.ref (s.heap.push {cls:=.type "tuple_iterator",data:=.fields #[.ref t,.int 0 0]}).objs.size)))
    {s with heap:=(s.heap.push {cls:=.type "tuple_iterator",data:=.fields #[.ref t,.int 0 0]}).push {cls:=.type "enumerate",data:=.fields #[.none,.bool false,.ref s.heap.objs.size,rawInt 0,.none,.none]}}) :=
 .of_wp λprog w A R s h=>by
  obtain⟨hp,g,d,tk,os⟩:=s;obtain⟨hl,h⟩:=h
  have jA:=sub_enumerate
  have hL:Heap.IsTuple (Shared.heap ⟨hp,g,d,tk,os⟩) t xs:=⟨_,hl,rfl,n,rfl⟩
  wp_walk using wpAny_loadPart' hl
  refine wpAny_stack_any λst=>wpAny_pure ?_
  split
  ·rename_i c _ _ _ _ _
   cases(c==Value.type "enumerate")<;>(wp_walk using wpAny_loadPart' hl,wpAny_pyIter_tuple hL;exact⟨_,rfl,h⟩)
  ·wp_walk using wpAny_loadPart' hl,wpAny_pyIter_tuple hL
   exact⟨_,rfl,h⟩
def call_enum(hL:s.heap.IsTuple t xs)(h:∀g,IsEnum g (s.heap.objs.size+1) s.heap.objs.size 0 .none→g.IsTupleIter s.heap.objs.size t 0→g.objs.size=s.heap.objs.size+2→(∀b o,s.heap.get? b=some o→g.get? b=some o)→Q (.ref (s.heap.objs.size+1)) {s with heap:=g}) :
  wpAny (model prog w) A (call (.type "enumerate") [.ref t]) Q E s:=by
 obtain⟨⟨c,dct,dt,sl⟩,hl,hc,n,hd⟩:=hL
 replace hc:c=.type "tuple" := hc
 replace hd:dt=.seq xs n:=hd
 subst hc hd
 refine callType_new F.called_enumerate (by decide) (F.typeCall_enumerate_1 _) (F.newCall_enumerate_1 _) (λobj=>F.args_object_init_2 obj _) F.entry_enumerate_new (new_tuple t xs n dct sl) ⟨hl,?_⟩
 have hz:(s.heap.push {cls:=.type "tuple_iterator",data:=.fields #[.ref t,.int 0 0]}).objs.size=s.heap.objs.size+1:=Wl ..
 show _∧_
 rw[hz]
 have he:IsEnum ((s.heap.push {cls:=.type "tuple_iterator",data:=.fields #[.ref t,.int 0 0]}).push {cls:=.type "enumerate",data:=.fields #[.none,.bool false,.ref s.heap.objs.size,rawInt 0,.none,.none]}) (s.heap.objs.size+1) s.heap.objs.size 0 .none:=by
  have q:=Qw (s.heap.push {cls:=.type "tuple_iterator",data:=.fields #[.ref t,.int 0 0]}) (o:={cls:=.type "enumerate",data:=.fields #[.none,.bool false,.ref s.heap.objs.size,rawInt 0,.none,.none]}) rfl
  rw[hz]at q;exact q
 exact⟨⟨_,he,rfl⟩,h _ he ⟨_,Qf _ (Qw _ rfl),rfl,rfl⟩ (by rw[Wl,hz]) λb o x=>Qf _ (Qf _ x)⟩
end
end Enu
namespace L2
open PySem PySem.Spec PyProof.Rows Enu
def Ite(a:Nd)(K:Nb):It :=
 ⟨λi H=>∃xs,SqT K H a xs∧i<xs.length,λi H x H'=>∃y t,(∀xs,SqT K H a xs→xs[i]?=some y)∧H t=none∧x=.ref t∧H'=upd H t (.tup [.int i,y]),λi H=>∃xs,SqT K H a xs∧xs.length≤i⟩
theorem turn_enum{P:Nj}{w:Nk}{K:Nb}{elts:Np}{kk:Nat}{pos:Pos}(a e j:Nd)(t8:e≠j)(haj:a≠j)(hae:e≠a) :
  Turn P w K (.Tuple elts kk pos) (Ite a K) [e,j] e (λi h=>(∃old,IsEnum h e j i old)∧h.IsTupleIter j a i) where
 mem:=by simp
 obj:=λi h st b hb=>by
  rcases Qh.mp hb with z | z
  ·subst z
   obtain⟨old,q⟩:=st.1
   exact⟨_,q,λv z=>by
    have z':Data.fields _=Data.cell v:=z
    cases z'⟩
  ·rw [Qb.mp z]
   obtain⟨o,q,c,d⟩:=st.2
   exact⟨o,q,λv z=>by rw[d]at z;cases z⟩
 keep:=λi h h' st k=>⟨let⟨old,q⟩:=st.1;⟨old,k e (by simp) _ q⟩,st.2.at λo q=>k j (by simp) o q⟩
 item:=by
  intro X hP hw hK hc i a6 s σ H E I hf st hg
  subst hP hw hK
  obtain⟨xs,hq,hi⟩:=hg
  obtain⟨a7,rv,p,hz⟩:=I.tuple hq
  have hl:=rv.length
  obtain⟨⟨old,he⟩,gd⟩:=st
  have hh:X.A.in1.handled=none:=I.ok.hd hc
  refine wpAny_pyNext_enum_itemD (drawsT hh j a haj a7.toArray) he ⟨gd,p⟩ (by simp;exact zar7 ‹_› ‹_›) t8 (by simp[t8,hae]) λx g tk hP ho hs hT hsz hk=>⟨.ref s.heap.objs.size,rfl,?_⟩
  have fr:∀b,b∈[e,j]→FpOk X a6 H b:=hf
  obtain⟨e0,e1,e2,e3,e4,e5⟩:=hf e (by simp)
  obtain⟨j0,j1,j2,j3,j4,j5⟩:=hf j (by simp)
  have hHe:∀b u,H b=some u→b≠e∧b≠j:=λb u q=>⟨λz=>(by rw[z,e0]at q;cases q),λz=>(by rw[z,j0]at q;cases q)⟩
  have I1:Inv X a6 σ H {s with heap:=g,toks:=tk+1}:=by
   refine I.step (g':=s.gens) (d':=s.drawn) (ch:=[e,j]) (λb hb=>?_) (λb o _ _ hc q _=>hk b o (λz=>hc (by simp[z])) (λz=>hc (by simp[z])) q) (λb o _ _ hc q _=>⟨o.slots,hk b o (λz=>hc (by simp[z])) (λz=>hc (by simp[z])) q⟩) (λ_ _ _ _ n=>n)
    (λb o hc q=>⟨o,hk b o (λz=>hc (by simp[z])) (λz=>hc (by simp[z])) q⟩) (λ_ _ q=>q) (λ_ _ _ q=>q) (λb ps q=>⟨#[],by rw[q];simp⟩) (λm hm=>?_) (λb u q=>?_) I.bare
   ·rcases Qh.mp hb with z | z
    ·subst z;exact⟨e3,e1,e4,e5⟩
    ·rw[Qb.mp z];exact⟨j3,j1,j4,j5⟩
   ·obtain ⟨o,es,ep,q,r⟩:=hm
    exact⟨o,es,ep,hk _ o (Zi e1) (Zi j1) q,r⟩
   ·refine (I.hok b u q).stay (fun c v hc z=>?_) (fun _ z=>z) fun _ _ z=>z
    have hcn:c≠e∧c≠j:=by
     rcases hc with rfl | hc
     ·exact hHe c u q
     ·exact hHe c _ hc
    exact hk c v hcn.1 hcn.2 z
  obtain⟨y,hy⟩:∃y,xs[i]?=some y:=⟨xs[i],Qc hi⟩
  obtain⟨u,hu,ru⟩:=rv.get hy
  have hP':a7[i]?=some x:=by simpa using hP
  rw[hu]at hP'
  have hux:u=x:=Qv hP'
  subst hux
  have hN:H s.heap.objs.size=none:=I.hok.fresh (Qg _)
  refine wpAny_letOwnedTupleGo_enum ho λg' dY cw=>?_
  have nT:s.heap.objs.size≠e:=Yq (Qr he)
  have nJ:s.heap.objs.size≠j:=by obtain⟨o,q,_⟩:=gd;exact Yq (Qr q)
  have I2:Inv X a6 σ H {s with heap:=g',toks:=tk+1}:=Inv.turned (s:={s with heap:=g,toks:=tk+1}) (t':=tk+1) (it:=e) I1 (λb o hb q=>(cw.2 b hb).trans q) e0 e1 e3 e4 e5
  have hT':g'.get? s.heap.objs.size=some {cls:=.type "tuple",data:=.seq #[.int i tk,u]}:=(cw.2 _ nT).trans hT
  have I3:Inv X a6 σ (upd H s.heap.objs.size (.tup [.int i,y])) {s with heap:=g',toks:=tk+1}:=by
   refine⟨I2.ok,I2.os,I2.bare,⟨I2.base.keep,I2.base.slot,λb o q n hx=>?_,I2.base.there,λb zs q=>?_,λb o v q=>?_,λb ps q=>?_⟩,I2.loc,I2.cell,?_,λz c q=>?_,λpp hp=>?_,λb v q=>?_,I2.len⟩
   ·have lt:b < s.heap.objs.size:=Zs (Qr q) I.sz
    rw[zad (Zj lt)];exact I2.base.free b o q n hx
   ·have:=I2.base.tups b zs q
    rw[zad (zab this hN)];exact this
   ·have:=I2.base.frzs b o v q
    rw[zad (zab this hN)];exact this
   ·obtain ⟨m,z⟩:=I2.base.tbls b ps q
    exact⟨m,by rw[zad (zab z hN)];exact z⟩
   ·rw[zad (Zj I.lt)];exact I2.free
   ·rw[zad (Zj (I.cl_lt z c q))];exact I2.freeC z c q
   ·obtain ⟨h1,h2,h3⟩:=I2.pin pp hp
    exact⟨h1,by rw[zad (Zj (I.pin_lt pp hp))];exact h2,h3⟩
   ·by_cases hb:b=s.heap.objs.size
    ·subst hb
     rw[zac]at q
     cases q
     exact⟨by show 2≤sizeLine;decide,[.int i tk,u],.cons ⟨tk,rfl⟩ (.cons ru .nil),_,hT',rfl,_,rfl⟩
    ·rw [zad hb] at q
     exact(I2.hok b v q).stay (λc v _ z=>z) (λc z=>by rw[zad (zab z hN)];exact z) λc zs z=>by rw[zad (zab z hN)];exact z
  refine⟨.ref s.heap.objs.size,_,I3,rfl,⟨y,_,λys hys=>by rw[I.tuple_inj hys hq];exact hy,hN,rfl,rfl⟩,⟨⟨u,by simpa using dY⟩,?_⟩,λb hb=>?_⟩
  ·exact hs.1.at λo q=>(cw.2 j (Zi t8)).trans q
  ·rcases Qh.mp hb with z | z
   ·rw[z,zad (Zi nT)];exact e0
   ·rw[Qb.mp z,zad (Zi nJ)];exact j0
 done:=by
  intro X hP hw hK hc i a6 s σ H E I hf st hg
  subst hP hw hK
  obtain⟨xs,hq,hi⟩:=hg
  obtain⟨a7,rv,p,hz⟩:=I.tuple hq
  have hl:=rv.length
  obtain⟨⟨old,he⟩,gd⟩:=st
  obtain⟨j0,j1,j2,j3,j4,j5⟩:=hf j (by simp)
  have hh:X.A.in1.handled=none:=I.ok.hd hc
  have hT:s.TypeIs (.ref e) "enumerate" := ⟨_,he,rfl⟩
  unfold pyNext
  refine wpAny_bind (wpAny_attempt (wpAny_callSpecial?_slot (name:=Str.ofString "__next__") hT F.slot_enumerate_next (wpAny_call_entry F.slot_enumerate_next hT F.entry_enumerate_next ?_ (F.args_enumerate_next_1 _))))
  show wpAny _ _ (field (.ref e) 2 >>= _) _ _ _
  refine wpAny_bind (wpAny_field he rfl (x:=.ref j) rfl (wpAny_bind (next_end hh gd p (by simp;exact zd7 ‹_› ‹_›) λg x hg hx=>?_)))
  obtain⟨o,ho,hc⟩:=hx
  refine wpAny_bind (wpAny_isInstance (T := "StopIteration") (b:=true) ⟨o,ho,hc⟩ isSubtype_stop (wpAny_pure ⟨rfl,?_⟩))
  exact I.turned (t':=s.toks) (λb o hb q=>hg b o hb q) j0 j1 j3 j4 j5
 self:=λA i s Q E st h=>by
  obtain⟨⟨old,he⟩,_⟩:=st
  exact wpAny_pyIter_enum he h
end L2
end
section
namespace L2
open PySem PySem.Spec PyProof.Rows Enu
section
variable{X:Cx}
def iEnum(K:Nb)(ta:TA):TI:=λ σ H R=>ta σ H λvs H1=>∃a,vs=[.ref a]∧(∃xs,SqT K H1 a xs)∧R (Ite a K) H1
def pi_enum(hg:Gl X "enumerate")(hm:X.mg "enumerate" = none)(ha:PA X [a] ta)(hs:starEach [a] X.env=[(false,eval a X.env)]:=by rfl) :
  PI X (.Tuple elts kk tpos) (.Call (.Name "enumerate" p) [a] [] pos) (iEnum X.K ta):=by
 intro a6 s σ H R I h
 refine Call_ (ld_blt I hg hm boot_enumerate (Kb (thn (ha pos a6 s σ H _ I h) λus s1 ⟨vs,H1,I1,r1,q1⟩=>?_) hs rfl))
 obtain⟨t,e,⟨xs,hq⟩,q⟩:=q1
 subst e
 obtain⟨u,rfl,ru⟩:=vals1 r1
 cases ru
 obtain⟨a7,rv,pl,hz⟩:=I1.tuple hq
 have lt:t<s1.heap.objs.size:=by obtain⟨o,q,_⟩:=pl;exact Qr q
 refine call_enum pl λg he gd hsz k=>wpAny_pyIter_enum he ?_
 have I2:Inv X a6 σ H1 {s1 with heap:=g}:=I1.kept (t':=s1.toks) k
 refine⟨s1.heap.objs.size+1,[s1.heap.objs.size+1,s1.heap.objs.size],_,_,H1,rfl,I2,turn_enum t _ _ (Kx _) (Zj lt) (Yq (Ul lt)),⟨⟨_,he⟩,gd⟩,λb hb=>?_,q⟩
 have px:s1.heap.objs.size≤b:=by
  rcases Qh.mp hb with z | z
  ·rw[z];exact Jk _
  ·rw[Qb.mp z];exact Qg _
 exact I1.fpOk px (I1.hok.fresh px)
def for_enum{K:Nb}{a:Nd}{xs:List V}{g:TG}{tb:TS}{D:Ends}{σ:St}{H:Hp}(Pv:Nat→St→Hp→Prop)(h0:Pv 0 σ H)(hl:∀i σ H,i≤xs.length→Pv i σ H→H a=some (.tup xs))(hs:∀i x t σ H,xs[i]?=some x→Pv i σ H→H t=none→g (.ref t) σ (upd H t (.tup [.int i,x])) λ σ2 H2=>tb {D with nx:=Pv (i+1),ct:=Pv (i+1),bk:=D.nx} σ2 H2)(hd:∀σ H,Pv xs.length σ H→D.nx σ H) :
  ∃W:Nat→Nat→St→Hp→Prop,(∃m,W 0 m σ H)∧∀i m σ H,W i m σ H →
   ((Ite a K).stop i H∧D.nx σ H)∨((Ite a K).go i H∧∃N:St→Hp→Prop,(∀σ' H',N σ' H'→∃m',m'<m∧W (i+1) m' σ' H')∧∀x H',(Ite a K).yld i H x H'→g x σ H' λ σ2 H2=>tb {D with nx:=N,ct:=N,bk:=D.nx} σ2 H2):=by
 refine⟨λi m σ H=>m=xs.length-i∧i≤xs.length∧Pv i σ H,⟨xs.length,by simp,Zp _,h0⟩,?_⟩
 rintro i m σ H ⟨rfl,hi,p⟩
 have q:=hl i σ H hi p
 by_cases ad:i<xs.length
 ·refine .inr ⟨⟨xs,SqT.of q,ad⟩,Pv (i+1),fun σ' H' p'=>⟨xs.length - (i+1),by exact zar1 ‹_›,rfl,ad,p'⟩,fun x H' y=>?_⟩
  obtain⟨z,t,e1,e3,rfl,rfl⟩:=y
  exact hs i z t σ H (e1 xs (SqT.of q)) p e3
 ·have e:i=xs.length:=by exact zar3 ‹_› ‹_›
  subst e
  exact .inl ⟨⟨xs,SqT.of q,Qg _⟩,hd σ H p⟩
def Its(x:Str):It:=⟨λi _=>i<x.cps.size,λi H v H'=>H'=H∧∃c,x.cps[i]?=some c∧v=.str ⟨#[c]⟩,λi _=>x.cps.size≤i⟩
theorem turn_str{P:Nj}{w:Nk}{K:Nb}{tg:Expr}{x:Str}{t:Tok}(it:Nd):Turn P w K tg (Its x) [it] it (λi h=>h.IsStrIter it "str_ascii_iterator" x t i) where
 mem:=by simp
 obj:=λi h st b hb=>by
  rw[Qb.mp hb]
  obtain⟨o,e,c,d⟩:=st
  exact⟨o,e,λv z=>by rw[d]at z;cases z⟩
 keep:=λi h h' st k=>let⟨o,ho,r⟩:=st;⟨o,k it (by simp) o ho,r⟩
 item:=by
  intro X hP hw hK hc i a6 s σ H E I hf st hg
  subst hP hw hK
  obtain⟨f0,f1,f2,f3,f4,f5⟩:=hf it (by simp)
  have hi:i<x.cps.size:=hg
  refine wpAny_pyNext_ascii_item st (c:=x.cps[i]) (by simp[hi]) λh' a9 sb=>?_
  have I1:Inv X a6 σ H {s with heap:=h',toks:=s.toks+1}:=I.turned (λb o hb e=>(sb.2 b hb).trans e) f0 f1 f3 f4 f5
  obtain⟨o,e,c,d⟩:=id a9
  exact⟨_,rfl,go_of (s:={s with heap:=h',toks:=s.toks+1}) e c d (by decide) ⟨.str ⟨#[x.cps[i]]⟩,H,I1,⟨_,rfl⟩,⟨rfl,_,by simp[hi],rfl⟩,a9,λb hb=>(hf b hb).1⟩⟩
 done:=by
  intro X hP hw hK hc i a6 s σ H E I hf st hg
  subst hP hw hK
  obtain⟨f0,f1,f2,f3,f4,f5⟩:=hf it (by simp)
  have hi:x.cps.size≤i:=hg
  exact wpAny_pyNext_ascii_end (I.ok.hd hc) st (by simp[hi]) λh' eb=>⟨rfl,I.turned (t':=s.toks) (λb o hb e=>eb b o hb e) f0 f1 f3 f4 f5⟩
 self:=λ_ _ _ _ _ st h=>wpAny_pyIter_striter_ascii st h
def iStr(tl:TE):TI:=λ σ H R=>tl σ H λv H1=>∃x:Str,v=.str x∧x.cps.all (· < 128)=true∧R (Its x) H1
def pi_str{tg l:Expr}{tl:TE}(hl:PE X l tl):PI X tg l (iStr tl):=by
 intro a6 s σ H R I h
 refine thn (hl a6 s σ H _ I h) λv s1 ⟨y,H1,I1,r1,q1⟩=>?_
 obtain⟨x,e,ha,q⟩:=q1
 subst e
 obtain⟨t,rfl⟩:=r1
 refine wpAny_pyIter_ascii ha ?_
 refine⟨s1.heap.objs.size,[s1.heap.objs.size],_,_,H1,rfl,I1.kept (t':=s1.toks) λb o e=>Qf _ e,turn_str (t:=t) _,⟨_,Qw _ rfl,rfl,rfl⟩,λb hb=>?_,q⟩
 rw[Qb.mp hb]
 exact I1.fpOk (Qg _) (I1.hok.fresh (Qg _))
def op_le_str:OpR X (compareOp .LtE) (λx y H Q=>Ex2 λi j=>Aj3 (x=.str i) (y=.str j) (Q (.bl (!decide (j.cps.toList<i.cps.toList))) H)):=by
 intro a6 s σ H x y v u Q I rx ry h
 obtain⟨i,j,rfl,rfl,q⟩:=h
 obtain⟨t,rfl⟩:=rx
 obtain⟨t',rfl⟩:=ry
 exact PySem.P.le_str (za8 I q rfl)
end
end L2
end
section
namespace L2
open PySem PySem.Spec PyProof.Rows
section
variable{X:Cx}{a6:Nc}{σ:St}{H:Hp}{s:Nh}
inductive RrNil(neg:Bool)(K:Nb)(x:V)(y:V)(H:Hp)(Q:VK):Prop
 |mk (l:_) (b:_) (xs:_) (h0:x=.ref l) (h1:y=.ref b) (h2:SqL K H l xs) (h3:SqL K H b []) (h4:Q (.bl (if neg then !xs.isEmpty else xs.isEmpty)) H):RrNil neg K x y H Q
def rNil(neg:Bool)(K:Nb):R2:=λx y H Q=>RrNil neg K x y H Q
def op_eq_nil(hu:X.A.units<cLine):OpR X (compareOp .Eq) (rNil false X.K):=by
 intro a6 s σ H x y v u Q I rx ry h
 obtain⟨l,b,xs,rfl,rfl,h1,h2,q⟩:=h
 cases rx;cases ry
 obtain⟨a7,r,pl,_⟩:=I.list h1
 obtain⟨aP,r2,gU,_⟩:=I.list h2
 cases r2
 cases r with
 |nil=>exact SeqAt.eq_listAt (e:=λ_=>true) pl.isList gU.isList rfl hu (λj h1 _=>by simp at h1) ⟨.bl true,H,I,rfl,q⟩
 |cons a t=>exact SeqAt.eq_list_lengthsAt pl.isList gU.isList (by simp) hu ⟨.bl false,H,I,rfl,q⟩
def op_ne_nil(hu:X.A.units<cLine):OpR X (compareOp .NotEq) (rNil true X.K):=by
 intro a6 s σ H x y v u Q I rx ry h
 obtain⟨l,b,xs,rfl,rfl,h1,h2,q⟩:=h
 cases rx;cases ry
 obtain⟨a7,r,pl,_⟩:=I.list h1
 obtain⟨aP,r2,gU,_⟩:=I.list h2
 cases r2
 cases r with
 |nil=>exact SeqAt.RcNeAt.lists (e:=λ_=>true) pl.isList gU.isList rfl hu (λj h1 _=>by simp at h1) _ _ _ _ ⟨.bl false,H,I,rfl,q⟩
 |cons a t=>exact SeqAt.RcNeAt.lists_lengths pl.isList gU.isList (by simp) hu _ _ _ _ ⟨.bl true,H,I,rfl,q⟩
theorem argBest_lt:∀k,argBest bt k≤k
 |0=>Qg _
 |k+1=>by
  show(if bt (k+1) (argBest bt k)=true then k+1 else argBest bt k)≤k+1
  split
  ·exact Qg _
  ·exact Nat.le_succ_of_le (argBest_lt k)
theorem zc9(f:Nat→List Nat):∀k j,j≤k→¬f j<f (argBest (λi j=>decide (f i<f j)) k)
 |0,j,h=>by
  have:j=0:=by lia
  subst this
  exact Wh _
 | k+1,j,h=>by
  show ¬f j<f (if decide (f (k+1)<f (argBest (λi j=>decide (f i<f j)) k))=true then k+1 else argBest (λi j=>decide (f i<f j)) k)
  by_cases ad:f (k+1)<f (argBest (λi j=>decide (f i<f j)) k)
  ·rw [if_pos (decide_eq_true ad)]
   by_cases hj:j=k+1
   ·subst hj;exact Wh _
   ·intro z
    exact zc9 f k j (by lia) (List.lt_trans z ad)
  ·rw [if_neg (by simpa using ad)]
   by_cases hj:j=k+1
   ·subst hj;exact ad
   ·exact zc9 f k j (by lia)
def zio(hc:X.calm=true):zb2 X (.builtin "min") (λxs H Q=>Ex2 λ(p:Nd) (zs:Nf)=>Aj4 (xs=[.ref p]) (SqL X.K H p (zs.map V.str)) (zs≠[]) (∀z∈zs,(∀y∈zs,leS z y)→Q (.str z) H)):=by
 intro a6 s σ H xs us Q I r h
 obtain⟨p,zs,rfl,hq,aJ,q⟩:=h
 obtain⟨u,rfl,rx⟩:=vals1 r
 cases rx
 have cG:0<zs.length:=Wv.mpr aJ
 refine call_min_walk (zhm hc I hq λa7 It h1 rv W st lt keep=>⟨It,_,_,_,_,_,λi j=>decide ((zs.getD i Str.empty).cps.toList<(zs.getD j Str.empty).cps.toList),rfl,W,st,lt,?_,λi j vi vj s' Q' E' hi hj fH=>?_,λv h' tk hv k=>?_⟩)
 ·have:=rv.length
  rw[Qa]at this
  rw[Qq];exact zar7 ‹_› ‹_›
 ·have gs:∀ (i:Nat) (v:Value),a7.toArray[i]?=some v→∃ t,v=.str (zs.getD i Str.empty) t:=fun i v e=>by
   have e':a7[i]?=some v:=by simpa using e
   have hi:i<a7.length:=(Ze.mp e').1
   have hl:=rv.length
   rw[Qa]at hl
   have ay:i<zs.length:=by exact zar6 ‹_› ‹_›
   obtain⟨u,e2,t,e3⟩:=rv.get (i:=i) (x:=.str zs[i]) (by simp[ay])
   rw[e']at e2
   cases e2
   exact⟨t,by rw[e3];simp[List.getD,ay]⟩
  obtain⟨t1,rfl⟩:=gs i vi hi
  obtain⟨t2,rfl⟩:=gs j vj hj
  exact lt_str fH
 ·have hl:=rv.length
  rw[Qa]at hl
  have hk:=argBest_lt (bt:=λi j=>decide ((zs.getD i Str.empty).cps.toList<(zs.getD j Str.empty).cps.toList)) (a7.toArray.size-1)
  generalize hb:argBest (λi j=>decide ((zs.getD i Str.empty).cps.toList<(zs.getD j Str.empty).cps.toList)) (a7.toArray.size-1)=b at hv hk
  have bQ:b<zs.length:=by rw[Qq]at hk;lia
  have l6:a7[b]?=some v:=by simpa using hv
  obtain⟨u,e2,t,e3⟩:=rv.get (i:=b) (x:=.str zs[b]) (by simp[bQ])
  rw[l6]at e2
  cases e2
  refine⟨.str zs[b],H,keep h' tk k,⟨t,e3⟩,q _ (Qp bQ) λy hy=>?_⟩
  obtain⟨j,hj,ej⟩:=Zq hy
  have:=zc9 (λi=>(zs.getD i Str.empty).cps.toList) (a7.toArray.size-1) j (by rw[Qq];lia)
  rw[hb]at this
  have g1:zs.getD b Str.empty=zs[b]:=by simp[List.getD,bQ]
  have g2:zs.getD j Str.empty=y:=by simp[List.getD,hj,ej]
  rw[g1,g2]at this
  exact this
end
section
variable{X:Cx}
end
end L2
end
section
namespace SetT
open PySem PyProof.Rows PySem.Spec
section
variable{prog:Nj}{w:Nk}{A:No}{R:Nu}{I:Nd}{fp wr:Nl}{G:Array GenState→Array GenState→Prop}{n:Nat}{P:Nat→Value→Prop}{St:Nat→Shared→Prop}
def loop(W:WalksS prog w A.in1 I fp wr G n P St)(S:Nd)(pz:S∉fp)(zs:Nf)(hz:zs.length=n)(nd:zs.Nodup)(ju:∀i v,P i v→∃t,v=.str (zs.getD i Str.empty) t)(hb:n+1<scanBound) :
  ∀(k i:Nat) (s:Nh),n-i=k→i≤n→St i s→s.heap.SetOf (PySem.strKind prog w) S (λx=>decide (x∈zs.take i)) i →
   (∀s',Moved (S::wr) G s s'→s'.heap.SetOf (PySem.strKind prog w) S (λx=>decide (x∈zs.take n)) n→R (.ok (.ret .none)) s')→codeAny (model prog w) A (.builtin "set.update.loop" ⟨[.ref S,.ref I],[]⟩) R s:=by
 have hSw:S∉wr:=λh=>pz (W.sub _ h)
 have sub:∀b∈wr,b∈S::wr:=λb q=>Qi _ q
 intro k
 induction k with
 |zero =>
  intro i s hk hi ap hS hR
  obtain rfl:i=n:=by lia
  refine codeAny_builtin F.entry_set_update_loop ?_
  rw[Wi F.plain_set_update_loop _]
  show wpAny _ A.in1 (pyNext (.ref I) >>= _) _ _ s
  refine wpAny_bind (W.done s _ _ ap λs' hm=>(show wpAny _ A.in1 (ret Value.none) _ _ s' from wpAny_pure (hR s' (hm.mono sub) ?_)))
  obtain⟨o,es,ep,t,ho,rest⟩:=hS
  exact⟨o,es,ep,t,hm.heap S _ hSw ho,rest⟩
 | succ k ih =>
  intro i s hk hi ap hS hR
  have lt:i<n:=by lia
  refine codeAny_builtin F.entry_set_update_loop ?_
  rw[Wi F.plain_set_update_loop _]
  show wpAny _ A.in1 (pyNext (.ref I) >>= _) _ _ s
  refine wpAny_bind (W.item i s _ _ lt ap λv s' hP jB hm=>?_)
  obtain⟨t,rfl⟩:=ju i v hP
  have ay:i<zs.length:=by exact zar6 ‹_› ‹_›
  have eg:zs.getD i Str.empty=zs[i]:=by simp[List.getD,ay]
  rw[eg]
  have lu:s'.heap.SetOf (PySem.strKind prog w) S (λx=>decide (x∈zs.take i)) i:=by
   obtain⟨o,es,ep,tb,ho,rest⟩:=hS
   exact⟨o,es,ep,tb,hm.heap S _ hSw ho,rest⟩
  show wpAny _ A.in1 (holding [Value.str zs[i] t] (setAdd S (.str zs[i] t)) >>= _) _ _ s'
  refine wpAny_bind (wpAny_holding ?_)
  unfold setAdd
  refine wpAny_holding (wpAny_bind ((PySem.strKind prog w).pyHash (k:=zs[i]) (by simp[PySem.strKind,Value.isStrOf]) ?_))
  have nin:decide (zs[i]∈zs.take i)=false:=decide_eq_false λq=>by
   obtain⟨j,hj,e⟩:=Zq q
   rw[Zn]at hj
   rw[Uy]at e
   have:=(We nd).mp e
   lia
  refine wpAny_setAddHashed_of (knd:=PySem.strKind prog w) (k:=zs[i]) (by simp[PySem.strKind,Value.isStrOf]) rfl lu (by lia) λg sb hS2=>?_
  have kF:g.SetOf (PySem.strKind prog w) S (λx=>decide (x∈zs.take (i+1))) (i+1):=by
   refine SetOf_congr hS2 (λx=>?_) (by simp only[nin];simp)
   rw[Yu]
   simp only[Bool.or_eq_true,decide_eq_true_eq]
   rw[Qo ay,Qd,Qb]
  refine wpAny_pure ⟨plainId_quiet F.plain_set_update_loop _,ih (i+1) _ (by lia) lt (W.frame _ s' _ _ jB (by first | exact Qg _ | exact Jk _) λb q o e=>?_) kF λs2 bJ hS3=>hR s2 (Moved.trans W.gtrans ((hm.mono sub).then_heap (by first | exact Qg _ | exact Jk _) λb o q e=>?_) bJ) hS3⟩
  ·rw[sb.2 b (λz:b=S=>pz (by rw[←z];exact q))];exact e
  ·rw[sb.2 b (λz:b=S=>q (by rw[z];exact Qe))];exact e
end
section
variable{prog:Nj}{w:Nk}{A:No}{E:Na}{s:Nh}
def call_set{l:Nd}{a7:Ni}{zs:Nf}{Q:Na}(hh:A.handled=none)(hl:s.heap.IsList l a7.toArray)(hz:zs.length=a7.length)(nd:zs.Nodup)(ju:∀(i:Nat) (v:Value),a7[i]?=some v→∃t,v=.str (zs.getD i Str.empty) t)(hb:a7.length+1<scanBound)(h:∀(g:Nm) (tk:Nat),g.SetOf (PySem.strKind prog w) s.heap.objs.size (λx=>decide (x∈zs)) zs.length→(∀b o,s.heap.get? b=some o→g.get? b=some o)→Q (.ref s.heap.objs.size) {s with heap:=g,toks:=tk}) :
  wpAny (model prog w) A (call (.type "set") [.ref l]) Q E s:=by
 obtain⟨c,tl,hmro⟩:=Wo.mro
 have hmade:=Wo.made
 have jA:=Wo.sub
 refine wpAny_call (codeAny_of_tree (show wpAny _ _ (callAny (.type "set") _) _ _ _ from wpAny_pure ⟨Code.quiet_builtin _ (by decide +kernel),codeAny_builtin PySem.F.entry_type_call ?_⟩))
 rw[Around.under_plain (weight_type_call_type "set" [.ref l] []) rfl]
 have h1:=Wo.notType
 have h2:=Wo.canCreate
 have lq:=PySem.F.typeCall_set_1 (.ref l)
 repeat(any_goals (first | assumption | wp_step))
 refine codeAny_mono (code_set_new_1 (.ref l) (E:=E) (Q₁:=λobj s₁=>∃led:Bool,obj=.ref s.heap.objs.size∧s₁={s with heap:=s.heap.push {cls:=.type "set",dict:=none,data:=.set #[] 0 (.fresh 0 0 led)}}) λled=>⟨led,rfl,rfl⟩) λr s1 hr=>?_
 cases r with
 |error e=>exact hr
 | ok fl =>
  cases fl with
  | ret obj =>
   obtain⟨led,rfl,rfl⟩:=hr
   have hS:(s.heap.push {cls:=.type "set",dict:=none,data:=.set #[] 0 (.fresh 0 0 led)}).get? s.heap.objs.size=some {cls:=.type "set",dict:=none,data:=.set #[] 0 (.fresh 0 0 led)}:=Qw _ rfl
   have hT:Shared.TypeIs {s with heap:=s.heap.push {cls:=.type "set",dict:=none,data:=.set #[] 0 (.fresh 0 0 led)}} (.ref s.heap.objs.size) "set" := ⟨_,hS,rfl⟩
   have hli:=Wo.init.lookup
   have hbi:=Wo.init.bind (.ref s.heap.objs.size)
   repeat(any_goals (first | assumption | wp_step))
   refine codeAny_mono (codeAny_call_builtin (R:=wants (λr s₂=>r=.none∧∃g tk,s₂={s with heap:=g,toks:=tk}∧g.SetOf (PySem.strKind prog w) s.heap.objs.size (λx=>decide (x∈zs)) zs.length∧(∀b o,s.heap.get? b=some o→g.get? b=some o)) E)
    Wo.init.plain PySem.F.entry_set_init (check_set_init_1 hT ?_)) λr2 s2 dB=>?_
   ·obtain ⟨ol,jL,cA,nl,gG⟩:=hl
    obtain⟨ocls,odict,odata,oslots⟩:=ol
    simp only at cA gG
    subst cA;subst gG
    have rK:(s.heap.push {cls:=.type "set",dict:=none,data:=.set #[] 0 (.fresh 0 0 led)}).get? l=some {cls:=.type "list",dict:=odict,data:=.seq a7.toArray nl,slots:=oslots}:=Qf _ jL
    have hsls:=PySem.F.sub_list_set
    have hslf:=PySem.F.sub_list_frozenset
    have aJ:(Value.type "list" == Value.type "dict")=false:=by decide
    have bp:(s.heap.push {cls:=.type "set",dict:=none,data:=.set #[] 0 (.fresh 0 0 led)}).IsList l a7.toArray:=⟨_,rK,rfl,nl,rfl⟩
    unfold Builtin.«set.__init__» noKeywords Builtin.Frozenset.updateFrom
    generalize hPI:pyIter=PI
    wp_walk
    subst hPI
    refine wpAny_pyIter_list bp (wpAny_bind (wpAny_runValue ?_))
    have hlS:l<s.heap.objs.size:=Qr jL
    have hh3:A.in1.in1.in1.handled=none:=by simp[hh]
    have z1:(s.heap.push {cls:=.type "set",dict:=none,data:=.set #[] 0 (.fresh 0 0 led)}).objs.size=s.heap.objs.size+1:=Wl ..
    have rO:l≠(s.heap.push {cls:=.type "set",dict:=none,data:=.set #[] 0 (.fresh 0 0 led)}).objs.size:=by rw[z1];exact Zj (Ul hlS)
    have pz:s.heap.objs.size∉[(s.heap.push {cls:=.type "set",dict:=none,data:=.set #[] 0 (.fresh 0 0 led)}).objs.size,l]:=by
     rw[z1];simp only[Qh,List.not_mem_nil,or_false,not_or]
     exact⟨Zj (Ya _),Yq hlS⟩
    refine loop ((Walks.list hh3 _ l rO a7.toArray).toS) s.heap.objs.size pz zs (by rw[Qq];exact hz) nd (λi v hv=>ju i v (by simpa using hv)) (by rw[Qq];exact hb) _ 0 _ rfl (Zp _) ⟨⟨_,Qw _ rfl,rfl,rfl⟩,(bp.push _)⟩ ?_ ?_
    ·exact SetOf_congr ((setObjOf_fresh (knd:=PySem.strKind prog w) led).setOf (Qf _ hS) (by unfold scanBound;exact Nat.le_add_left _ _)) (λ_=>by simp) rfl
    ·intro s' hm lu
     obtain⟨g,g',d',pX,qb⟩:=s'
     have eg:g'=s.gens:=hm.gens
     have ed:d'=s.drawn:=hm.drawn
     have eo:qb=s.os:=hm.os
     subst eg;subst ed;subst eo
     show wpAny _ _ _ _ _ _
     refine wpAny_pure (show wpAny _ _ (ret Value.none) _ _ _ from wpAny_pure ⟨rfl,g,pX,rfl,?_,λb o e=>?_⟩)
     ·have e1:a7.toArray.size=zs.length:=by rw [Qq,hz]
      rw[e1,Qz (Qg _)]at lu
      exact lu
     ·have lr:b < s.heap.objs.size:=Qr e
      refine hm.heap b o ?_ (Qf _ (Qf _ e))
      rw[z1]
      simp only[Qh,List.not_mem_nil,or_false,not_or]
      exact⟨Zj lr,Zj (Ul lr)⟩
   ·cases r2 with
    |error e=>exact dB
    | ok pG =>
     cases pG with
     |ret r =>
      obtain⟨rfl,g,tk,rfl,lu,se⟩:=dB
      repeat(any_goals (first | assumption | wp_step))
      exact h _ _ lu se
     |_=>exact dB.elim
  |_=>exact hr.elim
end
end SetT
namespace L2
open PySem PySem.Spec PyProof.Rows
def setO(P:Nj)(w:Nk)(a:Nd)(zs:Nf):HO:=.ext λh=>h.SetOf (PySem.strKind P w) a (λx=>decide (x∈zs)) zs.length
section
variable{X:Cx}
def zim(hc:X.calm=true):zb2 X (.type "set") (λxs H Q=>Ex2 λ(p:Nd) (zs:Nf)=>Aj5 (xs=[.ref p]) (SqL X.K H p (zs.map V.str)) zs.Nodup (zs.length≤1000) (∀l,H l=none→Q (.ref l) (upd H l (setO X.prog X.w l zs)))):=by
 intro a6 s σ H xs us Q I r h
 obtain⟨p,zs,rfl,hq,nd,hz,q⟩:=h
 obtain⟨u,rfl,rx⟩:=vals1 r
 cases rx
 obtain⟨a7,rv,pl,_⟩:=I.list hq
 have hl:=rv.length
 rw[Qa]at hl
 refine SetT.call_set (zs:=zs) (I.ok.hd hc) pl.isList hl nd (λi v e=>?_) (by unfold scanBound;lia) λg tk hS k=>?_
 ·have hi:i < a7.length:=(Ze.mp e).1
  have ay:i<zs.length:=by exact zar6 ‹_› ‹_›
  obtain⟨u,e2,t,e3⟩:=rv.get (i:=i) (x:=.str zs[i]) (by simp[ay])
  rw[e]at e2
  cases e2
  exact⟨t,by rw[e3];simp[List.getD,ay]⟩
 ·refine ⟨.ref _,_,I.laid (t':=tk) k (Qg _) (show zbr X.prog X.w _ g _ (setO X.prog X.w s.heap.objs.size zs) from ⟨hS,?_,fun h1 h2 p1 k1=>?_⟩),rfl,q _ (I.hok.fresh (Qg _))⟩
  ·obtain ⟨o,_,_,_,e,_⟩:=hS
   exact⟨o,e⟩
  ·obtain ⟨o,es,ep,t,e,rest⟩:=p1
   exact⟨o,es,ep,t,k1 o e,rest⟩
def ziq:zb2 X (.builtin "len") (λxs H Q=>Ex2 λ(p:Nd) (zs:Nf)=>Aj4 (xs=[.ref p]) (H p=some (setO X.prog X.w p zs)) (zs.length≤1000) (Q (.int zs.length) H)):=by
 intro a6 s σ H xs us Q I r h
 obtain⟨p,zs,rfl,hq,hz,q⟩:=h
 obtain⟨u,rfl,rx⟩:=vals1 r
 cases rx
 obtain⟨⟨o,es,ep,t,ho,nH,hd,gn,ij,hb,hf,hn⟩,_⟩:=(show zbr X.prog X.w H s.heap p (setO X.prog X.w p zs) from I.hok p _ hq)
 exact call_len_set ho nH hd hf (by rw[hn];lia) ⟨.int zs.length,H,I.tok _,⟨_,by rw[hn]⟩,q⟩
end
end L2
end
section
namespace DictR
open PySem PyProof.Rows PySem.Spec
def miss_keys:typeLookup (.type "list") "keys" = pure none:=am_miss_of_fast (by decide +kernel)
section
variable{prog:Nj}{w:Nk}{A:No}{E:Na}{s:Nh}
def no_keys{a:Nd}{xs:Array Value}{k:Nat}{sl:Array (Option Value)}{Q:Option Value→Shared→Prop}(hx:s.heap.get? a=some {cls:=.type "list",dict:=none,data:=.seq xs k,slots:=sl})(hA:A.handled=none)(h:∀g tk,(∀b o,s.heap.get? b=some o→g.get? b=some o)→Q none {s with heap:=g,toks:=tk}):wpAny (model prog w) A (getAttr? (.ref a) "keys") Q E s:=by
 obtain⟨hp,g,d,tk,os⟩:=s
 have hT:∀t',(⟨hp,g,d,t',os⟩:Shared).TypeIs (.ref a) "list" := λ_=>⟨_,hx,rfl⟩
 have f1:=sub_AttributeError
 have f3:=Xm.lookup
 have f4:=Xm.bind (.ref a)
 have f5:=am_list_getattr_none
 unfold getAttr? getAttrBy? getAttrBy
 repeat(any_goals (first | assumption | exact hT _ | ((with_reducible show wpAny _ _ (call (Value.builtin "list.__getattribute__") _ _) _ _ _);refine call_meets Xm (hT _) am_entry_list_getattribute (F.args_list_getattribute_2 _ _) (meets_getattribute_miss_list a xs k sl "keys" _ miss_keys (by decide +kernel) (by decide +kernel)) ⟨hx,hA,λh' pX e bE=>?_⟩) | wp_step))
 obtain⟨t',u',he⟩:=bE.there
 show wpAny _ _ (getattributeRaised _ _ _ _ _ _ _) _ _ _
 unfold getattributeRaised
 repeat(any_goals (first | assumption | wp_step))
 exact h h' pX bE.keeps
def zhd:entryFor table "dict.update.loop" = some Builtin.«dict.update.loop»:=entryFor_of_tree (by kernel_rfl)
def zdo:plainId "dict.update.loop" = true:=by decide +kernel
structure Row(K:Type) where
 a:Addr
 o:Obj
 k:K
 key:Value
 val:Value
 n:Nat
variable{K:Type}[DecidableEq K]{knd:KeyKind prog w K}
def RowAt(knd:KeyKind prog w K)(h:Nm)(r:Row K):Prop:=h.get? r.a=some r.o∧r.o.cls=.type "tuple" ∧ r.o.data=.seq #[r.key,r.val] r.n∧knd.is r.k r.key=true
def stored_new{kvs:List (K×Value)}(h:k∉kvs.map (·.1)):stored kvs k v=kvs++[(k,v)]:=by
 unfold stored
 rw[if_neg]
 intro z
 obtain⟨p,hp,e⟩:=Yw.mp z
 exact h (Qm.mpr ⟨p,hp,of_decide_eq_true e⟩)
def loop{R:Nu}{I l:Nd}(hh:A.handled=none)(rows:List (Row K))(d:Nd)(tu:d≠I)(gG:d≠l)(hlI:l≠I)(hr:∀ r∈rows,r.a≠d∧r.a≠I)(nd:(rows.map (·.k)).Nodup)(hz:rows.length≤sizeLine) :
  ∀(m i:Nat) (s:Nh),rows.length-i=m→i≤rows.length→s.heap.IsListIter I l i→s.heap.IsList l (rows.map λr=>Value.ref r.a).toArray→(∀r∈rows,RowAt knd s.heap r)→s.heap.DictOf knd d ((rows.take i).map λr=>(r.k,r.val)) →
   (∀g tk,(∀b o,b≠d→b≠I→s.heap.get? b=some o→g.get? b=some o)→g.DictOf knd d (rows.map λr=>(r.k,r.val))→R (.ok (.ret .none)) {s with heap:=g,toks:=tk}) →
   codeAny (model prog w) A (.builtin "dict.update.loop" ⟨[.ref d,.ref I,rawInt i,.none],[]⟩) R s:=by
 intro m
 induction m with
 |zero =>
  intro i s hm hi st hl hR hd hQ
  obtain rfl:i=rows.length:=by lia
  refine codeAny_builtin zhd ?_
  rw[Wi zdo _]
  show wpAny _ A.in1 (pyNext (.ref I) >>= _) _ _ s
  refine wpAny_bind (wpAny_pyNext_list_end (show A.in1.handled=none from hh) st hl (by simp) λg eb=>?_)
  show wpAny _ A.in1 (Builtin.Dict.addKeywords d [] >>= λ_=>ret Value.none) _ _ _
  refine wpAny_bind (show wpAny _ A.in1 (pure ()) _ _ _ from wpAny_pure (wpAny_pure (hQ g s.toks (λb o _ hb e=>eb b o hb e) ?_)))
  rw[Qz (Qg _)]at hd
  exact hd.extBut eb tu
 | succ m ih =>
  intro i s hm hi st hl hR hd hQ
  have lt:i<rows.length:=by lia
  obtain⟨e1,e2,e3,e4⟩:=hR rows[i] (Qp lt)
  obtain⟨n1,n2⟩:=hr rows[i] (Qp lt)
  refine codeAny_builtin zhd ?_
  rw[Wi zdo _]
  show wpAny _ A.in1 (pyNext (.ref I) >>= _) _ _ s
  refine wpAny_bind (wpAny_pyNext_list_item st hl (x:=.ref rows[i].a) (by simp[lt]) λg a9 sb=>?_)
  have k1:∀b o,b≠I→s.heap.get? b=some o→g.get? b=some o:=λb o hb e=>(sb.2 b hb).trans e
  have ki:g.DictOf knd d ((rows.take i).map λr=>(r.k,r.val)):=hd.sameBut sb tu
  refine wpAny_bind (wpAny_holding ?_)
  refine wpAny_bind (wpAny_tryCatch ?_)
  show wpAny _ A.in1 (Builtin.Dict.pairItems (.ref rows[i].a)) _ _ _
  unfold Builtin.Dict.pairItems
  refine wpAny_bind (wpAny_typeOf (T := "tuple") ⟨_,k1 _ _ n2 e1,e2⟩ ?_)
  rw[if_pos (by decide)]
  refine wpAny_bind (wpAny_seqItems (k1 _ _ n2 e1) e3 (wpAny_pure ?_))
  show wpAny _ A.in1 (holding [rows[i].key,rows[i].val] (dictSet d rows[i].key rows[i].val)) _ _ _
  have nk:rows[i].k∉((rows.take i).map λr=>(r.k,r.val)).map (·.1):=by
   rw[Zr]
   intro q
   obtain⟨r,aT,dB⟩:=Qm.mp q
   obtain⟨j,hj,ej⟩:=Zq aT
   rw[Zn]at hj
   rw[Uy]at ej
   have pf:j<rows.length:=by lia
   have:(rows.map (·.k))[j]'(by simpa using pf)=(rows.map (·.k))[i]'(by simpa using lt):=by
    rw[Zu,Zu,ej];exact dB
   have:=(We nd).mp this
   lia
  refine wpAny_holding (wpAny_dictSet_pairs (knd:=knd) e4 ki (λg2 pi sb2=>?_) (by rw[Qa,Zn];lia))
  rw[stored_new nk]at pi
  have nO:g2.DictOf knd d ((rows.take (i+1)).map λr=>(r.k,r.val)):=by
   rw[Qo lt,Qs];exact pi
  have k2:∀b o,b≠d→b≠I→s.heap.get? b=some o→g2.get? b=some o:=λb o gK bQ e=>(sb2.2 b gK).trans (k1 b o bQ e)
  have hc:((i:Int)+1)=((i+1:Nat):Int):=by push_cast;rfl
  refine wpAny_pure ⟨plainId_quiet zdo _,?_⟩
  rw[hc]
  refine ih (i+1) _ (by lia) lt ?_ ?_ (λr eO=>?_) nO λg3 tk3 k3 tw=>?_
  ·obtain ⟨o,q,z⟩:=a9
   exact⟨o,(sb2.2 I (Zi tu)).trans q,z⟩
  ·obtain ⟨o,q,z⟩:=hl
   exact⟨o,k2 l o (Zi gG) hlI q,z⟩
  ·obtain ⟨q1,q2⟩:=hR r eO
   exact⟨k2 _ _ (hr r eO).1 (hr r eO).2 q1,q2⟩
  ·exact hQ g3 tk3 (λb o gK bQ e=>k3 b o gK bQ (k2 b o gK bQ e)) tw
def call{l:Nd}{rows:List (Row K)}{Q:Na}{xk:Nat}(hh:A.handled=none)(hl:s.heap.get? l=some {cls:=.type "list",data:=.seq (rows.map λr=>Value.ref r.a).toArray xk})(hR:∀r∈rows,RowAt knd s.heap r)(nd:(rows.map (·.k)).Nodup)(hz:rows.length≤sizeLine)(h:∀g tk,g.DictOf knd s.heap.objs.size (rows.map λr=>(r.k,r.val))→(∀b o,s.heap.get? b=some o→g.get? b=some o)→Q (.ref s.heap.objs.size) {s with heap:=g,toks:=tk}) :
  wpAny (model prog w) A (call (.type "dict") [.ref l]) Q E s:=by
 refine callType_codes (Q₁:=λobj s₁=>obj=.ref s.heap.objs.size∧s₁={s with heap:=s.heap.push {cls:=.type "dict",data:=.dict #[]}}) PySem.F.kt_called_dict (PySem.F.kt_typeCall_dict_1 _) PySem.F.entry_dict_init (kt_code_dict_new _ ⟨rfl,rfl⟩) ?_
 rintro obj s₁ ⟨rfl,rfl⟩
 have cI:(s.heap.push {cls:=.type "dict",data:=.dict #[]}).DictOf knd s.heap.objs.size []:=Heap.DictOf.new s.heap
 refine⟨cI.typeIs,PySem.F.args_dict_init_2 _ _,?_⟩
 unfold Builtin.«dict.__init__»
 refine wpAny_bind ?_
 unfold Builtin.Dict.selfAndRest
 refine wpAny_bind (wpAny_notOrdered_dict cI.typeIs (show wpAny _ _ (pure (s.heap.objs.size,[Value.ref l])) _ _ _ from wpAny_pure ?_))
 show wpAny _ _ (Builtin.Dict.updateFrom "dict.__init__" s.heap.objs.size (.ref l) [] .none) _ _ _
 unfold Builtin.Dict.updateFrom
 have bp:(s.heap.push {cls:=.type "dict",data:=.dict #[]}).get? l=some {cls:=.type "list",data:=.seq (rows.map λr=>Value.ref r.a).toArray xk}:=Qf _ hl
 refine wpAny_bind (wpAny_typeOf (T := "list") ⟨_,bp,rfl⟩ ?_)
 rw[if_pos (by decide)]
 refine wpAny_bind (no_keys bp (by first | exact hh | (show A.handled=none;exact hh)) λg tk kg=>?_)
 simp only[Option.isNone_none,if_true]
 refine wpAny_bind (wpAny_rule ?_)
 have ltl:l<s.heap.objs.size:=Qr hl
 have dg:g.DictOf knd s.heap.objs.size []:=by
  obtain⟨o,es,ep,q,z⟩:=cI
  exact⟨o,es,ep,kg _ _ q,z⟩
 have hlg:g.IsList l (rows.map λr=>Value.ref r.a).toArray:=⟨_,kg _ _ bp,rfl,xk,rfl⟩
 have ltd:s.heap.objs.size<g.objs.size:=by
  obtain⟨o,es,ep,q,z⟩:=dg
  exact Qr q
 have lts:∀b o,s.heap.get? b=some o→b≠s.heap.objs.size∧b≠g.objs.size:=λb o e=>⟨Zj (Qr e),Zj (Wg (Qr e) ltd)⟩
 refine wpAny_bind (wpAny_pyIter_list (s:={s with heap:=g,toks:=tk}) hlg (wpAny_pure ⟨plainId_quiet zdo _,?_⟩))
 refine loop (knd:=knd) (I:=g.objs.size) (l:=l) (by first | exact hh | (show A.handled=none;exact hh)) rows s.heap.objs.size (Zj ltd) (Yq ltl) (Zj (Wg ltl ltd)) (λr hr=>lts r.a r.o (hR r hr).1) nd hz _ 0 _ rfl (Zp _) ⟨_,Qw _ rfl,rfl,rfl⟩ ?_ (λr hr=>?_) ?_ λg2 tk2 k2 hd=>?_
 ·obtain ⟨o,q,z⟩:=hlg
  exact⟨o,Qf _ q,z⟩
 ·obtain ⟨q1,q2⟩:=hR r hr
  exact⟨Qf _ (kg _ _ (Qf _ q1)),q2⟩
 ·exact dg.push _
 ·exact⟨rfl,h g2 tk2 hd λb o e=>k2 b o (lts b o e).1 (lts b o e).2 (Qf _ (kg _ _ (Qf _ e)))⟩
end
end DictR
end
section
namespace L2
open PySem PySem.Spec PyProof.Rows
section
variable{X:Cx}
abbrev RowsAt(H:Hp):List Addr→List (Str×V)→Prop:=Paired λa p=>H a=some (.tup [.str p.1,p.2])
theorem rows_of(I:Inv X a6 σ H s):∀{as:Nl} {ps:List (Str×V)},RowsAt H as ps →
  ∃rows:List (DictR.Row Key),rows.map (·.a)=as∧(∀r∈rows,DictR.RowAt (zaq X.prog X.w) s.heap r)∧rows.map (·.k)=ps.map (λp=>Sum.inr p.1)∧KV (ps.map λp=>((Sum.inr p.1:Key),p.2)) (rows.map λr=>(r.k,r.val))
 |_,_,.nil=>⟨[],rfl,λr hr=>(by cases hr),rfl,.nil⟩
 | a::as,p::ps,.cons h t=>by
  obtain⟨rows,e1,e2,e3,e4⟩:=rows_of I t
  obtain⟨_,a7,r,o,q,c,n,d⟩:=I.hok a _ h
  obtain⟨u,w',rfl,⟨tk,rfl⟩,rz⟩:=vals2 r
  refine⟨⟨a,o,Sum.inr p.1,.str p.1 tk,w',n⟩::rows,by rw[Ql,e1],λx hx=>?_,by rw[Ql,Ql,e3],.cons ⟨rfl,rz⟩ e4⟩
  rcases Qh.mp hx with z | z
  ·subst z
   exact⟨q,c,d,zgf _ _ _ _⟩
  ·exact e2 x z
def zdx(hc:X.calm=true):zb2 X (.type "dict") (fun xs H Q=>Ex3 fun (p:Nd) (as:Nl) (ps:List (Str×V))=>Aj5 (xs=[.ref p]) (H p=some (.lst (as.map V.ref))) (RowsAt H as ps) ((ps.map (·.1)).Nodup) (∀ l,H l=none→Q (.ref l) (upd H l (.dK (ps.map fun p=>((Sum.inr p.1:Key),p.2)))))):=by
 intro a6 s σ H xs us Q I r h
 obtain⟨p,as,ps,rfl,hp,hr,nd,q⟩:=h
 obtain⟨u,rfl,rx⟩:=vals1 r
 cases rx
 obtain⟨hz,a7,n,rv,hl,e⟩:=I.lstM hp
 obtain⟨rows,e1,e2,e3,e4⟩:=rows_of I hr
 have eits:a7=rows.map λr=>Value.ref r.a:=by
  have cv:=e1
  clear hz hl e hp e4 e3 e2 hr e1 q
  induction rows generalizing as a7 with
  |nil=>subst cv;cases rv;rfl
  | cons r rs ih =>
   cases as with
   |nil=>cases cv
   | cons a as =>
    rw[Ql]at cv rv
    injection cv with h1 h2
    cases rv with
    |cons r1 r2 =>
     cases r1
     rw[Ql,h1,ih _ _ r2 h2]
 subst eits
 have aa:rows.length≤sizeLine:=by rw[Qa]at hz hl;rw[Qa]at hl;exact zd7 ‹_› ‹_›
 have ndk:(rows.map (·.k)).Nodup:=by
  rw[e3,show(λp:Str×V=>(Sum.inr p.1:Key))=(Sum.inr:Str→Key)∘(λp:Str×V=>p.1) from rfl,←Zr]
  exact List.Pairwise.map _ (λa b z q=>z (Uv q)) nd
 refine DictR.call (knd:=zaq X.prog X.w) (rows:=rows) (xk:=n) (I.ok.hd hc) e e2 ndk aa λg tk hd k=>?_
 have nS:(s.heap.objs.size==sysModules)=false:=beq_eq_false_iff_ne.mpr (Yq I.big)
 refine⟨.ref _,_,I.laid (t':=tk) k (Qg _) (show zbr X.prog X.w _ g _ (.dK _) from⟨?_,nS,_,e4,hd⟩),rfl,q _ (I.hok.fresh (Qg _))⟩
 have:=Yf e4
 rw[Qa,Qa]at this
 rw[Qa];omega
end
def zih{prog:Nj}{w:Nk}{A:No}{s:Nh}{kx vx target iter:Expr}{ifs:Np}{scope:Scope}{pos:Pos}{it:Value}{D:Nd}{env:Env}{R:Nu}(I:Nat→Shared→Prop)(turn:∀ n s,I n s→wpAny (model prog w) A (pyNext it) (fun r s₁=>match r with
   |none=>R (.ok .next) s₁
   | some v=>wpAny (model prog w) A (letOwnedTupleGo target it v) (fun _ s₁'=>wpAny (model prog w) A (assign target env v) (fun _ s₂ =>
     wpAny (model prog w) A (forIn ifs true λc r=>if r=true then do let ok ←isTrue c env (eval c env);pure (ForInStep.yield ok) else pure (ForInStep.yield r)) (λok s₃ =>
      if ok=true then wpAny (model prog w) A (eval kx env) (λkv s₄=>wpAny (model prog w) A (eval vx env) (λvv s₅ =>
       wpAny (model prog w) A (dictSet D kv vv) (λ_ s₆=>∃m,m<n∧I m s₆) (λ_ _=>False) s₅) (λ_ _=>False) s₄) (λ_ _=>False) s₃
      else ∃m,m<n∧I m s₃) (λ_ _=>False) s₂) (λ_ _=>False) s₁') (λ_ _=>False) s₁) (λ_ _=>False) s)(n:Nat)(h:I n s):codeAny (model prog w) A (.compLoop (.DictComp kx vx [⟨target,iter,ifs,0⟩] scope pos) 0 it (.ref D) env) R s:=by
 refine codeAny_loop rfl I (λn s hI=>?_) n h
 show wpAny _ A ((compTurn (.DictComp kx vx [⟨target,iter,ifs,0⟩] scope pos) 0 it (.ref D) env).onRaise (λx=>do noteFrame x env;theTreesLotGoes x)) _ _ s
 refine wpAny_noted ?_
 rw[compTurn_dict]
 refine wpAny_bind (wpAny_standAt (wpAny_bind (wpAny_mono (turn n s hI) (λr s₁ h₁=>?_) λ_ _ h'=>h'.elim)))
 cases r with
 |none=>exact wpAny_pure h₁
 | some v =>
  refine wpAny_bind (wpAny_mono h₁ (λ_ s₁' h₁'=>?_) λ_ _ h'=>h'.elim)
  refine wpAny_bind (wpAny_mono h₁' (λ_ s₂ h₂=>wpAny_bind (wpAny_mono h₂ (λok s₃ h₃=>?_) λ_ _ h'=>h'.elim)) λ_ _ h'=>h'.elim)
  cases ok with
  |false=>exact wpAny_pure ⟨rfl,h₃⟩
  |true =>
   exact wpAny_bind (wpAny_bind (wpAny_mono h₃ (λkv s₄ h₄=>wpAny_bind (wpAny_holding (wpAny_mono h₄ (λvv s₅ h₅=>wpAny_bind (wpAny_standAt (wpAny_holding (wpAny_mono h₅ (λ_ s₆ h₆=>wpAny_pure ⟨rfl,h₆⟩) λ_ _ h'=>h'.elim)))) λ_ _ h'=>h'.elim))) λ_ _ h'=>h'.elim))
section
variable{X:Cx}{sc:Scope}{M:Nf}{ix:Nr}{a6:Nc}{σ:St}{H:Hp}{s:Nh}
def rDC(g:TG)(tc:TT)(tk tv:TE)(Q:VK)(J:It)(τ:St)(H1:Hp):Prop:=∃W:Nat→Nat→List (Key×V)→St→Hp→Prop,(∃m,W 0 m [] τ H1)∧∀i m ys τ H,W i m ys τ H →
 (J.stop i H∧∀D,H D=none→Q (.ref D) (upd H D (.dK ys))) ∨
 (J.go i H∧ys.length<sizeLine∧∀x H',J.yld i H x H'→g x τ H' λ τ2 H2=>tc τ2 H2 λb H3=>if b=true then tk τ2 H3 λkv H4=>tv τ2 H4 λy H5=>∃k,kv=kV k∧∃m',m'<m∧W (i+1) m' (putK ys k y) τ2 H5 else ∃m',m'<m∧W (i+1) m' ys τ2 H3)
def tDC(ix:Nr)(wi:TI)(g:TG)(tc:TT)(tk tv:TE):TE:=λ σ H Q=>wi σ H λJ H1=>rDC g tc tk tv Q J (inner ix σ) H1
def dc_block{tg kx vx iter:Expr}{ifs:Np}{pos:Pos}{g:TG}{tc:TT}{tk tv:TE}{fp:Nl}{it:Nd}{tn:Nat→Heap→Prop}{J:It}{Q:VK}{RR:Value→Addr→Result→Shared→Prop}{E:Na}(B:Blk X sc M ix)(hc:X.calm=true)(hg:∀C ex s H,PG (zcq X sc M C a6 ex s H) tg g)(ht:∀C ex s H,PTs (zcq X sc M C a6 ex s H) ifs tc)(hk:∀C ex s H,PE (zcq X sc M C a6 ex s H) kx tk)(he:∀C ex s H,PE (zcq X sc M C a6 ex s H) vx tv)(I:Inv X a6 σ H s)(T:Turn X.prog X.w X.K tg J fp it tn)(h0:tn 0 s.heap)(hf:∀b∈fp,FpOk X a6 H b)(q:rDC g tc tk tv Q J (inner ix σ) H)(kG:∀D C m ys H' s',Inv X a6 σ (upd H' D (.dK ys)) s'→Q (.ref D) (upd H' D (.dK ys))→s'.heap.Ns C m→upd H' D (.dK ys) C=none→s.heap.objs.size<C→RR (.ref D) C (.ok .next) s') :
  wpAny (model X.prog X.w) X.A newDict (λae s₃=>wpAny (model X.prog X.w) X.A (newFunctionEnv sc X.env.globals (clOf sc X.env) [] X.env.qual none .none (some X.env)) (λcenv s₄ =>
   codeAny (model X.prog X.w) X.A (.compStart (.DictComp kx vx [⟨tg,iter,ifs,0⟩] sc pos) 0 (.ref it) ae {cenv with scope:=relabel sc X.env}) (RR ae cenv.locals) s₄) E s₃) E s:=by
 refine wpAny_newObj_type (wpAny_newFunctionEnv B.nocell (by intro y hy;simp at hy) (λh₁ hns₁ hsb₁=>?_) B.kind)
 dsimp only at hns₁ hsb₁ ⊢
 generalize hD:s.heap.objs.size=D at hns₁ hsb₁ ⊢
 generalize eT:s.heap.push {cls:=.type "dict",dict:=none,data:=.dict #[]}=g2 at hns₁ hsb₁ ⊢
 have hC:g2.objs.size=D+1:=by rw[←eT,Wl,hD]
 have k2:∀b o,s.heap.get? b=some o→g2.get? b=some o:=λb o e=>by rw[←eT];exact Qf _ e
 have I3:Inv X a6 σ H {s with heap:=g2}:=I.kept (t':=s.toks) k2
 have HD:H D=none:=I.hok.fresh (by rw[hD];exact Qg _)
 have fD:FpOk X a6 H D:=I.fpOk (by rw[hD];exact Qg _) HD
 have D2:g2.get? D=some {cls:=.type "dict",dict:=none,data:=.dict #[]}:=by rw[←eT,←hD];exact Qw _ rfl
 have nS:(D==sysModules)=false:=beq_eq_false_iff_ne.mpr (by rw[←hD];exact Yq I.big)
 have k1:∀b o,g2.get? b=some o→h₁.get? b=some o:=λb o e=>by
  have hb:b≠g2.objs.size:=Zj (Qr e)
  exact(hsb₁.2 b hb).trans (Qf _ e)
 have DN:h₁.DictOf (zaq X.prog X.w) D []:=by
  have q:g2.DictOf (zaq X.prog X.w) D []:=by rw[←eT,←hD];exact Heap.DictOf.new s.heap
  obtain⟨o,es,ep,e,r⟩:=q
  exact⟨o,es,ep,k1 _ _ e,r⟩
 have fpx:∀b∈D::fp,FpOk X a6 H b:=λb hb=>by
  rcases Qh.mp hb with e | e
  ·rw[e];exact fD
  ·exact hf b e
 have fplt:∀b∈D::fp,b<g2.objs.size:=λb hb=>by
  rcases Qh.mp hb with e | e
  ·rw[e,hC];exact Ya _
  ·obtain ⟨o,q,_⟩:=T.obj _ _ h0 b e
   exact Qr (k2 b o q)
 have fpD:D∉fp:=λhm=>by
  obtain⟨o,q,_⟩:=T.obj _ _ h0 D hm
  have:=Qr q
  rw[hD]at this
  exact Ym _ this
 generalize ak:zcq X sc M g2.objs.size a6 (D::fp) {s with heap:=g2} H=Y
 have IY:Inv Y [] (inner ix σ) H {s with heap:=h₁,toks:=s.toks+([]:List (Str×Value)).length}:=by
  rw[←ak]
  exact inv_blk B I3 fpx fplt rfl hns₁ k1 rfl rfl
 have Yg:=ak▸hg g2.objs.size (D::fp) {s with heap:=g2} H
 have Yt:=ak▸ht g2.objs.size (D::fp) {s with heap:=g2} H
 have Yk:=ak▸hk g2.objs.size (D::fp) {s with heap:=g2} H
 have Ye:=ak▸he g2.objs.size (D::fp) {s with heap:=g2} H
 have eP:Y.prog=X.prog:=by rw[←ak];rfl
 have eW:Y.w=X.w:=by rw[←ak];rfl
 have eK:Y.K=X.K:=by rw[←ak];rfl
 have eA:Y.A=X.A:=by rw[←ak];rfl
 have eC:Y.calm=true:=by rw[←ak];exact hc
 have eE:Y.env=compEnvC sc (clOf sc X.env) g2.objs.size X.env:=by rw[←ak];rfl
 have eX:Y.xe=λ_ _=>False:=by rw[←ak];rfl
 have eEx:Y.ex=D::fp:=by rw[←ak];rfl
 have eFs:Y.fs=frs X.stack:=by rw[←ak];rfl
 have ePn:Y.pn=X.pn++a6:=by rw[←ak];rfl
 have eL:Y.env.locals=g2.objs.size:=by rw[eE];rfl
 have om:Y.H₀=H:=by rw[←ak];rfl
 have j8:Y.s₀={s with heap:=g2}:=by rw[←ak];rfl
 have fY:∀{H':Hp} {pl:Nc} {b:Nd},b∈D::fp→H' b=none→(∀p∈pl,p.1≠b)→FpOk Y pl H' b:=λ{H' pl b} hb hn hp=>by
  obtain⟨f0,f1,f2,f3,f4,f5⟩:=fpx b hb
  refine⟨hn,?_,?_,.inl (by rw[eEx];exact hb),IY.ok.exf b (by rw[eEx];exact hb) |>.2,λp aH=>?_⟩
  ·rw[eL];exact Zj (fplt b hb)
  ·rw [eFs]
   intro z
   rcases Qh.mp (I3.stkSub b z) with q | q
   ·exact f1 q
   ·exact f2 q
  ·rw [ePn] at aH
   rcases Qd.mp aH with z | z
   ·exact f5 p z
   ·exact hp p z
 obtain⟨W,⟨m0,w0⟩,turn⟩:=q
 have loop:∀ sN:Shared,sN={ s with heap:=h₁,toks:=s.toks+([]:List (Str×Value)).length } →
   codeAny (model X.prog X.w) X.A (.compLoop (.DictComp kx vx [⟨tg,iter,ifs,0⟩] sc pos) 0 (.ref it) (.ref D) (compEnvC sc (clOf sc X.env) g2.objs.size X.env)) (RR (.ref D) g2.objs.size) sN:=by
  rintro sN rfl
  refine zih (λn s'=>Ex5 λi τ H' ys vs=>Aj7 (Inv Y [] τ H' s') (tn i s'.heap) (∀b∈D::fp,H' b=none) (s'.heap.DictOf (zaq X.prog X.w) D vs) (KV ys vs) (ys.length≤sizeLine) (W i n ys τ H')) ?_ m0
   ⟨0,inner ix σ,H,[],[],IY,T.keep _ _ _ h0 λb _ o e=>k1 b o (k2 b o e),λb hb=>(fpx b hb).1,DN,.nil,Zp _,w0⟩
  rintro n s5 ⟨i,τ,H5,ys,vs,I5,t5,n5,dd5,v5,z5,w5⟩
  obtain⟨o5,kI,tX,d5,pN⟩:=id dd5
  have nc5:∀v,o5.data≠.cell v:=λv z=>by
   obtain⟨_,q,_⟩:=pN
   rw[q]at z;cases z
  have oD:∀b∈[D],∃o,s5.heap.get? b=some o∧∀v,o.data≠.cell v:=λb hb=>by
   rw[Qb.mp hb]
   exact⟨_,d5,nc5⟩
  have gT:Inv Y ([]++zb3 [D] s5.heap) τ H5 s5:=I5.pinned (λb hb=>fY (by rw[Qb.mp hb];exact Qe) (n5 b (by rw[Qb.mp hb];exact Qe)) (by simp)) oD
  have pD:∀p∈zb3 [D] s5.heap,p.1=D∧p.2=o5:=λp hp=>by
   obtain⟨e1,e2⟩:=zel hp
   have cv:p.1=D:=Qb.mp e1
   rw[cv,d5]at e2
   exact⟨cv,(Qv e2).symm⟩
  have fN:∀{H':Hp},(∀b∈fp,H' b=none)→∀b∈fp,FpOk Y ([]++zb3 [D] s5.heap) H' b:=λhn b hb=>fY (Qi _ hb) (hn b hb) λp hp z=>by
   rw[Wu]at hp
   rw[(pD p hp).1]at z
   exact fpD (z▸hb)
  rcases turn i n ys τ H5 w5 with⟨stop,qn⟩ | ⟨go,zl,step⟩
  ·have h6:=T.done Y eP eW eK eC i _ s5 τ H5 (fun _ _=>False) gT (fN fun b hb=>n5 b (Qi _ hb)) t5 stop
   rw[eA]at h6
   refine thn h6 λr s6 ⟨hr,I6⟩=>?_
   subst hr
   have d6:s6.heap.get? D=some o5:=by
    have hp:=zbi (fp:=[D]) (Qb.mpr rfl) d5
    exact(I6.pin (D,_) (Qk _ hp)).1
   have H5D:H5 D=none:=n5 D Qe
   obtain⟨mL,nL,_⟩:=I6.loc
   rw[eL]at nL
   have CD:g2.objs.size≠D:=by rw[hC];exact Kx _
   refine kG D _ mL ys H5 s6 ?_ (qn D H5D) nL ?_ (by rw[hC,hD];exact Ya _)
   ·have u6:=I6.base
    rw[eFs,eEx,om,j8]at u6
    refine I3.call' (ch:=D::fp) (I6.os.trans (by rw[j8])) ⟨u6.keep,u6.slot,λb o e n hx=>?_,u6.there,λb xs e=>?_,λb o u e=>?_,λb ps e=>?_⟩ ?_ I6.bare λb hb=>?_
    ·rw[zad (λz=>hx (by rw[z];exact Qe))];exact u6.free b o e n hx
    ·rw[zad (zab e HD)];exact u6.tups b xs e
    ·rw[zad (zab e HD)];exact u6.frzs b o u e
    ·rw[zad (zab e HD)];exact u6.tbls b ps e
    ·have iF:=I6.hok
     rw[eP,eW]at iF
     intro b u e
     by_cases hb:b=D
     ·subst hb
      rw[zac]at e
      cases e
      exact⟨z5,nS,vs,v5,o5,kI,tX,d6,pN⟩
     ·rw [zad hb] at e
      exact(iF b u e).stay (λc v _ q=>q) (λc q=>by rw[zad (zab q H5D)];exact q) λc xs q=>by rw[zad (zab q H5D)];exact q
    ·obtain ⟨f0,f1,f2,f3,f4,f5⟩:=fpx b hb
     exact⟨f3,f1,f4,f5⟩
   ·rw [zad CD]
    have:=I6.free
    rw[eL]at this
    exact this
  ·have h6:=T.item Y eP eW eK eC i _ s5 τ H5 (fun _ _=>False) gT (fN fun b hb=>n5 b (Qi _ hb)) t5 go
   rw[eA]at h6
   refine thn h6 λr s6 ⟨u,hr,h7⟩=>?_
   subst hr
   refine thn h7 λ_ s7 ⟨x,H7,I7,r7,y7,t7,n7⟩=>?_
   have oy:=I7.pinned (fN n7) (T.obj _ _ t7)
   have h8:=Yg _ s7 τ H7 x u _ oy r7 (step x H7 y7)
   rw[eP,eW,eA,eX,eE]at h8
   refine thn h8 λ_ s8 ⟨τ8,H8,I8,q8⟩=>?_
   have h9:=Yt _ s8 τ8 H8 _ I8 q8
   rw[eP,eW,eA,eX,eE]at h9
   refine thn h9 λok s9 ⟨H9,I9,q9⟩=>?_
   have again:∀{τ':St} {H':Hp} {s':Nh},Inv Y (([]++zb3 [D] s5.heap)++zb3 fp s7.heap) τ' H' s'→s'.heap.get? D=some o5∧H' D=none∧tn (i+1) s'.heap∧∀b∈fp,H' b=none:=λ{τ' H' s'} I'=>by
    have pp:∀{b:Nd} {o:Obj},b∈fp→s7.heap.get? b=some o→s'.heap.get? b=some o∧H' b=none:=λ{b o} hb e =>
     let z:=I'.pin (b,o) (Qk _ (Qk _ (zbi hb e)))
     ⟨z.1,z.2.1⟩
    have hp:=zbi (fp:=[D]) (Qb.mpr rfl) d5
    have z:=I'.pin (D,_) (Qk _ (Qn _ hp))
    refine⟨z.1,z.2.1,T.keep _ _ _ t7 λb hb o e=>(pp hb e).1,λb hb=>?_⟩
    obtain⟨o,e,_⟩:=T.obj _ _ t7 b hb
    exact(pp hb e).2
   have drop:∀{pl:Nc} {τ':St} {H':Hp} {s':Nh},Inv Y pl τ' H' s'→Inv Y [] τ' H' s':=λI'=>I'.pins_of (by simp)
   cases ok with
   |false =>
    rw[if_neg (by decide)]at q9 ⊢
    obtain⟨m',hm,w9⟩:=q9
    obtain⟨d9,H9D,t9,n9⟩:=again I9
    exact⟨m',hm,i+1,τ8,H9,ys,vs,drop I9,t9,λb hb=>(Qh.mp hb).elim (λe=>e▸H9D) (n9 b),⟨o5,kI,tX,d9,pN⟩,v5,z5,w9⟩
   | true =>
    rw[if_pos rfl]at q9 ⊢
    have gN:=Yk _ s9 τ8 H9 _ I9 q9
    rw[eP,eW,eA,eX,eE]at gN
    refine thn gN λkv dG ⟨kw,cC,kN,kR,q10⟩=>?_
    have tW:=Ye _ dG τ8 cC _ kN q10
    rw[eP,eW,eA,eX,eE]at tW
    refine thn tW λy pZ ⟨yv,ja,lA,r11,kk,ek,m',hm,w11⟩=>?_
    subst ek
    obtain⟨d11,H11D,t11,n11⟩:=again lA
    have u0:pZ.heap.DictOf (zaq X.prog X.w) D vs:=⟨o5,kI,tX,d11,pN⟩
    have jS:(zaq X.prog X.w).is kk kv=true:=by
     cases kk with
     |inl i=>obtain⟨t,rfl⟩:=kR;exact keyIs_int i t
     |inr x=>obtain⟨t,rfl⟩:=kR;exact keyIs_str x t
    refine wpAny_dictSet_pairs (knd:=zaq X.prog X.w) jS u0 (λh' gH sb=>?_) (by rw[←Yf v5];assumption)
    have kkp:∀b o,b≠D→pZ.heap.get? b=some o→h'.get? b=some o:=λb o hb e=>(sb.2 b hb).trans e
    obtain⟨g0,g1,g2',g3,g4,g5⟩:=fY (pl:=[]) (H':=ja) (b:=D) Qe H11D (by simp)
    have I12:=(drop lA).turned (h':=h') (t':=pZ.toks+1) (it:=D) kkp H11D g1 g3 g4 g5
    refine⟨m',hm,i+1,τ8,ja,putK ys kk yv,stored vs kk y,I12,T.keep _ _ _ t11 λb hb o e=>kkp b o (λz=>fpD (z▸hb)) e,λb hb=>(Qh.mp hb).elim (λe=>e▸H11D) (n11 b),gH,v5.put kk r11,?_,w11⟩
    unfold putK
    split
    ·rw[Qa];exact z5
    ·rw[Qj,Zx];assumption
 exact codeAny_compStart_dict (loop _ rfl) (T.self _ 0 _ _ _ (T.keep _ _ _ h0 λb _ o e=>k1 b o (k2 b o e)) (loop _ rfl))
def ps_dc(hN:X.N.Nodup)(gh:X.N[i]?=some y)(hy:X.env.scope.names.lookup y=some .local)(B:Blk X sc M ix)(hc:X.calm=true)(hi:PI X tg iter wi)(hg:∀C a6 ex s H,PG (zcq X sc M C a6 ex s H) tg g)(ht:∀C a6 ex s H,PTs (zcq X sc M C a6 ex s H) ifs tc)(hk:∀C a6 ex s H,PE (zcq X sc M C a6 ex s H) kx tk)(he:∀C a6 ex s H,PE (zcq X sc M C a6 ex s H) vx tv)(qT:swapsWith (.DictComp kx vx [⟨tg,iter,ifs,0⟩] sc pos) (some (.Name y py)) spos.line X.env=pure true)(hs:∀x,foldedSetIterable iter X.env x=pure x:=by intro _;rfl):PS X (.Assign [.Name y py] (.DictComp kx vx [⟨tg,iter,ifs,0⟩] sc pos) spos) (tAsg (tDC ix wi g tc tk tv) (gName i)):=by
 intro a6 s σ H D' I h
 rw[exec_Assign_Name_used _ _ _ _ qT]
 refine wpAny_bind (wpAny_standAt (wpAny_bind ?_))
 show wpAny _ X.A (do let _ ←comprehension (.DictComp kx vx [⟨tg,iter,ifs,0⟩] sc pos) sc X.env _ newDict false (eval iter X.env) (some (assign (.Name y py) X.env))) _ _ s
 refine wpAny_bind (wpAny_mono (wpAny_comprehension_free (use:=some (assign (.Name y py) X.env)) (Q:=λ_ s'=>SP X a6 D' .next s') rfl hs (zb5 (B.clos I)) B.kind B.names
  (thn (hi a6 s σ H _ I h) λv s1 h1=>thn h1 λitv s2 h2=>?_)) (λ_ s' hq=>wpAny_pure (wpAny_pure hq)) λ_ _ e=>e)
 obtain⟨it,fp,tn,J,H2,e,I2,T,bu,f2,q⟩:=h2
 subst e
 refine dc_block (RR:=λae C=>compPost (model X.prog X.w) X.A X.xe (some (assign (.Name y py) X.env)) (λ_ s'=>SP X a6 D' .next s') ae C) B hc (hg · a6) (ht · a6) (hk · a6) (he · a6) I2 T bu f2 q ?_
 intro D C m ys H' s' I' q' hn hC ad
 show wpAny _ X.A (assign (.Name y py) X.env (.ref D)) _ _ s'
 refine wpAny_assign_Name (zfz I' hN gh (.inl hy) (v:=.ref D) rfl (λlE uw ⟨a,sb,ha⟩=>?_) (.inr hy))
 have aC:C≠a:=by
  rcases ha with z | z
  ·rw[z];exact Yq (Wg I2.lt ad)
  ·exact Yq (Wg (I2.cl_lt _ _ z) ad)
 have cz:=hn.sameBut sb aC
 exact⟨m,cz,λh' cw=>⟨_,_,uw.letgo cz hC I2.lt I2.cl_lt I2.pin_lt I2.sz ad cw,q'⟩⟩
end
section
variable{prog:Nj}{w:Nk}{A:No}{s:Nh}{elt tg1 it1 target iter:Expr}{ifs:Np}{scope:Scope}{pos:Pos}{it ae:Value}{env:Env}{R:Nu}
end
section
variable{X:Cx}{sc:Scope}{M:Nf}{ix:Nr}{a6:Nc}{σ:St}{H:Hp}{s:Nh}
end
end L2
end
section
namespace RawD
open PySem PyProof.Rows PySem.W
def At(h:Nm)(a:Nd)(es:Array DictEntry)(ep:Nat):Prop:=∃o,h.get? a=some o∧o.ExactDict∧o.data=.dict es ep
def At.typeIs{s:Nh}{a:Nd}{es:Array DictEntry}{ep:Nat}(x:At s.heap a es ep):s.TypeIs (.ref a) "dict" := let⟨o,e,c,_⟩:=x;⟨o,e,c.1⟩
def At.keep{h g:Nm}{a:Nd}{es:Array DictEntry}{ep:Nat}(x:At h a es ep)(k:∀o,h.get? a=some o→g.get? a=some o):At g a es ep:=let⟨o,e,r⟩:=x;⟨o,k _ e,r⟩
section
variable{prog:Nj}{w:Nk}{A:No}{E:Na}{s:Nh}{d:Nd}{es:Array DictEntry}{ep:Nat}
def iter{Q:Na}(nS:(d==sysModules)=false)(m:At s.heap d es ep)(q:Q (.ref s.heap.objs.size) {s with heap:=s.heap.push {cls:=.type "dict_keyiterator",data:=.fields #[.ref d,.int 0 0,.int es.size 0,.int ep 0]}}):wpAny (model prog w) A (pyIter (.ref d)) Q E s:=by
 obtain⟨o,ho,hc,hd⟩:=id m
 refine wpAny_pyIter_slot m.typeIs F.slot_dict_iter (wpAny_call_entry F.slot_dict_iter m.typeIs F.entry_dict_iter ?_ (F.args_dict_iter_1 _))
 unfold Builtin.«dict.__iter__»
 refine wpAny_bind ?_
 unfold Builtin.Dict.dictSlotNone
 refine wpAny_bind (wpAny_notOrdered_dict m.typeIs (show wpAny _ _ (pure (Value.ref d)) _ _ s from wpAny_pure ?_))
 show wpAny _ _ (Builtin.Dict.showsAll d >>= _) _ _ s
 unfold Builtin.Dict.showsAll
 rw[if_neg (by rw[nS];exact Zc)]
 refine wpAny_bind (wpAny_pure (wpAny_bind (wpAny_dictEntries ho hd (wpAny_bind (wpAny_dictEpoch ho hd ?_)))))
 refine wpAny_bind (wpAny_newObj_type (wpAny_pure ⟨_,rfl, "dict_keyiterator",_,⟨_,Qw _ rfl,rfl⟩,Uc.lookup,?_⟩))
 simpa[rawInt] using q
def item{j:Nd}{i:Nat}{Q:Option Value→Shared→Prop}(st:s.heap.IsKeyIter j d i es.size ep)(m:At s.heap d es ep)(hi:i<es.size)(hQ:∀g,g.IsKeyIter j d (i+1) es.size ep→Heap.SameBut j s.heap g→Q (some es[i].key) {s with heap:=g}):wpAny (model prog w) A (pyNext (.ref j)) Q E s:=by
 obtain⟨o,ho,hc,hd⟩:=id st
 obtain⟨od,mq,aO,kb⟩:=id m
 unfold pyNext
 refine wpAny_bind (wpAny_attempt (wpAny_callSpecial?_slot (name:=Str.ofString "__next__") st.typeIs Uc (wpAny_call_entry Uc st.typeIs F.entry_dict_keyiterator_next ?_ (F.args_dict_keyiterator_next_1 _))))
 refine wpAny_bind (wpAny_pure (wpAny_bind (wpAny_bind ?_)))
 first | refine wpAny_bind (wpAny_typeNameOfWhole_keyiter st.typeIs (wpAny_pure ?_)) | refine wpAny_bind (wpAny_typeNameOf_keyiter st.typeIs (wpAny_pure ?_))
 refine wpAny_bind (wpAny_fieldsOf ho hd ?_)
 have jK:Builtin.Dict_items.ownsTuple "dict_keyiterator" = false:=by decide
 simp only[jK,Kg,if_false]
 show wpAny _ _ (if(Value.ref d==.none)=true then _ else _) _ _ s
 rw[if_neg (show ¬((Value.ref d==.none)=true) from Zc)]
 refine wpAny_bind (wpAny_pure (wpAny_bind (wpAny_dictEntries mq kb ?_)))
 rw[if_neg (by simp)]
 refine wpAny_bind (wpAny_pure (wpAny_bind (wpAny_dictEpoch mq kb ?_)))
 rw[if_neg (by simp)]
 refine wpAny_pure ?_
 simp only[show ¬((i:Int)<0) from by lia,if_false,Ws,Kn hi]
 refine wpAny_bind ?_
 first | refine wpAny_bind (wpAny_typeNameOfWhole_keyiter st.typeIs (wpAny_pure ?_)) | refine wpAny_bind (wpAny_typeNameOf_keyiter st.typeIs (wpAny_pure ?_))
 refine wpAny_bind (wpAny_isOneOf_keyiter st.typeIs ?_)
 show wpAny _ _ (setField (.ref j) 1 (rawInt ((i:Int)+1)) >>= _) _ _ s
 refine wpAny_bind (wpAny_setField ho hd (by simp) ?_)
 have a9:(s.heap.update j (Obj.mapFields (·.setIfInBounds 1 (rawInt ((i:Int)+1))))).IsKeyIter j d (i+1) es.size ep :=
  ⟨_,Uo _ ho (Jc (Wf hd _)),(Xd ..).trans hc,by rw[Wf hd];simp[rawInt]⟩
 refine wpAny_bind (wpAny_holding (wpAny_bind (wpAny_isOneOf_keyiter (s:={s with heap:=s.heap.update j (Obj.mapFields (·.setIfInBounds 1 (rawInt ((i:Int)+1))))}) a9.typeIs ?_)))
 show wpAny _ _ (pure es[i].key) _ _ _
 exact wpAny_pure (wpAny_pure ⟨_,rfl,wpAny_pure (hQ _ a9 (Wn ..))⟩)
def done{j:Nd}{i:Nat}{Q:Option Value→Shared→Prop}(hh:A.handled=none)(st:s.heap.IsKeyIter j d i es.size ep)(m:At s.heap d es ep)(hi:es.size≤i)(hQ:∀g,Heap.ExtBut j s.heap g→Q none {s with heap:=g}):wpAny (model prog w) A (pyNext (.ref j)) Q E s:=by
 obtain⟨o,ho,hc,hd⟩:=id st
 obtain⟨od,mq,aO,kb⟩:=id m
 unfold pyNext
 refine wpAny_bind (wpAny_attempt (wpAny_callSpecial?_slot (name:=Str.ofString "__next__") st.typeIs Uc (wpAny_call_entry Uc st.typeIs F.entry_dict_keyiterator_next ?_ (F.args_dict_keyiterator_next_1 _))))
 refine wpAny_bind (wpAny_pure (wpAny_bind (wpAny_bind ?_)))
 first | refine wpAny_bind (wpAny_typeNameOfWhole_keyiter st.typeIs (wpAny_pure ?_)) | refine wpAny_bind (wpAny_typeNameOf_keyiter st.typeIs (wpAny_pure ?_))
 refine wpAny_bind (wpAny_fieldsOf ho hd ?_)
 have jK:Builtin.Dict_items.ownsTuple "dict_keyiterator" = false:=by decide
 simp only[jK,Kg,if_false]
 show wpAny _ _ (if(Value.ref d==.none)=true then _ else _) _ _ s
 rw[if_neg (show ¬((Value.ref d==.none)=true) from Zc)]
 refine wpAny_bind (wpAny_pure (wpAny_bind (wpAny_dictEntries mq kb ?_)))
 rw[if_neg (by simp)]
 refine wpAny_bind (wpAny_pure (wpAny_bind (wpAny_dictEpoch mq kb ?_)))
 rw[if_neg (by simp)]
 refine wpAny_pure ?_
 simp only[show ¬((i:Int)<0) from by lia,if_false,Ws,Array.getElem?_eq_none hi]
 refine wpAny_bind ?_
 first | refine wpAny_bind (wpAny_typeNameOfWhole_keyiter st.typeIs (wpAny_pure ?_)) | refine wpAny_bind (wpAny_typeNameOf_keyiter st.typeIs (wpAny_pure ?_))
 show wpAny _ _ (setField (.ref j) 0 .none >>= _) _ _ s
 refine wpAny_bind (wpAny_setField ho hd (by simp) ?_)
 show wpAny _ _ (newExc (.type "StopIteration") [] >>= _) _ _ _
 refine wpAny_bind ?_
 simp only[newExc,newTuple]
 refine wpAny_bind (wpAny_newObj_type (wpAny_bind (m:=firstArgMember _ _) (wpAny_of_eq (a:=Value.none) (by first | rfl | (simp only[firstArgMember];rfl)) (wpAny_newObj_type ?_ (by size_fits)))) (by size_fits))
 simp only[raiseNew]
 refine wpAny_bind (wpAny_handled ?_)
 first | rw[show A.in1.handled=none from hh] | rw[hh]
 refine wpAny_bind (wpAny_pure (wpAny_throw ?_))
 refine wpAny_bind (wpAny_isInstance (T := "StopIteration") (b:=true) ⟨_,Qw _ rfl,rfl⟩ isSubtype_stop ?_)
 exact wpAny_pure (hQ _ (((Wn ..).extBut.push _).push _))
theorem src(nS:(d==sysModules)=false):KdlSrc prog w "dict" d d es.size (λi v=>∃e,es[i]?=some e∧v=e.key) (λh=>At h d es ep) where
 type:=λ_ m=>m.typeIs
 there:=λ_ m=>let⟨_,e,_⟩:=m;⟨Qr e,Qr e⟩
 keep:=λ_ _ m k=>m.keep λo e=>k d (.inl rfl) o e
 notList:=by decide
 notTuple:=by decide
 hint:=λ_ _ _ _ m q=>kdl_hint_dict m.typeIs q
 iter:=λA s hh m=>by
  have lt:d<s.heap.objs.size:=let⟨_,e,_⟩:=m;Qr e
  refine⟨_,λi h=>h.IsKeyIter s.heap.objs.size d i es.size ep∧At h d es ep,λ_ _ q=>iter nS m q,?_,⟨_,Qw _ rfl,rfl,rfl⟩,m.keep λo e=>Qf _ e⟩
  exact
   {sub:=fun b hb=>by simp at hb;simp [hb]
    frame:=λi h g st k=>⟨st.1.at λo e=>k _ (by simp) o e,st.2.keep λo e=>k d (by simp) o e⟩
    item:=λi s' Q E hi st hQ=>item st.1 st.2 hi λg a b=>hQ _ g s'.toks ⟨_,Kn hi,rfl⟩ ⟨a,st.2.keep λo e=>(b.2 d (Zj lt)).trans e⟩ λc o hc e=>(b.2 c (λz=>hc (by simp[z]))).trans e
    done:=λs' Q E st hQ=>done hh st.1 st.2 (Qg _) λg a=>hQ g s'.toks λc o hc e=>a c o (λz=>hc (by simp[z])) e
    self:=λ_ _ _ _ st q=>wpAny_pyIter_keyiter st.1 q}
end
end RawD
namespace L2
open PySem PySem.Spec PyProof.Rows Tm
def kP(q:Str×Str):List Key:=[Sum.inr q.1,Sum.inr q.2]
abbrev zdl(H:Hp):List Addr→List (Str×Str)→Prop:=Paired λb r=>H b=some (.tup [.str r.1,.str r.2])
section
variable{X:Cx}
def zd3{α β:Type}{R:α→β→Prop}{as c8:List α}(p:c8.Perm as):∀{bs:List β},Paired R as bs→∃gQ,gQ.Perm bs∧Paired R c8 gQ:=by
 induction p with
 |nil=>intro bs r;cases r;exact⟨[],.nil,.nil⟩
 | cons x q ih =>
  intro bs r
  cases r with
  |cons r1 r2 =>
   obtain⟨zs,h1,h2⟩:=ih r2
   exact⟨_::zs,h1.cons _,.cons r1 h2⟩
 | swap x y l =>
  intro bs r
  cases r with
  |cons r1 r2 =>
   cases r2 with
   |cons r3 r4=>exact⟨_,List.Perm.swap ..,.cons r3 (.cons r1 r4)⟩
 |trans _ _ ih1 ih2 =>
  intro bs r
  obtain⟨zs,h1,h2⟩:=ih2 r
  obtain⟨gy,h3,h4⟩:=ih1 h2
  exact⟨gy,h3.trans h1,h4⟩
def pairs_mem{H:Hp}{as:Nl}{qs:Nv}(r:zdl H as qs){a:Nd}(ha:a∈as):∃r:Str×Str,H a=some (.tup [.str r.1,.str r.2]):=by
 induction r with
 |nil=>cases ha
 |cons h t ih =>
  rcases Qh.mp ha with zz | zz
  ·subst zz;exact⟨_,h⟩
  ·exact ih zz
def zgx(hc:X.calm=true):zb2 X (.builtin "sorted") (fun xs H Q=>Ex3 fun (d:Nd) (kvs:List (List Key×V)) (qs:Nv)=>Aj4 (xs=[.ref d]) (H d=some (.dT kvs)) (kvs.map (·.1)=qs.map kP) (∀ (l:Nd) (as:Nl) (ws:Nv),H l=none→ws.Perm qs→zdl H as ws→Q (.ref l) (upd H l (.lst (as.map V.ref))))):=by
 intro a6 s σ H xs us Q I r h
 obtain⟨d,kvs,qs,rfl,hq,ek,q⟩:=h
 obtain⟨u,rfl,rx⟩:=vals1 r
 cases rx
 obtain⟨z,lo,ts,rk,o,es,ep,e1,e2,e3,e4,e5⟩:=(show zbr X.prog X.w H s.heap d (.dT kvs) from I.hok d _ hq)
 have kM:RawD.At s.heap d es ep:=⟨o,e1,e2,e3⟩
 have aa:kvs.length=ts.length:=Yf rk
 have cN:es.size=ts.length:=by rw[←Wk,e4,Qa]
 have iP:zdl H (ts.map λt=>t.2.1) qs:=by
  clear e4 e5 cN aa kM z q hq
  induction rk generalizing qs with
  |nil =>
   cases qs with
   |nil=>exact .nil
   |cons a b=>cases ek
  | @cons p t ps ts' h1 t1 ih =>
   cases qs with
   |nil=>cases ek
   |cons a b =>
    rw[Ql,Ql]at ek
    injection ek with k1 k2
    refine .cons ?_ (ih _ k2)
    have:=h1.2.1
    rw[k1]at this
    exact this
 have lX:∀ae:Array Value,ItemsOf (λi v=>∃e,es[i]?=some e∧v=e.key) ae es.size→ae.toList=(ts.map λt=>t.2.1).map Value.ref:=λae hi=>by
  apply List.ext_getElem?
  intro i
  rw[Qt,Qt]
  by_cases ad:i<es.size
  ·have rW:i < ae.size:=by rw [hi.1];exact ad
   have a1:ae[i]?=some ae[i]:=Kn rW
   obtain⟨e,h1,h2⟩:=hi.2 i _ a1
   rw[Ug,a1,h2]
   have h3:es.toList[i]?=some e:=by rw[Ug];exact h1
   rw[e4,Qt]at h3
   cases ht:ts[i]? with
   |none=>rw[ht]at h3;cases h3
   |some t =>
    rw[ht]at h3
    have h4:entryOfKey (tupleKind (zaq X.prog X.w)) t=e:=Qv h3
    rw[←h4];rfl
  ·have a1:ae.toList[i]?=none:=by rw [Ug];exact Array.getElem?_eq_none (by rw [hi.1];lia)
   have a2:ts[i]?=none:=Uf (by lia)
   rw[a1,a2];rfl
 have hvr:∀as:List Addr,Vals (as.map V.ref) (as.map Value.ref):=λas=>by
  induction as with
  |nil=>exact .nil
  |cons a r ih=>exact .cons rfl ih
 refine zeu (R:=λa7 ws=>a7.length<64→ws.Pairwise λx y=>(pairO strO strO).kle (kvP s.heap x) (kvP s.heap y)) (G:=λa7=>a7=(ts.map λt=>t.2.1).map Value.ref) (λE' R hR=>zgp (RawD.src lo) (show X.A.in1.handled=none from I.ok.hd hc) kM (by lia) λg tk ae k le hi=>hR g tk _ k le (lX ae hi))
  (λa7 e=>by rw[e,Qa,Qa];exact zd7 ‹_› ‹_›) (λa7 e A' E' s' _ k=>?_) λa7 ws l g tk e r p1 p2 le k he=>?_
 ·have all:∀ v∈a7,∃ x y t,zfn s.heap v x (.str y t):=fun v hv=>by
   rw[e]at hv
   obtain⟨a,ha,rfl⟩:=Qm.mp hv
   obtain⟨rr,eO⟩:∃r:Str×Str,H a=some (.tup [.str r.1,.str r.2]):=pairs_mem iP ha
   obtain⟨q',⟨t,rfl⟩,T⟩:=zhp I eO
   exact⟨_,_,t,T⟩
  refine zea k (λv hv=>let⟨x,y,t,T⟩:=all v hv;⟨x,_,T⟩) λv hv u hu x p q T T'=>.inr ?_
  obtain⟨_,y,t,T1⟩:=all v hv
  obtain⟨_,y',t',T2⟩:=all u hu
  exact⟨y,t,y',t',(zfo T T1).2,(zfo T' T2).2⟩
 ·subst r
  obtain⟨as,rfl,p3⟩:∃as:List Addr,ws=as.map Value.ref∧as.Perm (ts.map λt=>t.2.1):=by
   have key:∀{ws:Ni} {bs:Nl},ws.Perm (bs.map Value.ref)→∃as:List Addr,ws=as.map Value.ref∧as.Perm bs:=λ{ws bs} pm=>by
    have a2:∃as:List Addr,ws=as.map Value.ref:=by
     have a1:∀v∈ws,∃a,v=Value.ref a:=λv hv=>by
      obtain⟨a,_,e⟩:=Qm.mp (pm.mem_iff.mp hv)
      exact⟨a,e.symm⟩
     clear pm
     induction ws with
     |nil=>exact⟨[],rfl⟩
     |cons v r ih =>
      obtain⟨as,e⟩:=ih λv hv=>a1 v (Qi _ hv)
      obtain⟨x,e2⟩:=a1 v Qe
      exact⟨x::as,by rw[e,e2];rfl⟩
    obtain⟨as,rfl⟩:=a2
    refine⟨as,rfl,?_⟩
    have:=pm.map (λv=>match v with | .ref a=>a | _=>0)
    rw[Zr,Zr]at this
    simpa[Function.comp_def] using this
   exact key p1
  obtain⟨qs',q1,q2⟩:=zd3 p3 iP
  refine⟨.ref l,_,I.laid (t':=tk) k le (show zbr X.prog X.w _ g _ (.lst _) from⟨?_,as.map Value.ref,e,hvr as,he⟩),rfl,q l as qs' (I.hok.fresh le) q1 q2⟩
  rw[Qa,p3.length_eq,Qa];exact zd7 ‹_› ‹_›
end
end L2
end
section
set_option Elab.async false
set_option linter.all false
namespace L2
open PySem PySem.Spec PyProof.Rows
def fsk{N P:Nf}{sc:Scope}(a:sc.kind=.function:=by rfl)(b:sc.isCoroutine=false:=by rfl)(c:sc.isGenerator=false:=by rfl)(d:N.Nodup:=by decide +kernel)(e:N.take P.length=P:=by rfl)(f:∀x∈P,sc.names.lookup x=some .local∨sc.names.lookup x=some .cell:=by decide +kernel)(g:∀y∈sc.names,y.2≠.free:=by decide +kernel):zan N P sc:=⟨a,b,c,d,e,f,g⟩
section
variable{X:Cx}
def zar(i:Nat){x:Str}{e:Expr}{te:TE}{pos bn:Pos}(hN:X.N.Nodup)(he:PE X e te)(hi:X.N[i]?=some x:=by rfl)(hx:Loc X.env.scope x:=by exact Or.inl rfl)(hs:swapsWith e (some (.Name x bn)) pos.line X.env=pure false:=by rfl)(hf:X.fn x=true∨X.env.scope.names.lookup x=some .local:=by first | exact .inl rfl | exact .inr rfl | assumption) :
  PS X (.Assign [.Name x bn] e pos) (tAsg te (gName i)):=zdw hN hi hx he hs hf
def zbe(i:Nat){x:Str}{pos:Pos}(hN:X.N.Nodup)(hi:X.N[i]?=some x:=by rfl)(hx:Loc X.env.scope x:=by exact Or.inl rfl)(hf:X.fn x=true∨X.env.scope.names.lookup x=some .local:=by first | exact .inl rfl | exact .inr rfl | assumption):PG X (.Name x pos) (gName i):=zez hN hi hx hf
def zd2{o i:Expr}{td ty:TE}{pos:Pos}(hu:X.A.units+1<cLine)(ho:PE X o td)(hi:PE X i ty)(hs:NoSl i:=by exact λ_ _=>rfl):PE X (.Subscript o i pos) (tDGet td ty):=pe_dget hu ho hi hs
end
end L2
namespace L2
open PySem PySem.Spec PyProof.Rows
def Fun.okL{P:Nj}{w:Nk}{K:Nb}{mg:Ng}{base:Nm}{x qual:Str}{st:Stmt}{f:Nd}{fd:Nq}{N ps:Nf}{k:Nat}{sp:Sp}(F:Fun K x qual st f fd)(S:zan N ps (zah st))(br:∀ (cdv:Value) (A:No) (outer:List Env) (s:Nh) (H:Hp) (vs:List V) (Q:VK) (E:XK),Room k (A.deeper (envOfC qual (zah st) s.heap.objs.size f cdv))→sp vs H Q E →
   ∃t,PSs (cxOf CX0 P w K mg base N qual (zah st) f cdv A outer s H E).nox (zbz st) t∧t {nx:=λ_ H'=>Q .non H',rt:=Q} (start N vs) H)(len:∀vs H Q E,sp vs H Q E→vs.length=ps.length:=by intro _ _ _ _ h;cases h;subst_vars;rfl):FnOk P w K mg base CX0 (k+1) f fd ps sp:=F.ok S len br
end L2
end
section
namespace K21
open PySem L2
abbrev qR:Str := "_law_rounds_here"
abbrev qP:Str := "_law_pot_here"
abbrev qM:Str := "_law_many"
abbrev qO:Str := "_law_other"
abbrev qS:Str := "_law_script"
abbrev qN:Str := "_law_names_here"
def top(i:Nat):Stmt:=PySem.Challenge.pw_fivehues_k72_rings_of_a_tree.main.body.getD i (.Pass ⟨0,0,0,0⟩)
def eOf:Stmt→Expr
 |.Assign _ e _=>e
 |.Return (some e) _=>e
 |.For _ e _ _ _=>e
 |.While e _ _ _=>e
 |_=>.Name "" ⟨0,0,0,0⟩
def bOf:Stmt→List Stmt
 |.For _ _ b _ _=>b
 |.If _ b _ _=>b
 |_=>[]
def aOf(i:Nat):Expr→Expr
 |.Call _ a _ _=>a.getD i (.Name "" ⟨0,0,0,0⟩)
 |.BinOp l _ r _=>[l,r].getD i l
 |.BoolOp _ a _=>a.getD i (.Name "" ⟨0,0,0,0⟩)
 |.Compare _ _ a _=>a.getD i (.Name "" ⟨0,0,0,0⟩)
 |e=>e
def scOf:Expr→Scope
 |.ListComp _ _ sc _=>sc
 |.DictComp _ _ _ sc _=>sc
 |_=>{kind:=.function,names:=[],isGenerator:=false,isCoroutine:=false}
abbrev sAt(s:Stmt)(i:Nat):Stmt:=(zbz s).getD i (.Pass ⟨0,0,0,0⟩)
abbrev bAt(s:Stmt)(i:Nat):Stmt:=(bOf s).getD i (.Pass ⟨0,0,0,0⟩)
def Pot(H:Hp)(p:Nd)(b m:Int):Prop:=H p=some (.lst [.int b,.int m])∧0≤b∧0≤m∧m<2147483648
inductive IspTake(vs:List V)(H:Hp)(Q:VK):Prop
 |mk (p:Nd) (b m n:Int) (h0:vs=[.ref p,.int n]) (h1:Pot H p b m) (h2:0<n) (h3:n<1073741824) (h4:∀(d b' m':Int) (H':Hp),0≤d→d<n→Pot H' p b' m'→(∀c o,H c=some o→c≠p→H' c=some o)→Q (.int d) H'):IspTake vs H Q
def zfd:Sp:=λvs H Q _=>IspTake vs H Q
section
variable{P:Nj}{w:Nk}{K:Nb}{mg:Ng}{base:Nm}
end
end K21
end
section
namespace Wb
section
variable{α:Type}[DecidableEq α]
def nxt(zs:List α)(x:α):α:=zs.getD ((zs.idxOf x+1)%zs.length) x
def ins(zs:List α):Option α→α→List α
 |none,n=>n::zs
 |some c,n=>zs.take (zs.idxOf c+1)++n::zs.drop (zs.idxOf c+1)
abbrev Rs(α:Type):=List (α×List α)
def row(rs:Rs α)(x:α):List α:=((rs.find? λp=>decide (p.1=x)).map (·.2)).getD []
def zbf(rs:Rs α)(x:α)(r:List α):Rs α:=rs.map λp=>if p.1=x then(p.1,r) else p
def stp(rs:Rs α)(s:α×α):α×α:=(s.2,nxt (row rs s.2) s.1)
end
end Wb
namespace K21
open PySem L2 Wb
def Keep(xs:Nl)(H H':Hp):Prop:=∀c o,H c=some o→c∉xs→H' c=some o
def Keep.refl:Keep xs H H:=λ_ _ e _=>e
def Keep.trans(a:Keep xs H H1)(b:Keep xs H1 H2):Keep xs H H2:=λc o e n=>b c o (a c o e n) n
def Keep.sub(a:Keep xs H H1)(h:∀x∈xs,x∈ys):Keep ys H H1:=λc o e n=>a c o e λz=>n (h c z)
def Keep.new(h:H l=none):Keep xs H (upd H l o):=λc u e _=>by rw[zad (zab e h)];exact e
def Keep.wr(h:l∈xs):Keep xs H (upd H l o):=λc u e n=>by rw[zad (λz=>n (by rw[z];exact h))];exact e
abbrev Ent:=Str×List Str×Addr
def rsOf(es:List Ent):Rs Str:=es.map λe=>(e.1,e.2.1)
def zds{es:List Ent}(nd:(es.map (·.1)).Nodup){e:Ent}(h:e∈es):valV (es.map fun e=>((Sum.inr e.1:Key),V.ref e.2.2)) (Sum.inr e.1)=some (.ref e.2.2):=by
 induction es with
 |nil=>cases h
 | cons a t ih =>
  rw[Ql,Zb]at nd
  rw[Ql]
  rcases Qh.mp h with z | z
  ·subst z;exact zcr rfl
  ·rw [zbs]
   ·exact ih nd.2 z
   ·intro q
    exact nd.1 (by rw[Uv q];exact Qm.mpr ⟨e,z,rfl⟩)
def zfx{es:List Ent}{x:Str}(h:x∉es.map (·.1)):valV (es.map λe=>((Sum.inr e.1:Key),V.ref e.2.2)) (Sum.inr x)=none:=by
 induction es with
 |nil=>rfl
 |cons a t ih =>
  rw[Ql,Qh,not_or]at h
  rw[Ql,zbs]
  ·exact ih h.2
  ·intro q;exact h.1 (Uv q).symm
def zcn(nd:(es.map (·.1)).Nodup)(h:e∈es):row (rsOf es) e.1=e.2.1:=by
 unfold row rsOf
 induction es with
 |nil=>cases h
 | cons a t ih =>
  rw[Ql,Zb]at nd
  rw[Ql]
  rcases Qh.mp h with z | z
  ·subst z;rw[Wx (by simp)];rfl
  ·rw [Wy]
   ·exact ih nd.2 z
   ·intro q
    exact nd.1 (by rw[of_decide_eq_true q];exact Qm.mpr ⟨e,z,rfl⟩)
def put_new{es:List Ent}{x:Str}{r:Nf}{a:Nd}(h:x∉es.map (·.1)):putK (es.map λe=>((Sum.inr e.1:Key),V.ref e.2.2)) (Sum.inr x) (.ref a)=(es++[(x,r,a)]).map λe=>((Sum.inr e.1:Key),V.ref e.2.2):=by
 rw[zeh _ (zfx h),Qs]
 rfl
def cut_to{xs:List V}{k:Nat}(h:k≤xs.length):cutV xs none (some (k:Int))=xs.take k:=by
 unfold cutV
 have e1:HT.sIx xs.length 0 none=0:=rfl
 have e2:HT.sIx xs.length xs.length (some (k:Int))=k:=by rw[HT.sIx_nat];omega
 rw[e1,e2];simp
def zcb{xs:List V}{k:Nat}(h:k≤xs.length):cutV xs (some (k:Int)) none=xs.drop k:=by
 unfold cutV
 have e1:HT.sIx xs.length 0 (some (k:Int))=k:=by rw[HT.sIx_nat];omega
 have e2:HT.sIx xs.length xs.length none=xs.length:=rfl
 rw[e1,e2,Qz (by rw[Yv];exact Qg _)]
def idx_lt{zs:Nf}{x:Str}(h:x∈zs):zs.idxOf x<zs.length:=Ur.mpr h
def index_of{zs:Nf}{x:Str}(h:x∈zs):(∃ z,(zs.map V.str)[zs.idxOf x]?=some z∧eqV z (.str x)=true)∧∀ m z,m < zs.idxOf x→(zs.map V.str)[m]?=some z→eqV z (.str x)=false:=by
 refine⟨⟨.str x,?_,beq_self_eq_true x⟩,λm z hm e=>?_⟩
 ·rw[Qt,Qc (idx_lt h),Kf];rfl
 ·rw [Qt] at e
  have bJ:m<zs.length:=Wg hm (idx_lt h)
  rw[Qc bJ]at e
  cases e
  show(zs[m]==x)=false
  refine beq_eq_false_iff_ne.mpr λq=>?_
  have aJ:∀(l:Nf) (j:Nat) (hj:j<l.length),l[j]=x→l.idxOf x≤j:=by
   intro l
   induction l with
   |nil=>intro j hj;simp at hj
   | cons a t ih =>
    intro j hj e
    rw[Jt]
    cases j with
    |zero =>
     have e':a=x:=e
     rw[e'];simp
    | succ i =>
     have:=ih i (by simpa using hj) (by simpa using e)
     by_cases h:a=x
     ·rw[h];simp
     ·have hb:(a == x)=false:=beq_eq_false_iff_ne.mpr h
      rw[hb];simp;assumption
  have:=aJ zs m bJ q
  omega
def zcg(zs:Nf):(zs.map V.str).all ze4=true:=by
 rw[Jd];intro v hv;obtain⟨x,_,rfl⟩:=Qm.mp hv;rfl
end K21
end
section
namespace K21
open PySem L2 Wb
section
variable{P:Nj}{w:Nk}{K:Nb}{mg:Ng}{base:Nm}
end
end K21
end
section
namespace Wb
section
variable{α:Type}[DecidableEq α]
def itr(rs:Rs α)(s:α×α):Nat→α×α
 |0=>s
 |n+1=>stp rs (itr rs s n)
def IsSt(rs:Rs α)(s:α×α):Prop:=∃p∈rs,p.1=s.2∧s.1∈p.2
def allSt(rs:Rs α):List (α×α):=rs.flatMap λp=>p.2.map λx=>(x,p.1)
def mem_allSt{rs:Rs α}{s:α×α}:s∈allSt rs↔IsSt rs s:=by
 unfold allSt IsSt
 rw[List.mem_flatMap]
 constructor
 ·rintro ⟨p,hp,h⟩
  obtain⟨x,hx,rfl⟩:=Qm.mp h
  exact⟨p,hp,rfl,hx⟩
 ·rintro ⟨p,hp,e,hx⟩
  exact⟨p,hp,Qm.mpr ⟨s.1,hx,by rw[e]⟩⟩
def Clo(rs:Rs α):Prop:=∀s,IsSt rs s→IsSt rs (stp rs s)
theorem itr_st{rs:Rs α}(c:Clo rs){s:α×α}(h:IsSt rs s):∀n,IsSt rs (itr rs s n)
 |0=>h
 |n+1=>c _ (itr_st c h n)
def run(rs:Rs α)(s:α×α)(n:Nat):List (α×α):=(List.range n).map (itr rs s)
def run_succ(rs:Rs α)(s:α×α)(n:Nat):run rs s (n+1)=run rs s n++[itr rs s n]:=by
 unfold run;rw[List.range_succ,List.map_append];rfl
def nodup_len{l m:List (α×α)}(nd:l.Nodup)(h:∀x∈l,x∈m):l.length≤m.length:=by
 induction l generalizing m with
 |nil=>exact Zp _
 |cons a t ih =>
  rw[Zb]at nd
  have ha:=h a Qe
  have:=ih (m:=m.erase a) nd.2 λx hx=>(List.mem_erase_of_ne (λe=>nd.1 (by rw[←e];exact hx))).mpr (h x (Qi _ hx))
  rw[List.length_erase_of_mem ha]at this
  have hp:0<m.length:=Jm ha
  rw[Zf];lia
end
end Wb
namespace K21
open PySem L2 Wb
section
variable{P:Nj}{w:Nk}{K:Nb}{mg:Ng}{base:Nm}
def zdl.keep{H H':Hp}{as:Nl}{qs:Nv}(r:zdl H as qs)(k:∀b x y,H b=some (.tup [x,y])→H' b=some (.tup [x,y])):zdl H' as qs:=by
 induction r with
 |nil=>exact .nil
 |cons h t ih=>exact .cons (k _ _ _ h) ih
end
end K21
end
section
namespace Wb
section
variable{α:Type}[DecidableEq α]
structure Gen(G:Rs α→Prop):Prop where
 clo:∀rs,G rs→Clo rs
 nd:∀rs,G rs→(rs.map (·.1)).Nodup
 sub:∀rs,G rs→∀p∈rs,p.2.Nodup∧∀x∈p.2,x∈rs.map (·.1)
 sy:∀rs,G rs→∀p∈rs,∀x∈p.2,p.1∈row rs x
 nil:G []
 new:∀rs x,G rs→x∉rs.map (·.1)→G (rs++[(x,[])])
 leaf:∀rs x p c,G rs→x∉rs.map (·.1)→p∈rs→(∀y,c=some y→y∈p.2)→(c=none→p.2=[])→G (zbf (zbf (rs++[(x,[])]) p.1 (ins p.2 c x)) x [p.1])
 tie:∀rs c p n,G rs→p∈rs→c∈p.2→(itr rs (c,p.1) n).2≠p.1→(itr rs (c,p.1) n).2∉p.2 →
  G (zbf (zbf rs p.1 (ins p.2 (some c) (itr rs (c,p.1) n).2)) (itr rs (c,p.1) n).2 (ins (row rs (itr rs (c,p.1) n).2) (some (itr rs (c,p.1) n).1) p.1))
def zbj{l m:List α}(nd:l.Nodup)(h:∀x∈l,x∈m):l.length≤m.length:=by
 induction l generalizing m with
 |nil=>exact Zp _
 |cons a t ih =>
  rw[Zb]at nd
  have ha:=h a Qe
  have:=ih (m:=m.erase a) nd.2 λx hx=>(List.mem_erase_of_ne (λe=>nd.1 (by rw[←e];exact hx))).mpr (h x (Qi _ hx))
  rw[List.length_erase_of_mem ha]at this
  have hp:0<m.length:=Jm ha
  rw[Zf];lia
def Gen.rows{G:Rs α→Prop}(g:Gen G){rs:Rs α}(h:G rs):∀p∈rs,p.2.length≤rs.length:=λp hp=>by
 obtain⟨a,b⟩:=g.sub rs h p hp
 have:=zbj a b
 rwa[Qa]at this
def Gen.steps{G:Rs α→Prop}(g:Gen G){rs:Rs α}(h:G rs)(hl:rs.length≤40):(allSt rs).length≤1600:=by
 have key:∀(l:Rs α) (n:Nat),(∀p∈l,p.2.length≤n)→(allSt l).length≤l.length*n:=by
  intro l n
  induction l with
  |nil=>intro _;simp[allSt]
  |cons a t ih =>
   intro hh
   have h1:=ih λp hp=>hh p (Qi _ hp)
   have h2:=hh a Qe
   unfold allSt at h1 ⊢
   rw[List.flatMap_cons,Qj,Qa,Zf,Nat.succ_mul]
   lia
 have:=key rs rs.length (g.rows h)
 have:rs.length*rs.length≤40*40:=Nat.mul_le_mul hl hl
 exact Zk ‹_› ‹_›
end
end Wb
namespace K21
open PySem L2 Wb
def zcy{H:Hp}{p a:Nd}{b m:Int}{zs:Nf}(h:Pot H p b m)(ha:H a=some (.lst (zs.map V.str))):a≠p:=zbc ha h.1 (by
 intro z
 have z':zs.map V.str=[.int b,.int m]:=by injection z
 cases zs with
 |nil=>cases z'
 |cons x t=>rw[Ql]at z';injection z' with z1 _;cases z1)
def pot_nd{H:Hp}{p d:Nd}{b m:Int}{kvs:List (Key×V)}(h:Pot H p b m)(hd:H d=some (.dK kvs)):d≠p:=zbc hd h.1 (by intro z;cases z)
def Pot.keep{H H':Hp}{p:Nd}{b m:Int}{xs:Nl}(h:Pot H p b m)(k:Keep xs H H')(hp:p∉xs):Pot H' p b m:=⟨k _ _ h.1 hp,h.2⟩
def za5{H H':Hp}{p:Nd}(h:∀c o,H c=some o→c≠p→H' c=some o):Keep [p] H H':=λc o e n=>h c o e λz=>n (by rw[z];exact Qb.mpr rfl)
section
variable{P:Nj}{w:Nk}{K:Nb}{mg:Ng}{base:Nm}
def zd6{x:Str}{zs:Nf}:inV (.str x) (zs.map V.str)=decide (x∈zs):=by
 unfold inV
 rw[Yu,Yw,decide_eq_true_iff]
 constructor
 ·rintro ⟨v,hv,e⟩
  obtain⟨y,hy,rfl⟩:=Qm.mp hv
  have e':y=x:=eq_of_beq e
  rw[←e'];exact hy
 ·intro h
  exact⟨.str x,Qm.mpr ⟨x,h,rfl⟩,beq_self_eq_true x⟩
def za9{c:Bool}{A B:Prop}(h:c=false)(b:B):if c=true then A else B:=by rw[h];exact iteF b
def zbk{c:Bool}{A B:Prop}(h:c=true)(a:A):if c=true then A else B:=by rw[h];exact iteT a
end
end K21
end
section
namespace K21
open PySem L2 Wb
def zgj(es:List Ent):((es.map λe=>((Sum.inr e.1:Key),V.ref e.2.2)).map λp=>kV p.1)=(es.map (·.1)).map V.str:=by
 rw[Zr,Zr];rfl
section
variable{P:Nj}{w:Nk}{K:Nb}{mg:Ng}{base:Nm}
end
def zdd(z:Str):Prop:=1≤z.length∧z.length≤8∧∀c∈z.cps.toList,97≤c∧c≤122
def nodup_of_map{α β:Type}{f:α→β}{l:List α}(h:(l.map f).Nodup):l.Nodup:=by
 induction l with
 |nil=>exact Zt
 |cons a t ih =>
  rw[Ql,Zb]at h
  exact Zb.mpr ⟨λz=>h.1 (Qm.mpr ⟨a,z,rfl⟩),ih h.2⟩
def zh6{α β:Type}{f:α→β}{l:List α}(nd:l.Nodup)(h:∀a∈l,∀b∈l,f a=f b→a=b):(l.map f).Nodup:=by
 induction l with
 |nil=>exact Zt
 |cons a t ih =>
  rw[Zb]at nd
  rw[Ql,Zb]
  refine⟨λz=>?_,ih nd.2 λx hx y hy=>h x (Qi _ hx) y (Qi _ hy)⟩
  obtain⟨b,hb,e⟩:=Qm.mp z
  exact nd.1 (h b (Qi _ hb) a Qe e▸hb)
def zge{β:Type}{f:Nat→β}{n:Nat}(h:∀a,a<n→∀b,b<n→f a=f b→a=b):((List.range n).map f).Nodup :=
 zh6 Ky λa ha b hb=>h a (Yh.mp ha) b (Yh.mp hb)
def zdi:Str := "abcdefghijklmnopqrstuvwxyz"
def letters_at:∀i:Fin 26,zdi.cps.toList[i.1]?=some (97+i.1):=by decide +kernel
def zd4:zdi.length≤sizeLine:=by decide +kernel
def letter_at{j:Int}(h0:0≤j)(h1:j<26):atI zdi.cps.toList j=some (97+j.toNat):=by
 obtain⟨n,rfl⟩:=Zh h0
 exact zav (letters_at ⟨n,by exact zar8 ‹_›⟩)
section
variable{P:Nj}{w:Nk}{K:Nb}{mg:Ng}{base:Nm}
end
def zap(k:Keep xs H H')(h:H' l=none)(hx:l∉xs):H l=none:=by
 cases z:H l with
 |none=>rfl
 |some o=>rw[k _ _ z hx]at h;cases h
def Keep.cut(k:Keep (l::xs) H H')(h:H l=none):Keep xs H H':=λc o ec hc=>k c o ec (by
 have:c≠l:=zab ec h
 simp[this,hc])
section
variable{P:Nj}{w:Nk}{K:Nb}{mg:Ng}{base:Nm}
end
end K21
end
section
namespace K21
open PySem L2 Wb Tm
def leS_anti(a b:Str)(h:leS a b)(g:leS b a):a=b:=by
 have e:a.cps.toList=b.cps.toList:=List.le_antisymm (List.not_lt.mp h) (List.not_lt.mp g)
 cases a;cases b
 congr 1
 exact Xa.mp e
end K21
end
section
namespace K21
open PySem L2 Wb
abbrev sWeb:Stmt:=top 28
structure TAt(H:Hp)(d:Nd)(es:List Ent):Prop where
 dc:H d=some (.dK (es.map λe=>((Sum.inr e.1:Key),V.ref e.2.2)))
 ro:∀e∈es,H e.2.2=some (.tup (e.2.1.map V.str))
 nd:(es.map (·.1)).Nodup
def TAt.keep(r:TAt H d es)(k:Keep xs H H')(hd:d∉xs)(h:∀e∈es,e.2.2∉xs):TAt H' d es:=⟨k _ _ r.dc hd,λe he=>k _ _ (r.ro e he) (h e he),r.nd⟩
structure WAt(H:Hp)(C x dx d:Nd)(es:List Ent):Prop where
 ob:H x=some (.ins C dx [("rounds",.ref d)])
 ta:TAt H d es
def WAt.keep(r:WAt H C x dx d es)(k:Keep xs H H')(hx:x∉xs)(hd:d∉xs)(h:∀e∈es,e.2.2∉xs):WAt H' C x dx d es :=
 ⟨k _ _ r.ob hx,r.ta.keep k hd h⟩
def WAt.pot(r:WAt H C x dx d es)(h:Pot H p b m)(k:Keep [p] H H'):WAt H' C x dx d es :=
 r.keep k (by simpa using zbc r.ob h.1 (by intro z;cases z)) (by simpa using zbc r.ta.dc h.1 (by intro z;cases z)) λe he=>by simpa using zbc (r.ta.ro e he) h.1 (by intro z;cases z)
def refs_perm(h:ws.Perm (as.map V.ref)):∃c8:List Addr,ws=c8.map V.ref∧c8.Perm as:=by
 have key:∀ws:List V,(∀v∈ws,∃a,v=V.ref a)→∃c8:List Addr,ws=c8.map V.ref:=by
  intro ws
  induction ws with
  |nil=>intro _;exact⟨[],rfl⟩
  |cons v t ih =>
   intro hh
   obtain⟨a,rfl⟩:=hh v Qe
   obtain⟨c8,rfl⟩:=ih λv hv=>hh v (Qi _ hv)
   exact⟨a::c8,rfl⟩
 obtain⟨c8,rfl⟩:=key ws λv hv=>by
  obtain⟨a,_,rfl⟩:=Qm.mp (h.mem_iff.mp hv)
  exact⟨a,rfl⟩
 refine⟨c8,rfl,?_⟩
 have:=h.map (λv:V=>match v with | .ref a=>a | _=>0)
 rw[Zr,Zr]at this
 have e:∀l:List Addr,l.map ((λv:V=>match v with | .ref a=>a | _=>0)∘V.ref)=l:=λl=>List.map_id l
 rw[e,e]at this
 exact this
section
variable{P:Nj}{w:Nk}{K:Nb}{mg:Ng}{base:Nm}
end
def zbh:∀{as:List α} {bs:List β},Paired R as bs→∀{i:Nat} (hi:i<as.length),∃ay:i<bs.length,R as[i] bs[i]:=by
 intro as bs r
 induction r with
 |nil=>intro i hi;simp at hi
 | cons h t ih =>
  intro i hi
  cases i with
  |zero=>exact⟨by simp,h⟩
  |succ j =>
   obtain⟨a,b⟩:=ih (i:=j) (by simpa using hi)
   exact⟨by simpa using a,b⟩
section
variable{P:Nj}{w:Nk}{K:Nb}{mg:Ng}{base:Nm}
end
end K21
end
section
namespace L2
open PySem
def zf6:PS X st (λ_ _ _=>False):=λ_ _ _ _ _ _ h=>h.elim
def pe_tyN(hg:Gl X x)(hm:X.mg x=none)(hv:bootBuiltins x=some (.type T))(hn:x ≠ "__name__" := by decide)(dv:(x==("__debug__" : Str))=false:=by decide):PE X (.Name x pos) (tC (.ty T)):=by
 intro a6 s σ H Q I h
 exact ld_blt I hg hm hv ⟨.ty T,H,I,rfl,h⟩ hn dv
end L2
namespace K21
open PySem L2 Wb
abbrev zdz:Stmt:=top 22
inductive IspIsName(vs:List V)(H:Hp)(Q:VK):Prop
 |mk (z:Str) (h0:vs=[.str z]) (h1:zdd z) (h2:∀H',Keep [] H H'→Q (.bl true) H'):IspIsName vs H Q
def spIsName:Sp:=λvs H Q _=>IspIsName vs H Q
abbrev zeq:Scope:=scOf (aOf 0 (aOf 1 (eOf (sAt zdz 1))))
def csIsName_k:zeq.kind=.function:=by rfl
def csIsName_c:∀y∈zeq.names,y.2≠.cell:=by decide +kernel
def csIsName_n:∀y∈zeq.names,y.2=.local→zeq.names.lookup y.1=some .local:=by decide +kernel
def csIsName_f:∀y∈zeq.names,y.2=.free→(zah zdz).names.lookup y.1=some .cell∨(zah zdz).names.lookup y.1=some .free:=by decide +kernel
def nd1:(["sign"]:List Str).Nodup:=by decide +kernel
section
variable{P:Nj}{w:Nk}{K:Nb}{mg:Ng}{base:Nm}
def scIsName:zan ["thing"] ["thing"] (zah zdz):=fsk
def ok_isname(F:Fun K "is_name" "is_name" zdz f fd)(hML:mg "MOST_LETTERS" = some (.int 8 tk))(aZ:mg "isinstance" = none)(qV:mg "str" = none)(aa:mg "len" = none)(cS:mg "all" = none):FnOk P w K mg base CX0 1 f fd ["thing"] spIsName:=by
 refine F.okL scIsName (λcdv A outer s H vs Q E hr h=>?_)
 obtain⟨z,rfl,hz,k⟩:=h
 have hu:=zb4 hr
 have aE  := sizeLine_eq
 refine⟨_,zae (zb1 (zej (zdv (zaj call_isi_str (by rfl) aZ Zv (zaa (pv 0) (zaa (pe_tyN (T := "str") rfl qV PyProof.Rows.boot_str) zaf))))) (zag zf6) zax)
  (zag (za3 (pe_and (pe_chain op_le op_le zai (zaj zch (by rfl) aa Zo (zaa (pv 0) zaf)) (ze0 (v:=.int 8) rfl hML ⟨tk,rfl⟩))
   (pe_one (zaj (call_all rfl) (by rfl) cS PyProof.Rows.boot_all (zaa (pe_lc (M:=["sign"]) (ix:=[none]) ⟨csIsName_k,csIsName_c,csIsName_n,csIsName_f,rfl,by decide +kernel,λj i x h1 h2=>by
      match j,h1,h2 with
      |0,_,h2=>cases h2
      |n+1,h1,_=>cases h1⟩ rfl (pi_str (pv 0)) (λC a6 ex s H=>zbe 0 nd1)
      (λC a6 ex s H=>zd0) (λC a6 ex s H=>pe_chain op_le_str op_le_str zbu (pv 0) zbu)) zaf)))))),?_⟩
 obtain⟨hz1,oN,l0⟩:=hz
 have hz1':1≤z.cps.size:=hz1
 have hz2':z.cps.size≤8:=oN
 refine⟨_,rfl,z,rfl,_,rfl,za9 rfl ?_⟩
 refine⟨_,rfl,z,rfl,(by show z.cps.size≤sizeLine;lia),_,_,rfl,rfl,_,rfl,zbk (decide_eq_true (by show(1:Int)≤(z.cps.size:Int);exact zar9 ‹_›)) ?_⟩
 refine⟨_,_,rfl,rfl,_,rfl,zbk (decide_eq_true (by show(z.cps.size:Int)≤8;lia)) ?_⟩
 have asc:z.cps.all (· < 128)=true:=by
  rw[Array.all_eq_true]
  intro i hi
  have:=l0 z.cps[i] (by rw[Array.mem_toList_iff];exact Array.getElem_mem hi)
  exact decide_eq_true (by lia)
 refine⟨_,rfl,z,rfl,asc,λi m ys τ H1=>Aj5 (H1=H) (m=z.cps.size-i) (i≤z.cps.size) (ys=List.replicate i (V.bl true)) (Ex1 λx0=>τ=[x0]),⟨_,rfl,rfl,Zp _,rfl,none,rfl⟩,?_⟩
 rintro i m ys τ H1 ⟨rfl,rfl,hi,rfl,x0,rfl⟩
 by_cases ad:i<z.cps.size
 ·refine .inr ⟨ad,by rw [Xk];lia,?_⟩
  rintro y H' ⟨rfl,c,hc,rfl⟩
  obtain⟨h1,h2⟩:=l0 c (by rw[Array.mem_toList_iff];exact Array.mem_of_getElem? hc)
  have l1:(!decide ((⟨#[c]⟩:Str).cps.toList<("a" : Str).cps.toList))=true:=by
   rw[Jn,decide_eq_false_iff_not,show("a" : Str).cps.toList=[97] from by decide +kernel]
   show ¬[c]<[97]
   intro h
   have:=List.cons_lt_cons_iff.mp h
   rcases this with q | ⟨_,q⟩
   ·exact zar10 ‹_› ‹_›
   ·exact Wh _ q
  have l2:(!decide (("z" : Str).cps.toList<(⟨#[c]⟩:Str).cps.toList))=true:=by
   rw[Jn,decide_eq_false_iff_not,show("z" : Str).cps.toList=[122] from by decide +kernel]
   show ¬[122]<[c]
   intro h
   have:=List.cons_lt_cons_iff.mp h
   rcases this with q | ⟨_,q⟩
   ·exact zar10 ‹_› ‹_›
   ·exact Wh _ q
  refine⟨_,rfl,_,_,rfl,rfl,_,rfl,zbk l1 ?_⟩
  refine⟨_,_,rfl,rfl,_,?_,rfl,rfl,ad,?_,_,rfl⟩
  ·exact zar1 ‹_›
  ·rw[l2,List.replicate_succ']
 ·have e:i=z.cps.size:=by exact zar3 ‹_› ‹_›
  subst e
  refine .inl ⟨Qg _,λD hD=>?_⟩
  refine⟨D,List.replicate z.cps.size true,rfl,SqL.of (by rw[zac,List.map_replicate]),?_⟩
  have:(List.replicate z.cps.size true).all id=true:=by
   rw[Jd];intro b hb;exact(List.mem_replicate.mp hb).2
  rw[this]
  exact k _ (Keep.new hD)
end
end K21
end
section
namespace L2
open PySem
def lc_at(T:St→Prop)(ys:List V)(hl:ys.length=xs.length)(ha:SqL K H a xs)(hn:xs.length≤sizeLine)(h0:T τ)(hs:∀(i:Nat) (hi:i<xs.length) (gh:i<ys.length),∀τ,T τ→∀k:V→St→Hp→Prop,(∀τ2,T τ2→k ys[i] τ2 H)→g xs[i] τ H λ τ2 H2=>te τ2 H2 λy H4=>k y τ2 H4)(q:∀D,H D=none→Q (.ref D) (upd H D (.lst ys))):rLC g tAll te Q (Itl K a) τ H:=by
 refine⟨λi m zs τ H1=>Aj5 (H1=H) (T τ) (m=xs.length-i) (i≤xs.length) (zs=ys.take i),⟨_,rfl,h0,rfl,Zp _,rfl⟩,?_⟩
 rintro i m zs τ H1 ⟨rfl,ht,rfl,hi,rfl⟩
 by_cases ad:i<xs.length
 ·refine .inr ⟨⟨xs,xs[i],ha,Qc ad⟩,by rw [Zn];lia,?_⟩
  rintro x H' ⟨rfl,hx⟩
  have bE:=hx xs ha
  rw[Qc ad]at bE
  have eV:xs[i]=x:=Qv bE
  rw[←eV]
  refine hs i ad (by exact zar6 ‹_› ‹_›) τ ht (λy τ2 H4=>∃m',m'<xs.length-i∧Aj5 (H4=H') (T τ2) (m'=xs.length-(i+1)) (i+1≤xs.length) (ys.take i++[y]=ys.take (i+1))) λ τ2 h2=>?_
  exact⟨_,by exact zar1 ‹_›,rfl,h2,rfl,ad,by rw[Qo (by exact zar6 ‹_› ‹_›:i<ys.length)]⟩
 ·have e:i=xs.length:=by exact zar3 ‹_› ‹_›
  refine .inl ⟨⟨xs,ha,by lia⟩,λD hD=>?_⟩
  rw[Qz (by lia)]
  exact q D hD
end L2
namespace K21
open PySem L2 Wb
structure RwAt(H:Hp)(l:Nd)(as:Nl)(es:List Ent):Prop where
 ls:H l=some (.lst (as.map V.ref))
 ts:Paired (λa (e:Ent)=>H a=some (.tup [.str e.1,.ref e.2.2])) as es
 ro:∀e∈es,H e.2.2=some (.lst (e.2.1.map V.str))
def RwAt.keep(r:RwAt H l as es)(k:Keep [] H H'):RwAt H' l as es :=
 ⟨k _ _ r.ls (by simp),Paired.imp' (λ_ _ h=>k _ _ h (by simp)) r.ts,λe he=>k _ _ (r.ro e he) (by simp)⟩
abbrev zfs:Stmt:=top 23
abbrev zdt:Stmt:=top 24
abbrev zhx:Stmt:=top 25
inductive zhl(vs:List V)(H:Hp)(Q:VK):Prop
 |mk (l:Nd) (as:Nl) (es:List Ent) (h0:vs=[.ref l]) (h1:RwAt H l as es) (h2:(∀e∈es,e.2.1.length≤100∧zdd e.1∧∀x∈e.2.1,zdd x)) (h3:∀H',Keep [] H H'→Q .non H'):zhl vs H Q
def spNoNames:Sp:=λvs H Q _=>zhl vs H Q
inductive IspTwice(vs:List V)(H:Hp)(Q:VK):Prop
 |mk (l:Nd) (as:Nl) (es:List Ent) (h0:vs=[.ref l]) (h1:RwAt H l as es) (h2:es.length≤60) (h3:(es.map (·.1)).Nodup) (h4:(∀e∈es,e.2.1.length≤100∧e.2.1.Nodup)) (h5:∀H',Keep [] H H'→Q .non H'):IspTwice vs H Q
def spTwice:Sp:=λvs H Q _=>IspTwice vs H Q
inductive IspOneWay(vs:List V)(H:Hp)(Q:VK):Prop
 |mk (l:Nd) (as:Nl) (es:List Ent) (h0:vs=[.ref l]) (h1:RwAt H l as es) (h2:(es.map (·.1)).Nodup) (h3:(∀e∈es,e.1∉e.2.1∧∀x∈e.2.1,∃e'∈es,e'.1=x∧e.1∈e'.2.1)) (h4:∀H',Keep [] H H'→Q .non H'):IspOneWay vs H Q
def spOneWay:Sp:=λvs H Q _=>IspOneWay vs H Q
section
variable{P:Nj}{w:Nk}{K:Nb}{mg:Ng}{base:Nm}
def zef:zan ["rows", "place", "around", "thing"] ["rows"] (zah zfs):=fsk
def ok_nonames(F:Fun K "refuse_no_names" "refuse_no_names" zfs f fd)(FN:Fun K "is_name" "is_name" zdz fn fdn)(bN:Binds K fdn ["thing"] [])(mN:mg "is_name" = some (.ref fn))(GN:FnOk P w K mg base CX0 1 fn fdn ["thing"] spIsName):FnOk P w K mg base CX0 2 f fd ["rows"] spNoNames:=by
 refine F.okL zef (λcdv A outer s H vs Q E hr h=>?_)
 obtain⟨l,as,es,rfl,R,hok,k⟩:=h
 have hu:=zb4 hr
 have aE  := sizeLine_eq
 refine⟨_,zag (zbg Zd rfl (za6 (pv 0)) (zg6 rfl (zba (zbe 1 zef.nd) (zba (zbe 2 zef.nd) zc4)))
  (zag (zbg Zd rfl (za6 (zas zda (za7 (zaa (pv 1) zaf)) (pv 2))) (zbe 3 zef.nd)
   (zag (zb1 (zej (zdv (zak GN hr rfl mN FN.kp bN .nil zau (zaa (pv 3) zaf)))) (zag zf6) zax))))),?_⟩
 refine⟨_,rfl,l,rfl,⟨_,SqL.of R.ls⟩,zbw (xs:=as.map V.ref) (λi σ H'=>Aj2 (Keep [] H H') (Ex3 λx1 x2 x3=>σ=[some (.ref l),x1,x2,x3])) ⟨Keep.refl,none,none,none,rfl⟩ (λi σ H' _ hh=>SqL.of (hh.1 _ _ R.ls (by simp))) ?_ ?_⟩
 ·rintro i y σ H1 hx ⟨k1,x1,x2,x3,rfl⟩
  have hi:i<as.length:=by
   have:=(Ze.mp hx).1
   rwa[Qa]at this
  have jm:y=.ref as[i]:=by
   rw[Qt,Qc hi]at hx
   exact(Qv hx).symm
  subst jm
  obtain⟨ay,cu⟩:=zbh R.ts hi
  obtain⟨il,gC,cz⟩:=hok _ (Qp ay)
  have jD:=k1 _ _ (R.ro _ (Qp ay)) (by simp)
  refine⟨as[i],_,rfl,SqT.of (k1 _ _ cu (by simp)),rfl,_,_,rfl,_,_,rfl,rfl,?_⟩
  refine⟨_,rfl,(by show 1≤sizeLine;decide),λq hq=>?_⟩
  have nq:es[i].2.2≠q:=zab jD hq
  refine⟨_,rfl,q,es[i].2.2,_,_,rfl,rfl,zac,(by rw[zad nq];exact jD),(by rw[Qa];show 1+_≤sizeLine;lia),λq2 cF=>?_⟩
  have k2:Keep [] H (upd (upd H1 q (.lst [.str es[i].1])) q2 (.lst ([V.str es[i].1]++es[i].2.1.map V.str))):=(k1.trans (Keep.new hq)).trans (Keep.new cF)
  have jG:(upd (upd H1 q (.lst [.str es[i].1])) q2 (.lst ([V.str es[i].1]++es[i].2.1.map V.str))) q2=some (.lst ((es[i].1::es[i].2.1).map V.str)):=zac
  generalize upd (upd H1 q (.lst [.str es[i].1])) q2 (.lst ([V.str es[i].1]++es[i].2.1.map V.str))=H2 at k2 jG
  refine⟨q2,rfl,⟨_,SqL.of jG⟩,zbw (xs:=(es[i].1::es[i].2.1).map V.str) (λj σ H'=>Aj2 (Keep [] H2 H') (Ex3 λx1 x2 x3=>σ=[some (.ref l),x1,x2,x3])) ⟨Keep.refl,_,_,_,rfl⟩ (λj σ H' _ hh=>SqL.of (hh.1 _ _ jG (by simp))) ?_ ?_⟩
  ·rintro j y σ H3 hy ⟨k3,y1,y2,y3,rfl⟩
   obtain⟨z,hz,rfl⟩:=Qm.mp (Yo hy)
   have dy:zdd z:=by
    rcases Qh.mp hz with e | e
    ·rw[e];exact gC
    ·exact cz z e
   refine⟨_,rfl,z,rfl,dy,λH4 k4=>⟨_,rfl,za9 rfl ?_⟩⟩
   exact⟨k3.trans k4,_,_,_,rfl⟩
  ·rintro σ H3 ⟨k3,y1,y2,y3,rfl⟩
   exact⟨k2.trans k3,_,_,_,rfl⟩
 ·rintro σ H1 ⟨k1,x1,x2,x3,rfl⟩
  exact k H1 k1
abbrev csTwA:Scope:=scOf (eOf (sAt zdt 0))
abbrev csTwB:Scope:=scOf (aOf 1 (eOf (sAt zdt 1)))
def csTwA_k:csTwA.kind=.function:=by rfl
def csTwA_c:∀y∈csTwA.names,y.2≠.cell:=by decide +kernel
def csTwA_n:∀y∈csTwA.names,y.2=.local→csTwA.names.lookup y.1=some .local:=by decide +kernel
def csTwA_f:∀y∈csTwA.names,y.2=.free→(zah zdt).names.lookup y.1=some .cell∨(zah zdt).names.lookup y.1=some .free:=by decide +kernel
def csTwB_k:csTwB.kind=.function:=by rfl
def csTwB_c:∀y∈csTwB.names,y.2≠.cell:=by decide +kernel
def csTwB_n:∀y∈csTwB.names,y.2=.local→csTwB.names.lookup y.1=some .local:=by decide +kernel
def csTwB_f:∀y∈csTwB.names,y.2=.free→(zah zdt).names.lookup y.1=some .cell∨(zah zdt).names.lookup y.1=some .free:=by decide +kernel
def ndPA:(["place", "around"]:List Str).Nodup:=by decide +kernel
def scTwice:zan ["rows", "places", "names"] ["rows"] (zah zdt):=fsk
def noB(h1:sc.kind=.function)(h2:∀y∈sc.names,y.2≠.cell)(h3:∀y∈sc.names,y.2=.local→sc.names.lookup y.1=some .local)(h4:∀y∈sc.names,y.2=.free→X.env.scope.names.lookup y.1=some .cell∨X.env.scope.names.lookup y.1=some .free)(h5:n=M.length)(h6:M.Nodup):Blk X sc M (List.replicate n none):=⟨h1,h2,h3,h4,by rw [Xk,h5],h6,fun j i x _ h=>by
   have:=Yo h
   have:=(List.mem_replicate.mp this).2
   cases this⟩
def pg_tupK(hK:X.K=K)(hc:X.calm=true)(h:PGs X es t)(hn:(assignEach es X.env).length=n:=by rfl)(ap:(assignEach es X.env).findIdx? (·.1)=none:=by rfl):PG X (.Tuple es k pos) (gTup K n t):=hK▸zg6 hc h hn ap
def ok_twice(F:Fun K "refuse_twice" "refuse_twice" zdt f fd)(aa:mg "len" = none)(qX:mg "set" = none):FnOk P w K mg base CX0 1 f fd ["rows"] spTwice:=by
 refine F.okL scTwice (λcdv A outer s H vs Q E hr h=>?_)
 obtain⟨l,as,es,rfl,R,gn,aA,hok,k⟩:=h
 have hu:=zb4 hr
 have aE  := sizeLine_eq
 refine⟨_,zae (ps_lc (i:=1) (M:=["place", "around"]) (ix:=[none,none]) scTwice.nd rfl rfl (noB (n:=2) csTwA_k csTwA_c csTwA_n csTwA_f rfl ndPA) rfl (za6 (pv 0))
   (λC a6 ex s H=>pg_tupK (K:=K) (n:=2) rfl rfl (zba (zbe 0 ndPA) (zba (zbe 1 ndPA) zc4)))
   (λC a6 ex s H=>zd0) (λC a6 ex s H=>pv 0) rfl)
  (zag (zbg Zd rfl (za6 (zas zda (za7 (zaa (pv 1) zaf)) (pe_lc (M:=["place", "around"]) (ix:=[none,none]) (noB (n:=2) csTwB_k csTwB_c csTwB_n csTwB_f rfl ndPA) rfl (za6 (pv 0))
   (λC a6 ex s H=>pg_tupK (K:=K) (n:=2) rfl rfl (zba (zbe 0 ndPA) (zba (zbe 1 ndPA) zc4)))
   (λC a6 ex s H=>zd0) (λC a6 ex s H=>pv 1)))) (zbe 2 scTwice.nd)
   (zag (zb1 (za2 op_lt (zaj ziq (by rfl) aa Zo (zaa (zco (zim rfl) (by rfl) qX PyProof.Rows.boot_set (zaa (pv 2) zaf)) zaf))
    (zaj zal (by rfl) aa Zo (zaa (pv 2) zaf)) (zbt _)) (zag zf6) zax)))),?_⟩
 have e7:as.length=es.length:=Yf R.ts
 refine⟨_,rfl,l,rfl,⟨_,SqL.of R.ls⟩,lc_at (xs:=as.map V.ref) (λ τ=>∃x0 x1,τ=[x0,x1]) ((es.map (·.1)).map V.str) (by rw[Qa,Qa,Qa,e7]) (SqL.of R.ls) (by rw[Qa];lia) ⟨none,none,rfl⟩ ?_ (λD hD=>?_)⟩
 ·rintro i hi gh τ ⟨x0,x1,rfl⟩ kk hk
  rw[Qa]at hi
  obtain⟨ay,cu⟩:=zbh R.ts hi
  rw[Zu]
  refine⟨as[i],_,rfl,SqT.of cu,rfl,_,_,rfl,_,_,rfl,rfl,_,rfl,?_⟩
  have e:((es.map (·.1)).map V.str)[i]=V.str es[i].1:=by rw[Zu,Zu]
  rw[e]at hk
  exact hk _ ⟨_,_,rfl⟩
 ·have k1:Keep [] H (upd H D (.lst ((es.map (·.1)).map V.str))):=Keep.new hD
  have pC:(upd H D (.lst ((es.map (·.1)).map V.str))) D=some (.lst ((es.map (·.1)).map V.str)):=zac
  generalize upd H D (.lst ((es.map (·.1)).map V.str))=H1 at k1 pC
  have R1:=R.keep k1
  refine⟨_,rfl,(by show 1≤sizeLine;decide),λq hq=>?_⟩
  have k2:Keep [] H1 (upd H1 q (.lst [.ref D])):=Keep.new hq
  have cF:(upd H1 q (.lst [.ref D])) q=some (.lst [.ref D]):=zac
  generalize upd H1 q (.lst [.ref D])=H2 at k2 cF
  have R2:=R1.keep k2
  refine⟨_,rfl,l,rfl,⟨_,SqL.of R2.ls⟩,lc_at (xs:=as.map V.ref) (λ τ=>∃x0 x1,τ=[x0,x1]) (es.map λe=>V.ref e.2.2) (by rw[Qa,Qa,e7]) (SqL.of R2.ls) (by rw[Qa];lia) ⟨none,none,rfl⟩ ?_ (λD2 iZ=>?_)⟩
  ·rintro i hi gh τ ⟨x0,x1,rfl⟩ kk hk
   rw[Qa]at hi
   obtain⟨ay,cu⟩:=zbh R2.ts hi
   rw[Zu]
   refine⟨as[i],_,rfl,SqT.of cu,rfl,_,_,rfl,_,_,rfl,rfl,_,rfl,?_⟩
   rw[Zu]at hk
   exact hk _ ⟨_,_,rfl⟩
  ·have k3:Keep [] H2 (upd H2 D2 (.lst (es.map fun e=>V.ref e.2.2))):=Keep.new iZ
   have iC:(upd H2 D2 (.lst (es.map λe=>V.ref e.2.2))) D2=some (.lst (es.map λe=>V.ref e.2.2)):=zac
   generalize upd H2 D2 (.lst (es.map λe=>V.ref e.2.2))=H3 at k3 iC
   refine⟨q,D2,_,_,rfl,rfl,k3 _ _ cF (by simp),iC,(by rw[Qa];show 1+_≤sizeLine;lia),λq4 oU=>?_⟩
   have k4:Keep [] H3 (upd H3 q4 (.lst ([V.ref D]++es.map λe=>V.ref e.2.2))):=Keep.new oU
   have jF:(upd H3 q4 (.lst ([V.ref D]++es.map λe=>V.ref e.2.2))) q4=some (.lst ([V.ref D]++es.map λe=>V.ref e.2.2)):=zac
   generalize upd H3 q4 (.lst ([V.ref D]++es.map λe=>V.ref e.2.2))=H4 at k4 jF
   have dL:Keep [] H H4:=((k1.trans k2).trans k3).trans k4
   refine⟨q4,rfl,⟨_,SqL.of jF⟩,zbw (xs:=[V.ref D]++es.map λe=>V.ref e.2.2) (λi σ H'=>Aj2 (Keep [] H4 H') (Ex2 λx1 x2=>σ=[some (.ref l),x1,x2])) ⟨Keep.refl,_,_,rfl⟩ (λi σ H' _ hh=>SqL.of (hh.1 _ _ jF (by simp))) ?_ ?_⟩
   ·rintro i y σ H5 hy ⟨k5,x1,x2,rfl⟩
    obtain⟨a,zs,rfl,ha,dy,eG⟩:∃(a:Nd) (zs:Nf),y=V.ref a∧H5 a=some (.lst (zs.map V.str))∧zs.Nodup∧zs.length≤100:=by
     rcases Qd.mp (Yo hy) with z | z
     ·refine ⟨D,es.map (·.1),Qb.mp z,?_,aA,by rw [Qa];exact Zk gn (by decide)⟩
      exact k5 _ _ (k4 _ _ (k3 _ _ (k2 _ _ pC (by simp)) (by simp)) (by simp)) (by simp)
     ·obtain ⟨e,he,rfl⟩:=Qm.mp z
      exact⟨e.2.2,e.2.1,rfl,k5 _ _ (dL _ _ (R.ro e he) (by simp)) (by simp),(hok e he).2,(hok e he).1⟩
    refine⟨_,rfl,a,zs,rfl,SqL.of ha,dy,by lia,λt ht=>?_⟩
    have qj:a≠t:=zab ha ht
    refine⟨t,zs,rfl,zac,by lia,_,rfl,a,_,rfl,.inl (SqL.of (by rw[zad qj];exact ha)),_,_,rfl,rfl,_,rfl,za9 (decide_eq_false (by rw[Qa];lia)) ?_⟩
    exact⟨k5.trans (Keep.new ht),_,_,rfl⟩
   ·rintro σ H5 ⟨k5,x1,x2,rfl⟩
    exact k H5 (dL.trans k5)
end
end K21
end
section
namespace K21
open PySem L2 Wb
abbrev sLeast:Stmt:=top 27
inductive IspLeast(vs:List V)(H:Hp)(Q:VK):Prop
 |mk (a:Nd) (zs:Nf) (h0:vs=[.ref a]) (h1:H a=some (.lst (zs.map V.str))) (h2:zs.length≤100) (h3:∀(t:Nd) (j:Nat) (H':Hp),j≤zs.length→H' t=some (.tup ((zs.drop j++zs.take j).map V.str))→H t=none→Keep [] H H'→Q (.ref t) H'):IspLeast vs H Q
def spLeast:Sp:=λvs H Q _=>IspLeast vs H Q
def zg8{α β γ:Type}{R:α→γ→Prop}{f:β→γ}:∀{as:List α} {bs:List β},Paired (λa b=>R a (f b)) as bs→Paired R as (bs.map f):=by
 intro as bs r
 induction r with
 |nil=>exact .nil
 |cons h t ih=>exact .cons h ih
section
variable{P:Nj}{w:Nk}{K:Nb}{mg:Ng}{base:Nm}
def zee:zan ["rows", "rounds", "one", "around", "other"] ["rows"] (zah zhx):=fsk
def ok_oneway{f:Nd}{fd:Nq}(F:Fun K "refuse_one_way" "refuse_one_way" zhx f fd)(gp:mg "dict" = none):FnOk P w K mg base CX0 1 f fd ["rows"] spOneWay:=by
 refine F.okL zee (λcdv A outer s H vs Q E hr h=>?_)
 obtain⟨l,as,es,rfl,R,aA,hok,k⟩:=h
 have hu:=zb4 hr
 have aE  := sizeLine_eq
 refine⟨_,zae (zar 1 zee.nd (zco (zdx rfl) (by rfl) gp PyProof.Rows.boot_dict (zaa (pv 0) zaf)))
  (zag (zbg Zd rfl (za6 (pv 0)) (zg6 rfl (zba (zbe 2 zee.nd) (zba (zbe 3 zee.nd) zc4)))
   (zag (zbg Zd rfl (za6 (pv 3)) (zbe 4 zee.nd)
    (zag (zb1 (PW.pt (zf5 (za2 op_eq (pv 4) (pv 2) (zbt _)) (zf4 (za2 zct (pv 2) (pe_dget2 hu (pv 1) (pv 4) (za7 zaf) ⟨rfl,rfl,rfl,rfl⟩) rfl)))) (zag zf6) zax)))))),?_⟩
 have rp:(es.map λe:Ent=>(e.1,V.ref e.2.2)).map (·.1)=es.map (·.1):=by rw[Zr];rfl
 refine⟨_,rfl,l,as,es.map λe=>(e.1,V.ref e.2.2),rfl,R.ls,zg8 R.ts,by rw[rp];exact aA,λd hd=>?_⟩
 have rE:((es.map λe:Ent=>(e.1,V.ref e.2.2)).map λp=>((Sum.inr p.1:Key),p.2))=es.map λe=>((Sum.inr e.1:Key),V.ref e.2.2):=by rw[Zr];rfl
 rw[rE]
 have k1:Keep [] H (upd H d (.dK (es.map λe=>((Sum.inr e.1:Key),V.ref e.2.2)))):=Keep.new hd
 have ki:(upd H d (.dK (es.map λe=>((Sum.inr e.1:Key),V.ref e.2.2)))) d=some (.dK (es.map λe=>((Sum.inr e.1:Key),V.ref e.2.2))):=zac
 generalize upd H d (.dK (es.map λe=>((Sum.inr e.1:Key),V.ref e.2.2)))=H1 at k1 ki
 have R1:=R.keep k1
 refine⟨_,rfl,l,rfl,⟨_,SqL.of R1.ls⟩,zbw (xs:=as.map V.ref) (λi σ H'=>Aj2 (Keep [] H1 H') (Ex3 λx2 x3 x4=>σ=[some (.ref l),some (.ref d),x2,x3,x4])) ⟨Keep.refl,none,none,none,rfl⟩ (λi σ H' _ hh=>SqL.of (hh.1 _ _ R1.ls (by simp))) ?_ ?_⟩
 ·rintro i y σ H2 hx ⟨k2,x2,x3,x4,rfl⟩
  have hi:i<as.length:=by
   have:=(Ze.mp hx).1
   rwa[Qa]at this
  have jm:y=.ref as[i]:=by
   rw[Qt,Qc hi]at hx
   exact(Qv hx).symm
  subst jm
  obtain⟨ay,cu⟩:=zbh R1.ts hi
  obtain⟨gC,cz⟩:=hok _ (Qp ay)
  have jD:=k2 _ _ (R1.ro _ (Qp ay)) (by simp)
  refine⟨as[i],_,rfl,SqT.of (k2 _ _ cu (by simp)),rfl,_,_,rfl,_,_,rfl,rfl,?_⟩
  refine⟨_,rfl,es[i].2.2,rfl,⟨_,SqL.of jD⟩,zbw (xs:=es[i].2.1.map V.str) (λj σ H'=>Aj2 (Keep [] H2 H') (Ex1 λx4=>σ=[some (.ref l),some (.ref d),some (.str es[i].1),some (.ref es[i].2.2),x4])) ⟨Keep.refl,_,rfl⟩ (λj σ H' _ hh=>SqL.of (hh.1 _ _ jD (by simp))) ?_ ?_⟩
  ·rintro j y σ H3 hy ⟨k3,y4,rfl⟩
   obtain⟨z,hz,rfl⟩:=Qm.mp (Yo hy)
   obtain⟨e',dY,hez,aB⟩:=cz z hz
   have aJ:z≠es[i].1:=λq=>gC (q▸hz)
   have nO:=k3 _ _ (k2 _ _ ki (by simp)) (by simp)
   refine⟨_,rfl,_,rfl,rfl,_,rfl,za9 (decide_eq_false (λq=>aJ (by injection q))) ?_⟩
   refine⟨_,rfl,_,rfl,d,rfl,.inl ⟨_,.inl nO⟩,_,rfl,(by show 0≤sizeLine;decide),λq hq=>?_⟩
   have ndq:d≠q:=zab nO hq
   have tw:(upd H3 q (.lst [])) d=some (.dK (es.map λe=>((Sum.inr e.1:Key),V.ref e.2.2))):=by rw[zad ndq];exact nO
   have hr4:(upd H3 q (.lst [])) e'.2.2=some (.lst (e'.2.1.map V.str)):=by
    have h3:=k3 _ _ (k2 _ _ (R1.ro e' dY) (by simp)) (by simp)
    rw[zad (zab h3 hq)];exact h3
   have dg:=DGet.k (k:=Sum.inr z) tw
   rw[←hez,zds aA dY,hez]at dg
   refine⟨_,dg,e'.2.2,_,rfl,.inl (SqL.of hr4),rfl,zcg _,_,rfl,?_⟩
   refine za9 (by rw[if_pos rfl,zd6,decide_eq_true aB];rfl) ?_
   exact⟨k3.trans (Keep.new hq),_,rfl⟩
  ·rintro σ H3 ⟨k3,y4,rfl⟩
   exact⟨k2.trans k3,_,_,_,rfl⟩
 ·rintro σ H2 ⟨k2,x2,x3,x4,rfl⟩
  exact k H2 (k1.trans k2)
def scLeast:zan ["around", "at"] ["around"] (zah sLeast):=fsk
def ok_least(F:Fun K "from_least" "from_least" sLeast f fd)(fS:mg "min" = none)(jw:mg "tuple" = none):FnOk P w K mg base CX0 1 f fd ["around"] spLeast:=by
 refine F.okL scLeast (λcdv A outer s H vs Q E hr h=>?_)
 obtain⟨a,zs,rfl,ha,hz,k⟩:=h
 have aE  := sizeLine_eq
 refine⟨_,zae (zar 1 scLeast.nd (pe_ifExp (zei (pv 0) (by intro _;rfl)) (zb7 Qx Uu Ut zen (pv 0) (zaa (zaj (zio rfl) (by rfl) fS Xi (zaa (pv 0) zaf)) zaf)) zai))
  (zag (za3 (zco zil (by rfl) jw PyProof.Rows.boot_tuple (zaa (zas zda (zbb zby (pv 0) (zbn (pv 1)) zbl) (zbb zby (pv 0) zbl (zbn (pv 1)))) zaf)))),?_⟩
 have bz:(zs.map V.str).length=zs.length:=Qa ..
 refine⟨_,rfl,_,.inl ⟨_,SqL.of ha,rfl⟩,?_⟩
 by_cases qw:zs=[]
 ·refine za9 (by rw [qw];rfl) ?_
  have h0:0≤zs.length:=Zp _
  refine⟨_,rfl,_,rfl,_,rfl,a,_,rfl,SqL.of ha,λp1 h1=>?_⟩
  have n1:a≠p1:=zab ha h1
  refine⟨_,rfl,_,rfl,_,rfl,a,_,rfl,SqL.of (by rw[zad n1];exact ha),λp2 h2=>?_⟩
  have cT:p1≠p2:=zab (o:=_) zac h2
  refine⟨p1,p2,_,_,rfl,rfl,(by rw[zad cT];exact zac),zac,?_,λp3 h3=>?_⟩
  ·have q1:=zbq (zs.map V.str) (some (0:Int)) none
   have q2:=zbq (zs.map V.str) none (some (0:Int))
   rw[bz]at q1 q2
   show _+_≤sizeLine
   lia
  have ecut:cutV (zs.map V.str) (some (0:Int)) none++cutV (zs.map V.str) none (some (0:Int))=(zs.drop (0:Nat)++zs.take (0:Nat)).map V.str:=by
   show cutV (zs.map V.str) (some (((0:Nat)):Int)) none++cutV (zs.map V.str) none (some (((0:Nat)):Int))=_
   rw[zcb (by rw[bz];exact h0),cut_to (by rw[bz];exact h0),Qs,Ua,Uq]
  rw[ecut]
  refine⟨p3,_,rfl,.inl ⟨SqL.of zac,λt ht=>?_⟩⟩
  have kk:Keep [] H _:=(((Keep.new h1).trans (Keep.new h2)).trans (Keep.new h3)).trans (Keep.new (o:=.tup ((zs.drop (0:Nat)++zs.take (0:Nat)).map V.str)) ht)
  exact k t (0:Nat) _ h0 zac (zap (xs:=[]) (((Keep.new h1).trans (Keep.new h2)).trans (Keep.new h3)) ht (by simp)) kk
 ·refine zbk (by cases hh:zs with
   |nil=>exact absurd hh qw
   |cons _ _=>rfl) ?_
  refine⟨_,rfl,.inl ⟨rfl,_,SqL.of ha⟩,_,rfl,a,zs,rfl,SqL.of ha,qw,λz cV _=>?_⟩
  obtain⟨i1,i2⟩:=index_of cV
  have hj:zs.idxOf z≤zs.length:=Ww (idx_lt cV)
  refine⟨a,_,_,_,rfl,rfl,ha,rfl,zcg _,i1,i2,?_⟩
  refine⟨_,rfl,_,rfl,_,rfl,a,_,rfl,SqL.of ha,λp1 h1=>?_⟩
  have n1:a≠p1:=zab ha h1
  refine⟨_,rfl,_,rfl,_,rfl,a,_,rfl,SqL.of (by rw[zad n1];exact ha),λp2 h2=>?_⟩
  have cT:p1≠p2:=zab (o:=_) zac h2
  refine⟨p1,p2,_,_,rfl,rfl,(by rw[zad cT];exact zac),zac,?_,λp3 h3=>?_⟩
  ·have q1:=zbq (zs.map V.str) (some ((zs.idxOf z):Int)) none
   have q2:=zbq (zs.map V.str) none (some ((zs.idxOf z):Int))
   rw[bz]at q1 q2
   show _+_≤sizeLine
   lia
  have ecut:cutV (zs.map V.str) (some ((zs.idxOf z):Int)) none++cutV (zs.map V.str) none (some ((zs.idxOf z):Int))=(zs.drop (zs.idxOf z)++zs.take (zs.idxOf z)).map V.str:=by
   rw[zcb (by rw[bz];exact hj),cut_to (by rw[bz];exact hj),Qs,Ua,Uq]
  rw[ecut]
  refine⟨p3,_,rfl,.inl ⟨SqL.of zac,λt ht=>?_⟩⟩
  have kk:Keep [] H _:=(((Keep.new h1).trans (Keep.new h2)).trans (Keep.new h3)).trans (Keep.new (o:=.tup ((zs.drop (zs.idxOf z)++zs.take (zs.idxOf z)).map V.str)) ht)
  exact k t (zs.idxOf z) _ hj zac (zap (xs:=[]) (((Keep.new h1).trans (Keep.new h2)).trans (Keep.new h3)) ht (by simp)) kk
end
end K21
end
section
namespace Wb
section lk
variable{β:Type}
def Lk(f:β→β):β→List β→β→Prop
 |s,[],e=>f s=e
 |s,x::t,e=>f s=x∧Lk f x t e
def lk_app:∀{A:List β} {s:β},Lk f s (A++x::B) e↔Lk f s A x∧Lk f x B e:=by
 intro A
 induction A with
 |nil=>intro s;exact Iff.rfl
 |cons a t ih =>
  intro s
  show f s=a∧Lk f a (t++x::B) e↔(f s=a∧Lk f a t x)∧Lk f x B e
  rw[ih,and_assoc]
def lk_congr:∀{t:List β} {s:β},(∀y,y=s∨y∈t→g y=f y)→Lk f s t e→Lk g s t e:=by
 intro t
 induction t with
 |nil=>intro s h k;exact(h s (.inl rfl)).trans k
 |cons a t ih =>
  intro s h k
  refine⟨(h s (.inl rfl)).trans k.1,ih (λy hy=>h y (.inr ?_)) k.2⟩
  rcases hy with z | z
  ·rw[z];exact Qe
  ·exact Qi _ z
def Cyc(f:β→β)(c:List β):Prop:=∃s t,c=s::t∧Lk f s t s
def ze6(h:Cyc f (A++x::B)):Lk f x (B++A) x:=by
 obtain⟨s,t,e,k⟩:=h
 cases A with
 |nil =>
  cases e
  rw[Zw];exact k
 |cons a A' =>
  cases e
  obtain⟨k1,k2⟩:=lk_app.mp k
  exact lk_app.mpr ⟨k2,k1⟩
def cyc_congr(h:∀y∈c,g y=f y)(k:Cyc f c):Cyc g c:=by
 obtain⟨s,t,e,k⟩:=k
 subst e
 exact⟨s,t,rfl,lk_congr (λy hy=>h y (Qh.mpr hy)) k⟩
end lk
section nx
variable{α:Type}[DecidableEq α]
def zbv{A B:List α}{w:α}(h:w∉A):(B++A++[w]).head?=some (nxt (A++w::B) w):=by
 have hi:(A++w::B).idxOf w=A.length:=by
  rw[List.idxOf_append,if_neg h,List.idxOf_cons_self];lia
 unfold nxt
 rw[hi,Qj,Zf]
 cases B with
 |nil =>
  have e:(A.length+1)%(A.length+(([]:List α).length+1))=0:=by simp
  rw[e]
  cases A with
  |nil=>rfl
  |cons a t=>rfl
 | cons b t =>
  have e:(A.length+1)%(A.length+((b::t).length+1))=A.length+1:=Nat.mod_eq_of_lt (by rw[Zf];lia)
  rw[e]
  have:(A++w::b::t).getD (A.length+1) w=b:=by
   rw[Qy,Ja (by exact Wp _ _)]
   have:A.length+1-A.length=1:=by lia
   rw[this];rfl
  rw[this];rfl
def zci{zs:List α}{c:α}(h:c∈zs)(nd:zs.Nodup):∃A B,zs=A++c::B∧c∉A∧c∉B:=by
 obtain⟨A,B,e⟩:=Wr h
 refine⟨A,B,e,?_,?_⟩
 ·rw [e,Za] at nd
  exact λz=>nd.2.2 _ z _ Qe rfl
 ·rw [e,Za,Zb] at nd
  exact nd.2.1.1
def zc0{A B:List α}{c n:α}(h:c∉A):ins (A++c::B) (some c) n=A++c::n::B:=by
 have hi:(A++c::B).idxOf c=A.length:=by
  rw[List.idxOf_append,if_neg h,List.idxOf_cons_self];lia
 show(A++c::B).take ((A++c::B).idxOf c+1)++n::(A++c::B).drop ((A++c::B).idxOf c+1)=_
 rw[hi]
 have e1:(A++c::B).take (A.length+1)=A++[c]:=by
  rw[List.take_append,Qz (by exact Wp _ _)]
  have:A.length+1-A.length=1:=by lia
  rw[this];rfl
 have e2:(A++c::B).drop (A.length+1)=B:=by
  rw[List.drop_append,List.drop_of_length_le (by exact Wp _ _)]
  have:A.length+1-A.length=1:=by lia
  rw[this];rfl
 rw[e1,e2,Qu];rfl
variable{zs:List α}{c n:α}
def mem_ins(hc:c∈zs)(nd:zs.Nodup){w:α}:w∈ins zs (some c) n↔w=n∨w∈zs:=by
 obtain⟨A,B,rfl,h1,h2⟩:=zci hc nd
 rw[zc0 h1]
 simp only[Qd,Qh]
 constructor
 ·rintro (h | h | h | h)
  ·exact .inr (.inl h)
  ·exact .inr (.inr (.inl h))
  ·exact .inl h
  ·exact .inr (.inr (.inr h))
 ·rintro (h | h | h | h)
  ·exact .inr (.inr (.inl h))
  ·exact .inl h
  ·exact .inr (.inl h)
  ·exact .inr (.inr (.inr h))
def zia(hc:c∈zs)(nd:zs.Nodup):(ins zs (some c) n).length=zs.length+1:=by
 obtain⟨A,B,rfl,h1,h2⟩:=zci hc nd
 rw[zc0 h1]
 simp only[Qj,Zf];lia
def nd_ins(hc:c∈zs)(nd:zs.Nodup)(hn:n∉zs):(ins zs (some c) n).Nodup:=by
 obtain⟨A,B,rfl,h1,h2⟩:=zci hc nd
 rw[zc0 h1]
 rw[Za,Zb]at nd
 rw[Qd,Qh,not_or,not_or]at hn
 obtain⟨nA,⟨ncB,nB⟩,nAB⟩:=nd
 rw[Za,Zb,Zb]
 refine⟨nA,⟨?_,hn.2.2,nB⟩,λa ha b hb=>?_⟩
 ·rw[Qh,not_or];exact⟨λe=>hn.2.1 e.symm,ncB⟩
 ·rcases Qh.mp hb with z | z
  ·rw[z];exact nAB a ha c Qe
  ·rcases Qh.mp z with y | y
   ·rw[y];exact λe=>hn.1 (e▸ha)
   ·exact nAB a ha b (Qi _ y)
def zgd(hc:c∈zs)(nd:zs.Nodup):nxt (ins zs (some c) n) c=n:=by
 obtain⟨A,B,rfl,h1,h2⟩:=zci hc nd
 rw[zc0 h1]
 have k:=zbv (B:=n::B) h1
 exact(Qv k).symm
def zgc(hc:c∈zs)(nd:zs.Nodup)(hn:n∉zs):nxt (ins zs (some c) n) n=nxt zs c:=by
 obtain⟨A,B,rfl,h1,h2⟩:=zci hc nd
 rw[zc0 h1]
 rw[Qd,Qh,not_or,not_or]at hn
 have e:A++c::n::B=(A++[c])++n::B:=by rw[Qu];rfl
 have hnA:n∉A++[c]:=by
  rw[Qd,not_or,Qb];exact⟨hn.1,hn.2.1⟩
 have k1:=zbv (B:=B) hnA
 have k2:=zbv (B:=B) h1
 rw[←e]at k1
 refine Qv (k1.symm.trans (Eq.trans ?_ k2))
 cases B with
 |cons b t=>rfl
 |nil=>cases A with
  |nil=>rfl
  |cons a t=>rfl
def zgb(hc:c∈zs)(nd:zs.Nodup)(hn:n∉zs){w:α}(hw:w∈zs)(qB:w≠c):nxt (ins zs (some c) n) w=nxt zs w:=by
 obtain⟨A,B,rfl,h1,h2⟩:=zci hc nd
 rw[zc0 h1]
 rw[Za,Zb]at nd
 obtain⟨nA,⟨ncB,nB⟩,nAB⟩:=nd
 rw[Qd,Qh,not_or,not_or]at hn
 rcases Qd.mp hw with h | h
 ·obtain ⟨A1,A2,rfl,g1,g2⟩:=zci h nA
  have k1:=zbv (A:=A1) (B:=A2++c::n::B) g1
  have k2:=zbv (A:=A1) (B:=A2++c::B) g1
  rw[Qu,Yc,Qu,Yc]
  refine Qv (k1.symm.trans (Eq.trans ?_ k2))
  cases A2<;>rfl
 ·rcases Qh.mp h with z | z
  ·exact absurd z qB
  ·obtain ⟨B1,B2,rfl,g1,g2⟩:=zci z nB
   have hwA:w∉A:=λq=>nAB _ q _ (Qi _ z) rfl
   have lT:w≠n:=λq=>hn.2.2 (q▸z)
   have m1:w∉A++c::n::B1:=by
    simp only[Qd,Qh,not_or];exact⟨hwA,qB,lT,g1⟩
   have m2:w∉A++c::B1:=by
    simp only[Qd,Qh,not_or];exact⟨hwA,qB,g1⟩
   have k1:=zbv (B:=B2) m1
   have k2:=zbv (B:=B2) m2
   have e1:A++c::n::(B1++w::B2)=(A++c::n::B1)++w::B2:=by rw[Qu];rfl
   have e2:A++c::(B1++w::B2)=(A++c::B1)++w::B2:=by rw[Qu];rfl
   rw[e1,e2]
   refine Qv (k1.symm.trans (Eq.trans ?_ k2))
   cases B2 with
   |cons b t=>rfl
   |nil=>cases A<;>rfl
def nxt_rot(nd:zs.Nodup)(k:Nat){w:α}(hw:w∈zs):nxt (zs.drop k++zs.take k) w=nxt zs w:=by
 obtain⟨A,B,rfl,h1,h2⟩:=zci hw nd
 have k2:=zbv (B:=B) h1
 by_cases hk:k≤A.length
 ·have e:(A++w::B).drop k++(A++w::B).take k=A.drop k++w::(B++A.take k):=by
   rw[List.drop_append,List.take_append]
   have:k-A.length=0:=by lia
   rw[this,List.drop_zero,List.take_zero,Zw,Qu];rfl
  have k1:=zbv (A:=A.drop k) (B:=B++A.take k) (λz=>h1 (Wd z))
  rw[e]
  refine Qv (k1.symm.trans (Eq.trans ?_ k2))
  rw[Qu B,Yx]
 ·have e:(A++w::B).drop k++(A++w::B).take k=(B.drop (k - A.length - 1)++A)++w::B.take (k - A.length - 1):=by
   rw[List.drop_append,List.take_append,List.drop_of_length_le (by lia),Qz (by lia)]
   have:k-A.length=(k-A.length-1)+1:=by lia
   conv=>lhs;rw[this]
   rw[List.drop_succ_cons,List.take_succ_cons,Wu,Qu]
  have k1:=zbv (A:=B.drop (k-A.length-1)++A) (B:=B.take (k-A.length-1)) (λz=>by
   rcases Qd.mp z with y | y
   ·exact h2 (Wd y)
   ·exact h1 y)
  rw[e]
  refine Qv (k1.symm.trans (Eq.trans ?_ k2))
  rw[←Qu,Yx]
end nx
section
variable{α:Type}[DecidableEq α]
def st(r:α→List α)(s:α×α):α×α:=(s.2,nxt (r s.2) s.1)
inductive Conn(r:α→List α)(x:α):α→Prop
 |refl:Conn r x x
 |step {y z:α}:Conn r x y→z∈r y→Conn r x z
def Conn.trans{r:α→List α}{x y z:α}(a:Conn r x y)(b:Conn r y z):Conn r x z:=by
 induction b with
 |refl=>exact a
 |step _ h ih=>exact .step ih h
def Conn.mono(h:∀x y,y∈r x→y∈r' x)(a:Conn r x y):Conn r' x y:=by
 induction a with
 |refl=>exact .refl
 |step _ hz ih=>exact .step ih (h _ _ hz)
def wt(ns:List α)(r:α→List α)(a8:α→α)(t:α):Int:=(ns.map λx=>if a8 x=t then 2+(if r x=[] then 2 else 0)-((r x).length:Int) else 0).sum
def ct(cs:List (List (α×α)))(a8:α→α)(t:α):Int:=(cs.map λc=>if(c.any λs=>decide (a8 s.1=t))=true then(2:Int) else 0).sum
structure Cert(ns:List α)(r:α→List α)(cs:List (List (α×α)))(a8:α→α):Prop where
 nd:ns.Nodup
 ro:∀x,x∉ns→r x=[]
 rn:∀x,(r x).Nodup
 ir:∀x,x∉r x
 sy:∀x y,y∈r x→x∈r y
 cf:cs.flatten.Nodup
 cm:∀s,s∈cs.flatten↔s.1∈r s.2
 cy:∀c∈cs,Cyc (st r) c
 ln:∀x∈ns,a8 x∈ns
 la:∀x y,y∈r x→a8 y=a8 x
 co:∀x∈ns,∀y∈ns,a8 x=a8 y→Conn r x y
 eu:∀x∈ns,wt ns r a8 (a8 x)+ct cs a8 (a8 x)=4
variable{ns:List α}{r r':α→List α}{cs:List (List (α×α))}{a8:α→α}
def Cert.inn(C:Cert ns r cs a8){x y:α}(h:y∈r x):x∈ns:=Km λz=>by rw[C.ro x z]at h;cases h
def Cert.inn'(C:Cert ns r cs a8){x y:α}(h:y∈r x):y∈ns:=C.inn (C.sy x y h)
def sum_upd{g g':α→Int}:∀ {l:List α},l.Nodup→a∈l→(∀ x∈l,x≠a→g' x=g x)→(l.map g').sum=(l.map g).sum+(g' a - g a):=by
 intro l
 induction l with
 |nil=>intro _ h;cases h
 | cons b t ih =>
  intro nd h e
  rw[Zb]at nd
  rw[Ql,Ql,Yb,Yb]
  by_cases hb:b=a
  ·have:(t.map g').sum=(t.map g).sum:=by
    congr 1
    exact Wa λx hx=>e x (Qi _ hx) λz=>nd.1 (by rw[hb,←z];exact hx)
   rw[this,hb];lia
  ·have h':a∈t:=by
    rcases Qh.mp h with z | z
    ·exact absurd z.symm hb
    ·exact z
   rw[ih nd.2 h' λx hx=>e x (Qi _ hx),e b Qe hb];lia
def zdm{β:Type}{g g':β→Int}{l:List β}(h:∀x∈l,g' x=g x):(l.map g').sum=(l.map g).sum:=by
 congr 1;exact Wa h
def zij(C:Cert ns r cs a8){N R:List (List (α×α))}{c0 news:List (α×α)}(hR:∀c∈R,c∈cs)(bY:cs.flatten.Perm (c0++R.flatten))(hN:N.flatten.Perm (news++c0))(aA:news.Nodup)(cY:∀s∈news,s.1∉r s.2)(ij:∀s:α×α,s.1∈r' s.2↔s∈news∨s.1∈r s.2)(hcy:∀c∈N,Cyc (st r') c)(ap:∀s:α×α,s.1∈r s.2→s∉c0→st r' s=st r s) :
  (N++R).flatten.Nodup∧(∀s,s∈(N++R).flatten↔s.1∈r' s.2)∧∀c∈N++R,Cyc (st r') c:=by
 have hp:(N++R).flatten.Perm (news++cs.flatten):=by
  rw[Jz]
  refine(List.Perm.append_right _ hN).trans ?_
  rw[Qu]
  exact Zy _ bY.symm
 refine⟨?_,λs=>?_,λc hc=>?_⟩
 ·rw [hp.nodup_iff,Za]
  exact⟨aA,C.cf,λa ha b hb e=>cY a ha (by rw[e];exact(C.cm b).mp hb)⟩
 ·rw[hp.mem_iff,Qd,ij,C.cm]
 ·rcases Qd.mp hc with z | z
  ·exact hcy c z
  ·refine cyc_congr (fun y hy=>?_) (C.cy c (hR c z))
   have hyR:y∈R.flatten:=Yr.mpr ⟨c,z,hy⟩
   refine ap y ((C.cm y).mp (bY.mem_iff.mpr (Qk _ hyR))) λlO=>?_
   have:=bY.nodup_iff.mp C.cf
   rw[Za]at this
   exact this.2.2 y lO y hyR rfl
def sum_zero{β:Type}{g:β→Int}:∀{l:List β},(∀x∈l,g x=0)→(l.map g).sum=0:=by
 intro l
 induction l with
 |nil=>intro _;rfl
 |cons a t ih =>
  intro h
  rw[Ql,Yb,h a Qe,ih λx hx=>h x (Qi _ hx)];rfl
def Cert.inc(C:Cert ns r cs a8){c:List (α×α)}(hc:c∈cs){s:α×α}(hs:s∈c):s.1∈r s.2:=(C.cm s).mp (Yr.mpr ⟨c,hc,hs⟩)
def ct_lab{af:α→α}{t:α}(h:∀c∈cs,∀s∈c,af s.1=a8 s.1):ct cs af t=ct cs a8 t:=by
 refine zdm λc hc=>?_
 have:(c.any λs=>decide (af s.1=t))=c.any λs=>decide (a8 s.1=t):=by
  rw[Yu,Yw,Yw]
  constructor
  ·rintro⟨s,hs,e⟩;exact⟨s,hs,by rwa[h c hc s hs]at e⟩
  ·rintro⟨s,hs,e⟩;exact⟨s,hs,by rw[h c hc s hs];exact e⟩
 rw[this]
def cert_new(C:Cert ns r cs a8){x:α}(hx:x∉ns){af:α→α}(hl:∀y∈ns,af y=a8 y)(bw:af x=x):Cert (ns++[x]) r cs af:=by
 have hrx:r x=[]:=C.ro x hx
 have ne:∀{y},y∈ns→y≠x:=λ{y} hy e=>hx (e▸hy)
 have aB:∀c∈cs,∀s∈c,s.1∈ns:=λc hc s hs=>C.inn' (C.inc hc hs)
 have lq:∀t,ct cs af t=ct cs a8 t:=λt=>ct_lab λc hc s hs=>hl _ (aB c hc s hs)
 have lx:∀y∈ns,a8 y≠x:=λy hy e=>hx (e▸C.ln y hy)
 have tz:ct cs a8 x=0:=sum_zero λc hc=>if_neg λz=>by
  obtain⟨s,hs,e⟩:=Yw.mp z
  exact lx _ (aB c hc s hs) (of_decide_eq_true e)
 have hw:∀t,wt (ns++[x]) r af t=wt ns r a8 t+if x=t then 4 else 0:=λt=>by
  unfold wt
  rw[Qs,List.sum_append,Ql,Xb,Yb,List.sum_nil]
  congr 1
  ·exact zdm λz hz=>by rw[hl z hz]
  ·rw[bw,hrx];simp
 refine⟨?_,λy hy=>C.ro y λz=>hy (Qn _ z),C.rn,C.ir,C.sy,C.cf,C.cm,C.cy,λy hy=>?_,λy z hz=>?_,λy hy z hz e=>?_,λy hy=>?_⟩
 ·rw [Za]
  exact⟨C.nd,Zb.mpr ⟨by simp,Zt⟩,λa ha b hb=>by rw[Qb.mp hb];exact ne ha⟩
 ·rcases Qd.mp hy with h | h
  ·rw[hl y h];exact Qn _ (C.ln y h)
  ·rw[Qb.mp h,bw];exact Qk _ Qe
 ·rw[hl _ (C.inn' hz),hl _ (C.inn hz)];exact C.la y z hz
 ·rcases Qd.mp hy with h | h <;> rcases Qd.mp hz with g | g
  ·rw[hl _ h,hl _ g]at e;exact C.co y h z g e
  ·rw [hl _ h,Qb.mp g,bw] at e
   exact absurd e (lx y h)
  ·rw [hl _ g,Qb.mp h,bw] at e
   exact absurd e.symm (lx z g)
  ·rw[Qb.mp h,Qb.mp g];exact .refl
 ·rw [lq,hw]
  rcases Qd.mp hy with h | h
  ·rw [hl _ h,if_neg (fun z=>lx y h z.symm)]
   have:=C.eu y h;lia
  ·rw [Qb.mp h,bw,if_pos rfl,tz]
   have:wt ns r a8 x=0:=sum_zero λz hz=>if_neg (lx z hz)
   rw[this];rfl
end
section
variable{β:Type}
def zh9:∀{t:List β},g s'=f s→(∀y∈t,g y=f y)→Lk f s t e→Lk g s' t e:=by
 intro t
 cases t with
 |nil=>intro h _ k;exact h.trans k
 |cons a t =>
  intro h hh k
  exact⟨h.trans k.1,lk_congr (λy hy=>hh y (Qh.mpr hy)) k.2⟩
def lk_lab{γ:Type}{f:β→β}{lb:β→γ}{e:β}:∀{t:List β} {s:β},(∀y,y=s∨y∈t→lb (f y)=lb y)→Lk f s t e→∀y∈t,lb y=lb s:=by
 intro t
 induction t with
 |nil=>intro s _ _ y hy;cases hy
 | cons a t ih =>
  intro s h k y hy
  have ha:lb a=lb s:=by rw[←k.1];exact h s (.inl rfl)
  rcases Qh.mp hy with z | z
  ·rw[z];exact ha
  ·rw [← ha]
   exact ih (λy hy=>h y (.inr (Qh.mpr hy))) k.2 y z
def zh4{l m:List Int}(h:l.Perm m):l.sum=m.sum:=by
 induction h with
 |nil=>rfl
 |cons x _ ih=>rw[Yb,Yb,ih]
 |swap x y l=>rw[Yb,Yb,Yb,Yb];omega
 |trans _ _ a b=>exact a.trans b
end
section
variable{α:Type}[DecidableEq α]{ns:List α}{r r':α→List α}{cs:List (List (α×α))}{a8 af:α→α}
def ct_perm{bi:List (List (α×α))}(h:cs.Perm bi)(t:α):ct cs a8 t=ct bi a8 t:=zh4 (h.map _)
def ze7(c:List (α×α))(t:α):ct (c::cs) a8 t=(if(c.any λs=>decide (a8 s.1=t))=true then(2:Int) else 0)+ct cs a8 t:=by
 unfold ct;rw[List.map_cons,List.sum_cons]
def Cert.one_lab(C:Cert ns r cs a8){c:List (α×α)}(hc:c∈cs){s u:α×α}(hs:s∈c)(hu:u∈c):a8 u.1=a8 s.1:=by
 obtain⟨A,B,rfl⟩:=Wr hs
 have k:=ze6 (C.cy _ hc)
 have hl:∀y,y=s∨y∈B++A→a8 (st r y).1=a8 y.1:=λy hy=>by
  have c9:y∈A++s::B:=by
   rcases hy with z | z
   ·rw[z];exact hs
   ·rcases Qd.mp z with q | q
    ·exact Qk _ (Qi _ q)
    ·exact Qn _ q
  exact(C.la _ _ (C.inc hc c9)).symm
 rcases Qd.mp hu with z | z
 ·exact lk_lab (lb:=λy:α×α=>a8 y.1) hl k u (Qk _ z)
 ·rcases Qh.mp z with q | q
  ·rw[q]
  ·exact lk_lab (lb:=λy:α×α=>a8 y.1) hl k u (Qn _ q)
def zfb{c:List (α×α)}(h:∀s∈c,a8 s.1=u)(aJ:c≠[]):(c.any λs=>decide (a8 s.1=t))=decide (u=t):=by
 rw[Yu,Yw,decide_eq_true_iff]
 constructor
 ·rintro⟨s,hs,e⟩;rw[←h s hs];exact of_decide_eq_true e
 ·intro e
  cases c with
  |nil=>exact absurd rfl aJ
  |cons s _=>exact⟨s,Qe,decide_eq_true ((h s Qe).trans e)⟩
def zc2(hc:c∈cs):cs.flatten.Perm (c++(cs.erase c).flatten):=by
 have:=List.Perm.flatten (Jr hc)
 rwa[Kr]at this
def zfk(C:Cert ns r cs a8)(hp:p∈ns)(hx:x∉ns)(h1:r' x=[p])(h3:∀ y,y≠x→y≠p→r' y=r y)(hm:∀ w,w∈r' p↔w=x∨w∈r p)(hn:(r' p).Nodup)(aa:(r' p).length=(r p).length+1)(hl:∀y∈ns,af y=a8 y)(bw:af x=a8 p)(hc:bi.flatten.Nodup∧(∀s,s∈bi.flatten↔s.1∈r' s.2)∧∀c∈bi,Cyc (st r') c)(lq:∀t,ct bi af t=ct cs a8 t+if a8 p=t then(if r p=[] then 2 else 0) else 0):Cert (ns++[x]) r' bi af:=by
 have ce:p≠x:=λe=>hx (e▸hp)
 have hrx:r x=[]:=C.ro x hx
 have ne:∀{y},y∈ns→y≠x:=λ{y} hy e=>hx (e▸hy)
 have sub:∀z y,y∈r z→y∈r' z:=λz y hy=>by
  by_cases hz:z=p
  ·rw[hz]at hy ⊢;exact(hm y).mpr (.inr hy)
  ·rw[h3 z (ne (C.inn hy)) hz];exact hy
 have hw:∀t,wt (ns++[x]) r' af t=wt ns r a8 t-if a8 p=t then(if r p=[] then 2 else 0) else 0:=λt=>by
  unfold wt
  rw[Qs,List.sum_append,Ql,Xb,Yb,List.sum_nil,bw,h1]
  have e1:(ns.map λy=>if af y=t then(2:Int)+(if r' y=[] then 2 else 0)-((r' y).length:Int) else 0).sum=(ns.map λy=>if a8 y=t then(2:Int)+(if r' y=[] then 2 else 0)-((r' y).length:Int) else 0).sum :=
   zdm λy hy=>by rw[hl y hy]
  rw[e1,sum_upd (g:=λy=>if a8 y=t then(2:Int)+(if r y=[] then 2 else 0)-((r y).length:Int) else 0) C.nd hp (λy hy aX=>by rw[h3 y (ne hy) aX])]
  have aJ:r' p≠[]:=λe=>by rw[e]at aa;simp at aa
  by_cases ht:a8 p=t
  ·simp only [ht,if_true,aJ,if_false,aa]
   by_cases mf:r p=[]
   ·simp[mf];omega
   ·simp[mf];omega
  ·simp only[ht,if_false];omega
 refine⟨?_,λy hy=>?_,λy=>?_,λy=>?_,λy z hz=>?_,hc.1,hc.2.1,hc.2.2,λy hy=>?_,λy z hz=>?_,λy hy z hz e=>?_,λy hy=>?_⟩
 ·rw [Za]
  exact⟨C.nd,Zb.mpr ⟨by simp,Zt⟩,λa ha b hb=>by rw[Qb.mp hb];exact ne ha⟩
 ·rw [Qd,not_or,Qb] at hy
  rw[h3 y hy.2 (λe=>hy.1 (e▸hp))];exact C.ro y hy.1
 ·by_cases dM:y=x
  ·rw[dM,h1];exact Zb.mpr ⟨by simp,Zt⟩
  ·by_cases aX:y=p
   ·rw[aX];exact hn
   ·rw[h3 y dM aX];exact C.rn y
 ·by_cases dM:y=x
  ·rw[dM,h1,Qb];exact Zi ce
  ·by_cases aX:y=p
   ·rw[aX,hm,not_or];exact⟨ce,C.ir p⟩
   ·rw[h3 y dM aX];exact C.ir y
 ·by_cases dM:y=x
  ·rw [dM,h1,Qb] at hz
   rw[hz,dM];exact(hm x).mpr (.inl rfl)
  ·by_cases aX:y=p
   ·rw [aX] at hz ⊢
    rcases(hm z).mp hz with q | q
    ·rw[q,h1];exact Qe
    ·exact sub z p (C.sy p z q)
   ·rw [h3 y dM aX] at hz
    exact sub z y (C.sy y z hz)
 ·rcases Qd.mp hy with h | h
  ·rw[hl y h];exact Qn _ (C.ln y h)
  ·rw[Qb.mp h,bw];exact Qn _ (C.ln p hp)
 ·by_cases dM:y=x
  ·rw [dM,h1,Qb] at hz
   rw[hz,dM,bw,hl p hp]
  ·by_cases aX:y=p
   ·rw [aX] at hz ⊢
    rcases(hm z).mp hz with q | q
    ·rw[q,bw,hl p hp]
    ·rw[hl _ (C.inn' q),hl p hp];exact C.la p z q
   ·rw [h3 y dM aX] at hz
    rw[hl _ (C.inn' hz),hl _ (C.inn hz)];exact C.la y z hz
 ·have xp:Conn r' x p:=.step .refl (by rw [h1];exact Qe)
  rcases Qd.mp hy with h | h<;>rcases Qd.mp hz with g | g
  ·rw[hl _ h,hl _ g]at e;exact(C.co y h z g e).mono sub
  ·rw [hl _ h,Qb.mp g,bw] at e
   rw[Qb.mp g]
   exact .step ((C.co y h p hp e).mono sub) ((hm x).mpr (.inl rfl))
  ·rw [hl _ g,Qb.mp h,bw] at e
   rw[Qb.mp h]
   exact xp.trans ((C.co p hp z g e).mono sub)
  ·rw[Qb.mp h,Qb.mp g];exact .refl
 ·have key:∀ u∈ns,wt (ns++[x]) r' af (a8 u)+ct bi af (a8 u)=4:=fun u hu=>by
   rw[hw,lq]
   have:=C.eu u hu;omega
  rcases Qd.mp hy with h | h
  ·rw[hl _ h];exact key y h
  ·rw[Qb.mp h,bw];exact key p hp
end
section
variable{α:Type}[DecidableEq α]{ns:List α}{r r':α→List α}{cs:List (List (α×α))}{a8 af:α→α}
def nxt_one(p:α):nxt [p] p=p:=by
 unfold nxt
 simp
def leaf_mem(C:Cert ns r cs a8)(hp:p∈ns)(hx:x∉ns)(h1:r' x=[p])(h3:∀ y,y≠x→y≠p→r' y=r y)(hm:∀ w,w∈r' p↔w=x∨w∈r p) :
  ∀s:α×α,s.1∈r' s.2↔s∈[(x,p),(p,x)]∨s.1∈r s.2:=λs=>by
 obtain⟨a,b⟩:=s
 have ce:p≠x:=λe=>hx (e▸hp)
 show a∈r' b↔(a,b)∈[(x,p),(p,x)]∨a∈r b
 rw[Qh,Qb,Prod.mk.injEq,Prod.mk.injEq]
 by_cases pj:b=x
 ·subst pj
  rw[h1,C.ro b hx,Qb]
  constructor
  ·intro e;exact .inl (.inr ⟨e,rfl⟩)
  ·rintro ((⟨_,e⟩ | ⟨e,_⟩) | e)
   ·exact absurd e.symm ce
   ·exact e
   ·cases e
 ·by_cases iW:b=p
  ·subst iW
   rw[hm]
   constructor
   ·rintro (e | e)
    ·exact .inl (.inl ⟨e,rfl⟩)
    ·exact .inr e
   ·rintro ((⟨e,_⟩ | ⟨_,e⟩) | e)
    ·exact .inl e
    ·exact absurd e pj
    ·exact .inr e
  ·rw [h3 b pj iW]
   constructor
   ·exact .inr
   ·rintro ((⟨_,e⟩ | ⟨_,e⟩) | e)
    ·exact absurd e iW
    ·exact absurd e pj
    ·exact e
def leaf_nd(ce:p≠x):([(x,p),(p,x)]:List (α×α)).Nodup:=by
 rw[Zb,Qb]
 exact⟨λe=>ce (Uz e).1.symm,Zb.mpr ⟨by simp,Zt⟩⟩
def leaf_no(C:Cert ns r cs a8)(hx:x∉ns):∀s∈([(x,p),(p,x)]:List (α×α)),s.1∉r s.2:=λs hs h=>by
 rcases Qh.mp hs with e | e
 ·rw[e]at h;exact hx (C.inn' h)
 ·rw[Qb.mp e]at h;exact hx (C.inn h)
def cert_leaf0(C:Cert ns r cs a8)(hp:p∈ns)(hx:x∉ns)(oS:r p=[])(h1:r' x=[p])(h2:r' p=[x])(h3:∀ y,y≠x→y≠p→r' y=r y)(hl:∀ y∈ns,af y=a8 y)(bw:af x=a8 p) :
  Cert (ns++[x]) r' ([(x,p),(p,x)]::cs) af:=by
 have ce:p≠x:=λe=>hx (e▸hp)
 have hm:∀w,w∈r' p↔w=x∨w∈r p:=λw=>by rw[h2,oS,Qb];simp
 refine zfk C hp hx h1 h3 hm (by rw[h2];exact Zb.mpr ⟨by simp,Zt⟩) (by rw[h2,oS];rfl) hl bw ?_ λt=>?_
 ·refine zij (N:=[[(x,p),(p,x)]]) (R:=cs) (c0:=[]) (news:=[(x,p),(p,x)]) C (fun c h=>h) (by rw [Wu]) (by simp) (leaf_nd ce) (leaf_no C hx) (leaf_mem C hp hx h1 h3 hm) (fun c hc=>?_) fun s hs _=>?_
  ·rw [Qb.mp hc]
   refine⟨(x,p),[(p,x)],rfl,?_,?_⟩
   ·show (p,nxt (r' p) x)=(p,x)
    rw[h2,nxt_one]
   ·show (x,nxt (r' x) p)=(x,p)
    rw[h1,nxt_one]
  ·have qQ:s.2≠x:=fun e=>hx (e ▸ C.inn hs)
   have bv:s.2≠p:=λe=>by rw[e,oS]at hs;cases hs
   unfold st;rw[h3 s.2 qQ bv]
 ·rw [ze7,zfb (u:=a8 p) (fun s hs=>?_) (by simp)]
  ·have:ct cs af t=ct cs a8 t:=ct_lab fun c hc s hs=>hl _ (C.inn' (C.inc hc hs))
   rw[this]
   simp only[decide_eq_true_eq,oS,if_true]
   lia
  ·rcases Qh.mp hs with e | e
   ·rw[e];exact bw
   ·rw[Qb.mp e];exact hl p hp
def cert_leaf(C:Cert ns r cs a8)(hp:p∈ns)(hx:x∉ns)(hc:c∈r p)(h1:r' x=[p])(h2:r' p=ins (r p) (some c) x)(h3:∀ y,y≠x→y≠p→r' y=r y)(hl:∀ y∈ns,af y=a8 y)(bw:af x=a8 p) :
  ∃bi,Cert (ns++[x]) r' bi af:=by
 have ce:p≠x:=λe=>hx (e▸hp)
 have iI:x∉r p:=λh=>hx (C.inn' h)
 have hm:∀w,w∈r' p↔w=x∨w∈r p:=λw=>by rw[h2];exact mem_ins hc (C.rn p)
 obtain⟨c1,c7,cb⟩:=Yr.mp ((C.cm (c,p)).mpr hc)
 obtain⟨A,B,gM⟩:=Wr cb
 have k:=ze6 (gM▸C.cy c1 c7)
 have old:∀y∈c1,y.1∈r y.2:=λy hy=>C.inc c7 hy
 have nd1:c1.Nodup:=by
  have:=(zc2 c7).nodup_iff.mp C.cf
  rw[Za]at this
  exact this.1
 have ap:∀s:α×α,s.1∈r s.2→s≠(c,p)→st r' s=st r s:=λs hs aJ=>by
  have qQ:s.2≠x:=λe=>hx (e▸C.inn hs)
  by_cases bv:s.2=p
  ·unfold st
   rw[bv,h2]
   rw[bv]at hs
   rw[zgb hc (C.rn p) iI hs (λe=>aJ (Kd e bv))]
  ·unfold st;rw[h3 s.2 qQ bv]
 have inBA:∀y∈B++A,y∈c1∧y≠(c,p):=λy hy=>by
  rw[gM]at nd1 ⊢
  rw[Za,Zb]at nd1
  rcases Qd.mp hy with z | z
  ·exact⟨Qk _ (Qi _ z),λe=>nd1.2.1.1 (e▸z)⟩
  ·exact⟨Qn _ z,λe=>nd1.2.2 y z (c,p) Qe e⟩
 refine⟨[(c,p)::(p,x)::(x,p)::(B++A)]++cs.erase c1,zfk C hp hx h1 h3 hm (by rw[h2];exact nd_ins hc (C.rn p) iI) (by rw[h2];exact zia hc (C.rn p)) hl bw ?_ λt=>?_⟩
 ·refine zij (c0:=c1) (news:=[(x,p),(p,x)]) C (fun c h=>Xj h) (zc2 c7) ?_ (leaf_nd ce) (leaf_no C hx) (leaf_mem C hp hx h1 h3 hm) (fun c' cq=>?_) fun s hs hn=>ap s hs fun e=>hn (e ▸ cb)
  ·rw [gM]
   refine Jx.mpr λa=>?_
   simp only[Kr,List.flatten_nil,Zw,Ks,Xg,List.count_nil]
   lia
  ·rw [Qb.mp cq]
   refine⟨(c,p),_,rfl,?_,?_,zh9 (f:=st r) (s:=(c,p)) ?_ (λy hy=>ap y (old y (inBA y hy).1) (inBA y hy).2) k⟩
   ·show (p,nxt (r' p) c)=(p,x)
    rw[h2,zgd hc (C.rn p)]
   ·show (x,nxt (r' x) p)=(x,p)
    rw[h1,nxt_one]
   ·show (p,nxt (r' p) x)=(p,nxt (r p) c)
    rw[h2,zgc hc (C.rn p) iI]
 ·have aJ:r p≠[]:=Jh hc
  have e2:ct cs a8 t=ct (c1::cs.erase c1) a8 t:=ct_perm (Jr c7) t
  have e3:ct (cs.erase c1) af t=ct (cs.erase c1) a8 t:=ct_lab λc h s hs=>hl _ (C.inn' (C.inc (Xj h) hs))
  have lc:∀s∈c1,a8 s.1=a8 p:=λs hs=>(C.one_lab c7 cb hs).trans (C.la p c hc)
  rw[e2,ze7,Jp,ze7,e3,zfb (u:=a8 p) lc (Jh cb),zfb (u:=a8 p) (λs hs=>?_) (by simp),if_neg aJ]
  ·simp
  ·rcases Qh.mp hs with e | hs
   ·rw[e];exact(hl _ (C.inn' hc)).trans (C.la p c hc)
   ·rcases Qh.mp hs with e | hs
    ·rw[e];exact hl p hp
    ·rcases Qh.mp hs with e | hs
     ·rw[e];exact bw
     ·rw[hl _ (C.inn' (old s (inBA s hs).1))];exact lc s (inBA s hs).1
def cert_tie(C:Cert ns r cs a8)(c7:c1∈cs)(cb:(c,p)∈c1)(df:(a,o)∈c1)(li:o≠p)(cY:o∉r p)(h1:r' p=ins (r p) (some c) o)(h2:r' o=ins (r o) (some a) p)(h3:∀ y,y≠p→y≠o→r' y=r y) :
  ∃bi,Cert ns r' bi a8:=by
 have hc:c∈r p:=C.inc c7 cb
 have ha:a∈r o:=C.inc c7 df
 have hp:p∈ns:=C.inn hc
 have ho:o∈ns:=C.inn ha
 have p9:p∉r o:=λh=>cY (C.sy o p h)
 have ll:∀w,w∈r' p↔w=o∨w∈r p:=λw=>by rw[h1];exact mem_ins hc (C.rn p)
 have bJ:∀w,w∈r' o↔w=p∨w∈r o:=λw=>by rw[h2];exact mem_ins ha (C.rn o)
 have fW:a8 o=a8 p:=by
  rw[←C.la o a ha,←C.la p c hc];exact C.one_lab c7 cb df
 obtain⟨A,B,gM⟩:=Wr cb
 have k:=ze6 (gM▸C.cy c1 c7)
 have old:∀y∈c1,y.1∈r y.2:=λy hy=>C.inc c7 hy
 have nd1:c1.Nodup:=by
  have:=(zc2 c7).nodup_iff.mp C.cf
  rw[Za]at this
  exact this.1
 have qZ:(a,o)∈B++A:=by
  rw[gM]at df
  rcases Qd.mp df with z | z
  ·exact Qk _ z
  ·rcases Qh.mp z with q | q
   ·exact absurd (Uz q).2 li
   ·exact Qn _ q
 obtain⟨A2,B2,og⟩:=Wr qZ
 rw[og]at k
 obtain⟨k1,k2⟩:=lk_app.mp k
 have pm:c1.Perm ((c,p)::(A2++(a,o)::B2)):=by
  rw[gM,←og]
  refine Jx.mpr λa=>?_
  simp only[Ks,Xg]
  lia
 have kT:=pm.nodup_iff.mp nd1
 rw[Zb,Za,Zb]at kT
 obtain⟨n1,n2,⟨n3,n4⟩,n5⟩:=kT
 have inA:∀y∈A2,y∈c1∧y≠(c,p)∧y≠(a,o):=λy hy=>⟨pm.mem_iff.mpr (Qi _ (Qn _ hy)),λe=>n1 (e▸Qn _ hy),λe=>n5 y hy (a,o) Qe e⟩
 have inB:∀y∈B2,y∈c1∧y≠(c,p)∧y≠(a,o):=λy hy=>⟨pm.mem_iff.mpr (Qi _ (Qk _ (Qi _ hy))),λe=>n1 (e▸Qk _ (Qi _ hy)),λe=>n3 (e▸hy)⟩
 have ap:∀s:α×α,s.1∈r s.2→s≠(c,p)→s≠(a,o)→st r' s=st r s:=λs hs gC cz=>by
  by_cases bv:s.2=p
  ·unfold st
   rw[bv,h1]
   rw[bv]at hs
   rw[zgb hc (C.rn p) cY hs (λe=>gC (Kd e bv))]
  ·by_cases oR:s.2=o
   ·unfold st
    rw[oR,h2]
    rw[oR]at hs
    rw[zgb ha (C.rn o) p9 hs (λe=>cz (Kd e oR))]
   ·unfold st;rw[h3 s.2 bv oR]
 have sub:∀z y,y∈r z→y∈r' z:=λz y hy=>by
  by_cases hz:z=p
  ·rw[hz]at hy ⊢;exact(ll y).mpr (.inr hy)
  ·by_cases oN:z=o
   ·rw[oN]at hy ⊢;exact(bJ y).mpr (.inr hy)
   ·rw[h3 z hz oN];exact hy
 have ij:∀s:α×α,s.1∈r' s.2↔s∈[(o,p),(p,o)]∨s.1∈r s.2:=λs=>by
  obtain⟨u,b⟩:=s
  show u∈r' b↔(u,b)∈[(o,p),(p,o)]∨u∈r b
  rw[Qh,Qb,Prod.mk.injEq,Prod.mk.injEq]
  by_cases iW:b=p
  ·subst iW
   rw[ll]
   constructor
   ·rintro (e | e)
    ·exact .inl (.inl ⟨e,rfl⟩)
    ·exact .inr e
   ·rintro ((⟨e,_⟩ | ⟨_,e⟩) | e)
    ·exact .inl e
    ·exact absurd e.symm li
    ·exact .inr e
  ·by_cases tE:b=o
   ·subst tE
    rw[bJ]
    constructor
    ·rintro (e | e)
     ·exact .inl (.inr ⟨e,rfl⟩)
     ·exact .inr e
    ·rintro ((⟨_,e⟩ | ⟨e,_⟩) | e)
     ·exact absurd e iW
     ·exact .inl e
     ·exact .inr e
   ·rw [h3 b iW tE]
    constructor
    ·exact .inr
    ·rintro ((⟨_,e⟩ | ⟨_,e⟩) | e)
     ·exact absurd e iW
     ·exact absurd e tE
     ·exact e
 have nnd:([(o,p),(p,o)]:List (α×α)).Nodup:=by
  rw[Zb,Qb]
  exact⟨λe=>li (Uz e).1,Zb.mpr ⟨by simp,Zt⟩⟩
 have gq:=zij (N:=[(c,p)::(p,o)::B2,(a,o)::(o,p)::A2]) (R:=cs.erase c1) (c0:=c1) (news:=[(o,p),(p,o)]) (r':=r') C (λc h=>Xj h) (zc2 c7) (by
   refine List.Perm.trans ?_ (Zy _ pm.symm)
   refine Jx.mpr λa=>?_
   simp only[Kr,List.flatten_nil,Zw,Ks,Xg,List.count_nil]
   lia) nnd (λs hs h=>by
    rcases Qh.mp hs with e | e
    ·rw[e]at h;exact cY h
    ·rw[Qb.mp e]at h;exact p9 h) ij (λc' cq=>by
   rcases Qh.mp cq with e | e
   ·rw [e]
    refine⟨(c,p),_,rfl,?_,zh9 (f:=st r) (s:=(a,o)) ?_ (λy hy=>ap y (old y (inB y hy).1) (inB y hy).2.1 (inB y hy).2.2) k2⟩
    ·show (p,nxt (r' p) c)=(p,o)
     rw[h1,zgd hc (C.rn p)]
    ·show (o,nxt (r' o) p)=(o,nxt (r o) a)
     rw[h2,zgc ha (C.rn o) p9]
   ·rw [Qb.mp e]
    refine⟨(a,o),_,rfl,?_,zh9 (f:=st r) (s:=(c,p)) ?_ (λy hy=>ap y (old y (inA y hy).1) (inA y hy).2.1 (inA y hy).2.2) k1⟩
    ·show (o,nxt (r' o) a)=(o,p)
     rw[h2,zgd ha (C.rn o)]
    ·show (p,nxt (r' p) o)=(p,nxt (r p) c)
     rw[h1,zgc hc (C.rn p) cY]) λs hs hn=>ap s hs (λe=>hn (e▸cb)) λe=>hn (e▸df)
 refine⟨_,C.nd,λy hy=>?_,λy=>?_,λy=>?_,λy z hz=>?_,gq.1,gq.2.1,gq.2.2,C.ln,λy z hz=>?_,λy hy z hz e=>(C.co y hy z hz e).mono sub,λy hy=>?_⟩
 ·rw[h3 y (λe=>hy (e▸hp)) (λe=>hy (e▸ho))];exact C.ro y hy
 ·by_cases aX:y=p
  ·rw[aX,h1];exact nd_ins hc (C.rn p) cY
  ·by_cases cX:y=o
   ·rw[cX,h2];exact nd_ins ha (C.rn o) p9
   ·rw[h3 y aX cX];exact C.rn y
 ·by_cases aX:y=p
  ·rw[aX,ll,not_or];exact⟨Zi li,C.ir p⟩
  ·by_cases cX:y=o
   ·rw[cX,bJ,not_or];exact⟨li,C.ir o⟩
   ·rw[h3 y aX cX];exact C.ir y
 ·by_cases aX:y=p
  ·rw [aX] at hz ⊢
   rcases(ll z).mp hz with q | q
   ·rw[q];exact(bJ p).mpr (.inl rfl)
   ·exact sub z p (C.sy p z q)
  ·by_cases cX:y=o
   ·rw [cX] at hz ⊢
    rcases(bJ z).mp hz with q | q
    ·rw[q];exact(ll o).mpr (.inl rfl)
    ·exact sub z o (C.sy o z q)
   ·rw [h3 y aX cX] at hz
    exact sub z y (C.sy y z hz)
 ·by_cases aX:y=p
  ·rw [aX] at hz ⊢
   rcases(ll z).mp hz with q | q
   ·rw[q];exact fW
   ·exact C.la p z q
  ·by_cases cX:y=o
   ·rw [cX] at hz ⊢
    rcases(bJ z).mp hz with q | q
    ·rw[q];exact fW.symm
    ·exact C.la o z q
   ·rw [h3 y aX cX] at hz
    exact C.la y z hz
 ·have e2:ct cs a8 (a8 y)=ct (c1::cs.erase c1) a8 (a8 y):=ct_perm (Jr c7) _
  have lc:∀s∈c1,a8 s.1=a8 p:=λs hs=>(C.one_lab c7 cb hs).trans (C.la p c hc)
  have l1:∀s∈(c,p)::(p,o)::B2,a8 s.1=a8 p:=λs hs=>by
   rcases Qh.mp hs with e | hs
   ·rw[e];exact C.la p c hc
   ·rcases Qh.mp hs with e | hs
    ·rw[e]
    ·exact lc s (inB s hs).1
  have l2:∀s∈(a,o)::(o,p)::A2,a8 s.1=a8 p:=λs hs=>by
   rcases Qh.mp hs with e | hs
   ·rw[e];exact(C.la o a ha).trans fW
   ·rcases Qh.mp hs with e | hs
    ·rw[e];exact fW
    ·exact lc s (inA s hs).1
  have lq:ct ([(c,p)::(p,o)::B2,(a,o)::(o,p)::A2]++cs.erase c1) a8 (a8 y)=ct cs a8 (a8 y)+if a8 p=a8 y then 2 else 0:=by
   rw[e2,ze7,Yc,ze7,Yc,ze7,Wu,zfb lc (Jh cb),zfb l1 (by simp),zfb l2 (by simp)]
   simp only[decide_eq_true_eq]
   split<;>lia
  have hw:wt ns r' a8 (a8 y)=wt ns r a8 (a8 y)-if a8 p=a8 y then 2 else 0:=by
   have aT:∀{zs:List α} {w n:α},w∈zs→zs.Nodup→ins zs (some w) n≠[]:=λ{zs w n} hw nd e=>by
    have:=zia (n:=n) hw nd
    rw[e]at this;simp at this
   unfold wt
   have s1:=sum_upd (g:=λx=>if a8 x=a8 y then(2:Int)+(if r x=[] then 2 else 0)-((r x).length:Int) else 0)
    (g':=λx=>if x=p then(if a8 p=a8 y then(2:Int)+(if r' p=[] then 2 else 0)-((r' p).length:Int) else 0) else if a8 x=a8 y then(2:Int)+(if r x=[] then 2 else 0)-((r x).length:Int) else 0) C.nd hp (λx _ hx=>if_neg hx)
   have s2:=sum_upd (g:=λx=>if x=p then(if a8 p=a8 y then(2:Int)+(if r' p=[] then 2 else 0)-((r' p).length:Int) else 0) else if a8 x=a8 y then(2:Int)+(if r x=[] then 2 else 0)-((r x).length:Int) else 0)
    (g':=fun x=>if a8 x=a8 y then (2:Int)+(if r' x=[] then 2 else 0) - ((r' x).length:Int) else 0) C.nd ho (fun x _ hx=>by
     by_cases iI:x=p
     ·rw[if_pos iI,iI]
     ·rw[if_neg iI,h3 x iI hx])
   rw[s2,s1]
   simp only[if_true,li,if_false,fW,h1,h2,aT hc (C.rn p),aT ha (C.rn o),zia hc (C.rn p),zia ha (C.rn o),Jh hc,Jh ha]
   by_cases ht:a8 p=a8 y
   ·simp only[ht,if_true];lia
   ·simp only[ht,if_false];lia
  rw[lq,hw]
  have:=C.eu y hy
  lia
end
section
variable{α:Type}[DecidableEq α]
def Good(rs:Rs α):Prop:=∃cs a8,Cert (rs.map (·.1)) (row rs) cs a8
def cyc_next{β:Type}{f:β→β}{c:List β}(h:Cyc f c){s:β}(hs:s∈c):f s∈c:=by
 obtain⟨A,B,rfl⟩:=Wr hs
 have k:=ze6 h
 cases e:B++A with
 |nil =>
  rw[e]at k
  rw[show f s=s from k];exact hs
 |cons a t =>
  rw[e]at k
  rw[k.1]
  have:a∈B++A:=by rw[e];exact Qe
  rcases Qd.mp this with z | z
  ·exact Qk _ (Qi _ z)
  ·exact Qn _ z
variable{rs:Rs α}
def zfi(nd:(rs.map (·.1)).Nodup){p:α×List α}(h:p∈rs):row rs p.1=p.2:=by
 unfold row
 induction rs with
 |nil=>cases h
 | cons a t ih =>
  rw[Ql,Zb]at nd
  rcases Qh.mp h with z | z
  ·subst z;rw[Wx (by simp)];rfl
  ·rw [Wy]
   ·exact ih nd.2 z
   ·intro q
    exact nd.1 (by rw[of_decide_eq_true q];exact Qm.mpr ⟨p,z,rfl⟩)
def zex(h:x∉rs.map (·.1)):row rs x=[]:=by
 unfold row
 rw[List.find?_eq_none.mpr]
 ·rfl
 ·intro p hp q
  exact h (of_decide_eq_true q▸Qm.mpr ⟨p,hp,rfl⟩)
def zc6(nd:(rs.map (·.1)).Nodup){s:α×α}:IsSt rs s↔s.1∈row rs s.2:=by
 constructor
 ·rintro ⟨p,hp,e,h⟩
  rw[←e,zfi nd hp];exact h
 ·intro h
  by_cases hx:s.2∈rs.map (·.1)
  ·obtain ⟨p,hp,e⟩:=Qm.mp hx
   have e':p.1=s.2:=e
   rw[←e',zfi nd hp]at h
   exact⟨p,hp,e',h⟩
  ·rw[zex hx]at h;cases h
def zcz(x:α)(rr:List α):(zbf rs x rr).map (·.1)=rs.map (·.1):=by
 unfold zbf
 rw[Zr]
 refine Wa λp _=>?_
 show(if p.1=x then(p.1,rr) else p).1=p.1
 split<;>rfl
def zcs{x:α}{rr:List α}(h:x∈rs.map (·.1)):row (zbf rs x rr) x=rr:=by
 unfold row zbf
 induction rs with
 |nil=>cases h
 | cons a t ih =>
  rw[Ql]
  by_cases hx:a.1=x
  ·rw[if_pos hx,Wx (by simpa using hx)];rfl
  ·rw [if_neg hx,Wy (by simpa using hx)]
   refine ih ?_
   rw[Ql]at h
   rcases Qh.mp h with z | z
   ·exact absurd z.symm hx
   ·exact z
def zcl{x y:α}{rr:List α}(h:y≠x):row (zbf rs x rr) y=row rs y:=by
 unfold row zbf
 induction rs with
 |nil=>rfl
 | cons a t ih =>
  rw[Ql]
  by_cases hy:a.1=y
  ·have hx:a.1≠x:=fun e=>h (hy ▸ e)
   rw[if_neg hx,Wx (by simpa using hy),Wx (by simpa using hy)]
  ·have h1:(if a.1=x then (a.1,rr) else a).1=a.1:=by split <;> rfl
   rw[Wy (by rw[h1];simpa using hy),Wy (by simpa using hy)]
   exact ih
def row_snoc{x:α}(h:x∉rs.map (·.1)):row (rs++[(x,[])])=row rs:=by
 funext y
 unfold row
 rw[List.find?_append]
 cases e:rs.find? λp=>decide (p.1=y) with
 |some p=>rfl
 |none =>
  rw[Option.none_or]
  by_cases hy:x=y
  ·rw[Wx (by simpa using hy)];rfl
  ·rw[Wy (by simpa using hy)];rfl
theorem zbp:Gen (Good (α:=α)) where
 clo:=λrs ⟨cs,a8,C⟩ s hs=>by
  obtain⟨c,hc,h⟩:=Yr.mp ((C.cm s).mpr ((zc6 C.nd).mp hs))
  exact(zc6 C.nd).mpr ((C.cm _).mp (Yr.mpr ⟨c,hc,cyc_next (C.cy c hc) h⟩))
 nd:=λrs ⟨cs,a8,C⟩=>C.nd
 sub:=λrs ⟨cs,a8,C⟩ p hp=>by
  have e:=zfi C.nd hp
  exact⟨e▸C.rn p.1,λx hx=>C.inn' (x:=p.1) (by rw[e];exact hx)⟩
 sy:=λrs ⟨cs,a8,C⟩ p hp x hx=>C.sy p.1 x (by rw[zfi C.nd hp];exact hx)
 nil:=by
  refine⟨[],id,⟨Zt,λ_ _=>rfl,λ_=>Zt,λ_ h=>?_,λ_ _ h=>?_,Zt,λs=>⟨λh=>?_,λh=>?_⟩,λc h=>?_,λ_ h=>?_,λ_ _ h=>?_,λ_ h=>?_,λ_ h=>?_⟩⟩
  ·exact absurd h (by simp[row])
  ·exact absurd h (by simp[row])
  ·cases h
  ·exact absurd h (by simp[row])
  ·cases h
  ·cases h
  ·exact absurd h (by simp[row])
  ·cases h
  ·cases h
 new:=λrs x ⟨cs,a8,C⟩ hx=>by
  refine⟨cs,λy=>if y=x then x else a8 y,?_⟩
  rw[row_snoc hx,Qs]
  exact cert_new C hx (λy hy=>if_neg (λe:y=x=>hx (e▸hy))) (if_pos rfl)
 leaf:=λrs x p c ⟨cs,a8,C⟩ hx hp hc iU=>by
  have lh:p.1∈rs.map (·.1):=Qm.mpr ⟨p,hp,rfl⟩
  have ce:p.1≠x:=λe=>hx (e▸lh)
  have e0:(zbf (zbf (rs++[(x,[])]) p.1 (ins p.2 c x)) x [p.1]).map (·.1)=rs.map (·.1)++[x]:=by rw[zcz,zcz,Qs];rfl
  have qy:x∈(zbf (rs++[(x,[])]) p.1 (ins p.2 c x)).map (·.1):=by rw[zcz,Qs];exact Qk _ Qe
  have rC:p.1∈(rs++[(x,([]:List α))]).map (·.1):=by rw[Qs];exact Qn _ lh
  have r1:row (zbf (zbf (rs++[(x,[])]) p.1 (ins p.2 c x)) x [p.1]) x=[p.1]:=zcs qy
  have r2:row (zbf (zbf (rs++[(x,[])]) p.1 (ins p.2 c x)) x [p.1]) p.1=ins p.2 c x:=by rw[zcl ce,zcs rC]
  have r3:∀y,y≠x→y≠p.1→row (zbf (zbf (rs++[(x,[])]) p.1 (ins p.2 c x)) x [p.1]) y=row rs y:=λy h1 h2=>by rw[zcl h1,zcl h2,row_snoc hx]
  have er:=zfi C.nd hp
  have hl:∀y∈rs.map (·.1),(λy=>if y=x then a8 p.1 else a8 y) y=a8 y:=λy hy=>if_neg (λe:y=x=>hx (e▸hy))
  have bw:(λy=>if y=x then a8 p.1 else a8 y) x=a8 p.1:=if_pos rfl
  unfold Good
  rw[e0]
  cases c with
  |none =>
   have h0:=iU rfl
   refine⟨_,_,cert_leaf0 C lh hx (er.trans h0) r1 ?_ r3 hl bw⟩
   rw[r2,h0];rfl
  |some y =>
   have hy:=hc y rfl
   obtain⟨bi,C'⟩:=cert_leaf C lh hx (c:=y) (by rw[er];exact hy) r1 (by rw[r2,er]) r3 hl bw
   exact⟨bi,_,C'⟩
 tie:=λrs c p n ⟨cs,a8,C⟩ hp hc h1 h2=>by
  have er:=zfi C.nd hp
  obtain⟨c1,c7,cb⟩:=Yr.mp ((C.cm (c,p.1)).mpr (by rw[er];exact hc))
  have df:∀n,itr rs (c,p.1) n∈c1:=λn=>by
   induction n with
   |zero=>exact cb
   |succ n ih=>exact cyc_next (C.cy c1 c7) ih
  have qW:=df n
  generalize itr rs (c,p.1) n=q at h1 h2 qW
  have lh:p.1∈rs.map (·.1):=Qm.mpr ⟨p,hp,rfl⟩
  have mi:q.2∈rs.map (·.1):=C.inn (C.inc c7 qW)
  unfold Good
  rw[zcz,zcz]
  obtain⟨bi,C'⟩:=cert_tie (r':=row (zbf (zbf rs p.1 (ins p.2 (some c) q.2)) q.2 (ins (row rs q.2) (some q.1) p.1))) C c7 cb (a:=q.1) (o:=q.2) qW h1 (by rw[er];exact h2)
   (by rw[zcl (Zi h1),zcs lh,er]) (by rw[zcs (by rw[zcz];exact mi)]) (λy h3 h4=>by rw[zcl h4,zcl h3])
  exact⟨bi,a8,C'⟩
end
section
variable{α:Type}[DecidableEq α]{ns qf:List α}{r r':α→List α}{cs:List (List (α×α))}{a8:α→α}
def rot_perm(zs:List α)(k:Nat):(zs.drop k++zs.take k).Perm zs:=by
 refine Wc.trans ?_
 rw[Yx]
def zer(C:Cert ns r cs a8)(hn:qf.Perm ns)(hr:∀x,∃k,r' x=(r x).drop k++(r x).take k):Cert qf r' cs a8:=by
 have hp:∀x,(r' x).Perm (r x):=λx=>by obtain⟨k,e⟩:=hr x;rw[e];exact rot_perm _ k
 have hm:∀{x y},y∈r' x↔y∈r x:=λ{x y}=>(hp x).mem_iff
 have ap:∀s:α×α,s.1∈r s.2→st r' s=st r s:=λs hs=>by
  obtain⟨k,e⟩:=hr s.2
  unfold st;rw[e,nxt_rot (C.rn _) k hs]
 have hw:∀t,wt qf r' a8 t=wt ns r a8 t:=λt=>by
  unfold wt
  rw[zh4 (hn.map _)]
  refine zdm λx _=>?_
  have h1:=(hp x).length_eq
  have h2:(r' x=[])=(r x=[]):=propext ⟨λe=>by rw[e]at h1;exact List.eq_nil_of_length_eq_zero h1.symm,λe=>by rw[e]at h1;exact List.eq_nil_of_length_eq_zero h1⟩
  simp only[h1,h2]
 refine⟨hn.nodup_iff.mpr C.nd,λx hx=>?_,λx=>(hp x).nodup_iff.mpr (C.rn x),λx h=>C.ir x (hm.mp h),λx y h=>hm.mpr (C.sy x y (hm.mp h)),C.cf,λs=>(C.cm s).trans hm.symm,λc hc=>?_,λx hx=>hn.mem_iff.mpr (C.ln x (hn.mem_iff.mp hx)),λx y h=>C.la x y (hm.mp h),λx hx y hy e=>?_,λx hx=>?_⟩
 ·have:=hp x
  rw[C.ro x (λz=>hx (hn.mem_iff.mpr z))]at this
  exact List.Perm.eq_nil this
 ·exact cyc_congr (λy hy=>ap y (C.inc hc hy)) (C.cy c hc)
 ·exact(C.co x (hn.mem_iff.mp hx) y (hn.mem_iff.mp hy) e).mono λ_ _ h=>hm.mpr h
 ·rw[hw];exact C.eu x (hn.mem_iff.mp hx)
end
end Wb
end
section
namespace K21
open PySem L2 Wb
abbrev sSteps:Stmt:=top 16
structure BAt(H:Hp)(b:Nd)(bs:List ((Str×Str)×Addr))(r:Nt):Prop where
 dc:H b=some (.dT (bs.map λe=>(kP e.1,V.ref e.2)))
 tp:∀e∈bs,H e.2=some (.tup [.str (st r e.1).1,.str (st r e.1).2])
 nd:(bs.map (·.1)).Nodup
def BAt.keep{H H':Hp}{b:Nd}{bs:List ((Str×Str)×Addr)}{r:Nt}{xs:Nl}(h:BAt H b bs r)(k:Keep xs H H')(hb:b∉xs)(ht:∀e∈bs,e.2∉xs):BAt H' b bs r :=
 ⟨k _ _ h.dc hb,λe he=>k _ _ (h.tp e he) (ht e he),h.nd⟩
def kP_inj{s u:Str×Str}(h:kP s=kP u):s=u:=by
 unfold kP at h
 injection h with h1 h2
 injection h2 with h2 _
 exact Kd (Uv h1) (Uv h2)
def valT_out{bs:List ((Str×Str)×Addr)}{s:Str×Str}(h:s∉bs.map (·.1)):valV (bs.map λe=>(kP e.1,V.ref e.2)) (kP s)=none:=by
 induction bs with
 |nil=>rfl
 |cons a t ih =>
  rw[Ql,Qh,not_or]at h
  rw[Ql,zbs]
  ·exact ih h.2
  ·intro q;exact h.1 (kP_inj q).symm
def valT_in{bs:List ((Str×Str)×Addr)}(nd:(bs.map (·.1)).Nodup){e:(Str×Str)×Addr}(h:e∈bs):valV (bs.map fun e=>(kP e.1,V.ref e.2)) (kP e.1)=some (.ref e.2):=by
 induction bs with
 |nil=>cases h
 | cons a t ih =>
  rw[Ql,Zb]at nd
  rw[Ql]
  rcases Qh.mp h with z | z
  ·subst z;exact zcr rfl
  ·rw [zbs]
   ·exact ih nd.2 z
   ·intro q
    exact nd.1 (by rw[kP_inj q];exact Qm.mpr ⟨e,z,rfl⟩)
inductive IspSteps(vs:List V)(H:Hp)(Q:VK):Prop
 |mk (d:Nd) (es:List Ent) (h0:vs=[.ref d]) (h1:TAt H d es) (h2:es.length≤60) (h3:(∀e∈es,e.2.1.Nodup∧e.2.1.length≤100)) (h4:∀(b:Nd) (bs:List ((Str×Str)×Addr)) (H':Hp),BAt H' b bs (row (rsOf es))→(∀s,s∈bs.map (·.1)↔s.1∈row (rsOf es) s.2)→bs.length≤10000→H b=none→Keep [] H H'→Q (.ref b) H'):IspSteps vs H Q
def spSteps:Sp:=λvs H Q _=>IspSteps vs H Q
def pidx(n j:Nat):Nat:=if j=0 then n-1 else j-1
def atI_prev{zs:List V}{j:Nat}(hj:j<zs.length):atI zs ((j:Int)-1)=zs[pidx zs.length j]?:=by
 unfold pidx
 by_cases h:j=0
 ·subst h
  rw[if_pos rfl]
  unfold atI ixN
  have e1:¬(0:Int)≤((0:Nat):Int)-1:=by lia
  have e2:-(zs.length:Int)≤((0:Nat):Int)-1:=by lia
  rw[if_neg e1,if_pos e2]
  show zs[(((0:Nat):Int)-1+(zs.length:Int)).toNat]?=_
  congr 1;lia
 ·rw [if_neg h]
  have e:(j:Int)-1=((j-1:Nat):Int):=by lia
  rw[e,zav (Qc (by lia)),Qc (by lia)]
def idx_at{zs:Nf}(nd:zs.Nodup){i:Nat}(hi:i<zs.length):zs.idxOf zs[i]=i:=by
 have h1:zs.idxOf zs[i]<zs.length:=idx_lt (Qp hi)
 have h2:zs[zs.idxOf zs[i]]=zs[i]:=Kf h1
 exact(We nd).mp h2
def nxt_idx{zs:Nf}(nd:zs.Nodup){j:Nat}(hj:j<zs.length)(hp:pidx zs.length j<zs.length):nxt zs zs[pidx zs.length j]=zs[j]:=by
 unfold nxt
 rw[idx_at nd hp]
 have e:(pidx zs.length j+1)%zs.length=j:=by
  unfold pidx
  by_cases h:j=0
  ·rw [if_pos h,h]
   have:zs.length-1+1=zs.length:=by lia
   rw[this,Nat.mod_self]
  ·rw [if_neg h]
   have:j-1+1=j:=by lia
   rw[this,Nat.mod_eq_of_lt hj]
 rw[e,Qy,Qc hj];rfl
section
variable{P:Nj}{w:Nk}{K:Nb}{mg:Ng}{base:Nm}
def zev:zan ["rounds", "behind", "place", "around", "at", "to"] ["rounds"] (zah sSteps):=fsk
def ok_steps{f:Nd}{fd:Nq}(F:Fun K "steps_behind" "steps_behind" sSteps f fd)(nI:mg "enumerate" = none):FnOk P w K mg base CX0 1 f fd ["rounds"] spSteps:=by
 refine F.okL zev (λcdv A outer s H vs Q E hr h=>?_)
 obtain⟨d,es,rfl,T,cN,hok,k⟩:=h
 have hu:=zb4 hr
 have aE  := sizeLine_eq
 refine⟨_,zae (zar 1 zev.nd pe_dnewT)
  (zae (ps_thaw (zbg Zd rfl (pi_dict (pv 0)) (zbe 2 zev.nd)
   (zae (zar 3 zev.nd (zd2 hu (pv 0) (pv 2)))
   (zag (zbg Zd rfl (pi_enum rfl nI (zaa (pv 3) zaf)) (zg6 rfl (zba (zbe 4 zev.nd) (zba (zbe 5 zev.nd) zc4)))
    (zag (zey hu (pv 1) (zce (zaa (za0 zdj (pv 3) (zas op_sub (pv 4) zai) (λ_ _=>rfl)) (zaa (pv 2) zaf))) (zce (zaa (pv 2) (zaa (pv 5) zaf))) rfl)))))))
  (zag (za3 (pv 1)))),?_⟩
 refine λb hb=>?_
 have nfz:∀o' u',H d≠some (.frz o' u'):=λo' u' z=>by rw[T.dc]at z;cases z
 have nbd:d≠b:=zab T.dc hb
 have k1:Keep [] H (upd H b (.dT [])):=Keep.new hb
 have gK:BAt (upd H b (.dT [])) b [] (row (rsOf es)):=⟨zac,λe he=>(by cases he),Zt⟩
 have T1:TAt (upd H b (.dT [])) d es:=T.keep k1 (by simp) (λ_ _=>by simp)
 generalize upd H b (.dT [])=H1 at k1 gK T1
 have hbm:∀{H':Hp} {bs:List ((Str×Str)×Addr)},BAt H' b bs (row (rsOf es))→b≠d:=λ_=>Zi nbd
 refine⟨_,rfl,d,_,rfl,T1.dc,λo=>for_dict (λi σ H'=>Aj4 (Ex4 λx2 x3 x4 x5=>σ=[some (.ref d),some (.ref b),x2,x3,x4,x5]) (H' d=some (.frz o (.dK (es.map λe=>((Sum.inr e.1:Key),V.ref e.2.2))))) (Keep [d,b] H1 H') (Ex1 λbs=>Aj3 (BAt H' b bs (row (rsOf es))) (bs.length≤100*i) (∀s,s∈bs.map (·.1)↔s.2∈(es.take i).map (·.1)∧s.1∈row (rsOf es) s.2)))
  ⟨⟨_,_,_,_,rfl⟩,zac,Keep.wr (by simp),[],gK.keep (xs:=[d]) (Keep.wr (by simp)) (by simpa using Zi nbd) (λe he=>by cases he),Zp _,λs=>⟨λh=>(by cases h),λh=>(by cases h.1)⟩⟩
  (λi σ H' _ hh=>hh.2) ?_ ?_⟩
 ·rintro i pr σ H2 i6 ⟨⟨x2,x3,x4,x5,rfl⟩,hz,k2,bs,bQ,gJ,aI⟩
  have hi:i<es.length:=by
   have:=(Ze.mp i6).1
   rwa[Qa]at this
  have g1:pr=((Sum.inr es[i].1:Key),V.ref es[i].2.2):=by
   rw[Qt,Qc hi]at i6
   exact(Qv i6).symm
  subst g1
  have gF:es[i]∈es:=Qp hi
  obtain⟨aA,hln⟩:=hok _ gF
  have r6:row (rsOf es) es[i].1=es[i].2.1:=zcn T.nd gF
  have fC:=T1.ro _ gF
  have nrd:es[i].2.2≠d:=zbc fC T1.dc (by intro z;cases z)
  have nrb:es[i].2.2≠b:=zbc fC gK.dc (by intro z;cases z)
  have jE:=k2 _ _ fC (by simp[nrd,nrb])
  refine⟨_,rfl,_,rfl,d,.ref es[i].2.2,rfl,.inl ⟨_,Sum.inr es[i].1,.inr ⟨o,hz⟩,rfl,(zds T.nd gF).symm⟩,?_⟩
  have cI:es[i].1∉(es.take i).map (·.1):=by
   have h1:(es.map (·.1)).take (i+1)=(es.map (·.1)).take i++[es[i].1]:=by
    rw[Qo (by rw[Qa];exact hi),Zu]
   have h2:((es.map (·.1)).take (i+1)).Nodup:=Ue (Kp _ _) T.nd
   rw[h1,Za,←Uq]at h2
   exact λz=>h2.2.2 _ z _ (Qb.mpr rfl) rfl
  refine⟨_,rfl,es[i].2.2,rfl,⟨_,SqT.of jE⟩,for_enum (xs:=es[i].2.1.map V.str) (λj σ H'=>Aj4 (Ex2 λx4 x5=>σ=[some (.ref d),some (.ref b),some (.str es[i].1),some (.ref es[i].2.2),x4,x5]) (H' d=some (.frz o (.dK (es.map λe=>((Sum.inr e.1:Key),V.ref e.2.2))))) (Keep [d,b] H1 H') (Ex1 λbs=>Aj3 (BAt H' b bs (row (rsOf es))) (bs.length≤100*i+j) (∀s,s∈bs.map (·.1)↔(s.2∈(es.take i).map (·.1)∧s.1∈row (rsOf es) s.2)∨∃(m:Nat) (hm:m<j) (hp:pidx es[i].2.1.length m<es[i].2.1.length),s=(es[i].2.1[pidx es[i].2.1.length m],es[i].1))))
   ⟨⟨_,_,rfl⟩,hz,k2,bs,bQ,gJ,fun s=>(aI s).trans ⟨.inl,fun h=>by
    rcases h with z | ⟨m,hm,_⟩
    ·exact z
    ·exact absurd hm (Nat.not_lt_zero m)⟩⟩ (λj σ H' _ hh=>hh.3 _ _ fC (by simp[nrd,nrb])) ?_ ?_⟩
  ·rintro j y t σ H3 hy ⟨⟨y4,y5,rfl⟩,l0,k3,lv,ku,nV,fZ⟩ ht
   have hj:j<es[i].2.1.length:=by
    have:=(Ze.mp hy).1
    rwa[Qa]at this
   have lN:y=.str es[i].2.1[j]:=by
    rw[Qt,Qc hj]at hy
    exact(Qv hy).symm
   subst lN
   have rB:pidx es[i].2.1.length j<es[i].2.1.length:=by unfold pidx;split<;>lia
   have rf:=k3 _ _ fC (by simp[nrd,nrb])
   have k4:Keep [] H3 (upd H3 t (.tup [.int j,.str es[i].2.1[j]])):=Keep.new ht
   refine⟨t,_,rfl,SqT.of zac,rfl,_,_,rfl,_,_,rfl,rfl,?_⟩
   generalize upd H3 t (.tup [.int j,.str es[i].2.1[j]])=H4 at k4
   refine⟨_,rfl,_,rfl,(by show 2≤sizeLine;decide),λv hv=>?_⟩
   have k5:Keep [] H4 (upd H4 v (.tup [.str es[i].1,.str es[i].2.1[j]])):=Keep.new hv
   have hv5:(upd H4 v (.tup [.str es[i].1,.str es[i].2.1[j]])) v=some (.tup [.str es[i].1,.str es[i].2.1[j]]):=zac
   generalize upd H4 v (.tup [.str es[i].1,.str es[i].2.1[j]])=H5 at k5 hv5
   have eU:Keep [] H3 H5:=k4.trans k5
   have r9:=eU _ _ rf (by simp)
   have d7:atI (es[i].2.1.map V.str) ((j:Int)-1)=some (.str es[i].2.1[pidx es[i].2.1.length j]):=by
    rw[atI_prev (by rw[Qa];exact hj),Qa,Qt,Qc rB];rfl
   refine⟨_,rfl,_,rfl,_,rfl,_,_,rfl,rfl,es[i].2.2,_,_,_,rfl,rfl,SqT.of r9,d7,_,rfl,(by show 2≤sizeLine;decide),λq hq=>?_⟩
   have k6:Keep [] H5 (upd H5 q (.tup [.str es[i].2.1[pidx es[i].2.1.length j],.str es[i].1])):=Keep.new hq
   have eQ:(upd H5 q (.tup [.str es[i].2.1[pidx es[i].2.1.length j],.str es[i].1])) q=some (.tup ((kP (es[i].2.1[pidx es[i].2.1.length j],es[i].1)).map kV)):=zac
   generalize upd H5 q (.tup [.str es[i].2.1[pidx es[i].2.1.length j],.str es[i].1])=H6 at k6 eQ
   have qt:Keep [] H3 H6:=eU.trans k6
   have pq:BAt H6 b lv (row (rsOf es)):=ku.keep qt (by simp) (λ_ _=>by simp)
   have hv6:=k6 _ _ hv5 (by simp)
   have hz6:=qt _ _ l0 (by simp)
   refine⟨b,_,rfl,DPut.t pq.dc eQ (by rw[Qa];lia),?_⟩
   have gj:(es[i].2.1[pidx es[i].2.1.length j],es[i].1)∉lv.map (·.1):=λz=>by
    rcases(fZ _).mp z with⟨z1,_⟩ | ⟨m,hm,hpm,e⟩
    ·exact cI z1
    ·have e1:=(Uz e).1
     have e2:=(We aA).mp e1
     unfold pidx at e2
     by_cases sm:j=0
     ·lia
     ·rw [if_neg sm] at e2
      by_cases gE:m=0
      ·rw[if_pos gE]at e2;lia
      ·rw[if_neg gE]at e2;lia
   have jH:putK (lv.map λe=>(kP e.1,V.ref e.2)) (kP (es[i].2.1[pidx es[i].2.1.length j],es[i].1)) (.ref v)=(lv++[((es[i].2.1[pidx es[i].2.1.length j],es[i].1),v)]).map λe=>(kP e.1,V.ref e.2):=by
    rw[zeh _ (valT_out gj),Qs];rfl
   have ap:st (row (rsOf es)) (es[i].2.1[pidx es[i].2.1.length j],es[i].1)=(es[i].1,es[i].2.1[j]):=by
    show(es[i].1,nxt (row (rsOf es) es[i].1) es[i].2.1[pidx es[i].2.1.length j])=_
    rw[r6,nxt_idx aA hj rB]
   refine⟨⟨_,_,rfl⟩,by rw[zad nbd];exact hz6,(k3.trans (qt.sub (by simp))).trans (Keep.wr (by simp)),_,⟨by rw[zac,jH],λe he=>?_,?_⟩,?_,λs=>?_⟩
   ·rcases Qd.mp he with z | z
    ·have:=pq.tp e z
     rw[zad (zbc this pq.dc (by intro z;cases z))];exact this
    ·rw[Qb.mp z,ap,zad (zbc hv6 pq.dc (by intro z;cases z))];exact hv6
   ·rw [Qs,Za]
    refine⟨ku.nd,Zb.mpr ⟨by simp,Zt⟩,λx hx y hy e=>?_⟩
    have c9:y=(es[i].2.1[pidx es[i].2.1.length j],es[i].1):=by simpa using hy
    exact gj (by rw[←c9,←e];exact hx)
   ·rw[Qj];show _+1≤_;exact zar4 ‹_›
   ·rw [Qs,Qd,fZ]
    constructor
    ·rintro ((z | ⟨m,hm,hp,e⟩) | z)
     ·exact .inl z
     ·exact .inr ⟨m,by exact zar16 ‹_›,hp,e⟩
     ·exact .inr ⟨j,by exact Qg _,rB,by simpa using z⟩
    ·rintro (z | ⟨m,hm,hp,e⟩)
     ·exact .inl (.inl z)
     ·by_cases hmj:m < j
      ·exact .inl (.inr ⟨m,hmj,hp,e⟩)
      ·have:m=j:=by lia
       subst this
       exact .inr (by rw[e];exact Qe)
  ·rintro σ H3 ⟨⟨y4,y5,rfl⟩,l0,k3,lv,ku,nV,fZ⟩
   rw[Qa]at fZ nV
   refine⟨⟨_,_,_,_,rfl⟩,l0,k3,lv,ku,by lia,λs=>(fZ s).trans ?_⟩
   have dz:(es.take (i+1)).map (·.1)=(es.take i).map (·.1)++[es[i].1]:=by rw[Qo hi,Qs];rfl
   rw[dz,Qd,Qb]
   constructor
   ·rintro (⟨z1,z2⟩ | ⟨m,hm,hp,e⟩)
    ·exact⟨.inl z1,z2⟩
    ·rw[e];exact⟨.inr rfl,by rw[r6];exact Qp hp⟩
   ·rintro ⟨z1 | z1,z2⟩
    ·exact .inl ⟨z1,z2⟩
    ·refine .inr ?_
     rw[z1,r6]at z2
     obtain⟨q,hq,e⟩:=Zq z2
     by_cases fV:q+1<es[i].2.1.length
     ·have rH:pidx es[i].2.1.length (q+1) < es[i].2.1.length:=by unfold pidx;rw [if_neg (by lia)];assumption
      refine⟨q+1,fV,rH,Kd ?_ z1⟩
      show s.1=es[i].2.1[pidx es[i].2.1.length (q+1)]
      rw[←e];congr 1
     ·have rH:pidx es[i].2.1.length 0 < es[i].2.1.length:=by unfold pidx;rw [if_pos rfl];lia
      refine⟨0,by lia,rH,Kd ?_ z1⟩
      show s.1=es[i].2.1[pidx es[i].2.1.length 0]
      rw[←e];congr 1
      unfold pidx;rw[if_pos rfl];lia
 ·rintro σ H2 ⟨⟨x2,x3,x4,x5,rfl⟩,hz,k2,bs,bQ,gJ,aI⟩
  rw[Qa]at aI gJ
  rw[Qz (Qg _)]at aI
  refine⟨d,o,_,hz,nfz,?_⟩
  have kf:Keep [] H (upd H2 d (.dK (es.map λe=>((Sum.inr e.1:Key),V.ref e.2.2)))):=λc u ec _=>by
   have nc:c≠b:=zab ec hb
   by_cases aO:c=d
   ·subst aO
    rw[zac,←T.dc];exact ec
   ·rw [zad aO]
    exact k2 c u (k1 c u ec (by simp)) (by simp[aO,nc])
  refine⟨_,rfl,k b bs _ (bQ.keep (xs:=[d]) (Keep.wr (by simp)) (by simpa using Zi nbd) (λe he=>by simpa using zbc (bQ.tp e he) hz (by intro z;cases z))) (λs=>?_) (by lia) hb kf⟩
  rw[aI]
  constructor
  ·exact λh=>h.2
  ·intro h
   refine⟨?_,h⟩
   obtain⟨p,hp,e,_⟩:=(zc6 (rs:=rsOf es) (by unfold rsOf;rw[List.map_map];exact T.nd)).mpr h
   obtain⟨en,bh,rfl⟩:=Qm.mp hp
   exact Qm.mpr ⟨en,bh,e⟩
end
abbrev zfh:Stmt:=top 17
def zde(H:Hp)(a:Nd)(h:Str):Prop:=∃t:List Str,H a=some (.lst ((h::t).map V.str))
def ze3(es:List Ent):List Str:=(es.filter λe=>e.2.1.isEmpty).map (·.1)
inductive IspFaces(vs:List V)(H:Hp)(Q:VK):Prop
 |mk (d:Nd) (es:List Ent) (cs:List (List (Str×Str))) (a8:Nw) (h0:vs=[.ref d]) (h1:TAt H d es) (h2:es.length≤60) (h3:(∀e∈es,e.2.1.length≤100)) (h4:Cert (es.map (·.1)) (row (rsOf es)) cs a8) (h5:∀(l:Nd) (as:Nl) (hd hc:Nf) (bi:List (List (Str×Str))) (H':Hp),H' l=some (.lst (as.map V.ref))→as.length≤20000→Paired (zde H') as hd→hd.Perm (ze3 es++hc)→bi.Perm cs→Paired (λh c=>∃s∈c,s.1=h) hc bi→Keep [] H H'→Q (.ref l) H'):IspFaces vs H Q
def spFaces:Sp:=λvs H Q _=>IspFaces vs H Q
def pt_truthK{X:Cx}{K:Nb}{a:Expr}{ta:TE}(hK:X.K=K)(ha:PE X a ta)(he:∀whole,isTrue a X.env whole=(do let v ←whole;standAt a.pos;holding [v] (truthy v))) :
  PT X a (λ σ H Q=>ta σ H λx H'=>RTr K x H' Q):=hK▸zei ha he
abbrev ze8:Scope:=scOf (eOf (sAt zfh 1))
def csFaces_k:ze8.kind=.function:=by rfl
def csFaces_c:∀y∈ze8.names,y.2≠.cell:=by decide +kernel
def csFaces_n:∀y∈ze8.names,y.2=.local→ze8.names.lookup y.1=some .local:=by decide +kernel
def csFaces_f:∀y∈ze8.names,y.2=.free→(zah zfh).names.lookup y.1=some .cell∨(zah zfh).names.lookup y.1=some .free:=by decide +kernel
def csFaces_l:ze8.names.lookup ("rounds" : Str)=some NameKind.free:=by decide +kernel
def ndF:(["place", "rounds"]:List Str).Nodup:=by decide +kernel
def valG_out{gs:Nv}{s:Str×Str}(h:s∉gs):valV (gs.map λs=>(kP s,V.bl true)) (kP s)=none:=by
 induction gs with
 |nil=>rfl
 |cons a t ih =>
  rw[Qh,not_or]at h
  rw[Ql,zbs]
  ·exact ih h.2
  ·intro q;exact h.1 (kP_inj q).symm
def valG_in{gs:Nv}{s:Str×Str}(h:s∈gs):valV (gs.map λs=>(kP s,V.bl true)) (kP s)=some (.bl true):=by
 induction gs with
 |nil=>cases h
 | cons a t ih =>
  rw[Ql]
  by_cases e:a=s
  ·exact zcr (by rw[e])
  ·rw [zbs (fun q=>e (kP_inj q))]
   rcases Qh.mp h with z | z
   ·exact absurd z.symm e
   ·exact ih z
def lk_get{β:Type}{f:β→β}{e:β}:∀{t:List β} {s:β},Lk f s t e→∀k,k<(s::t).length→f ((s::t).getD k e)=(s::t).getD (k+1) e:=by
 intro t
 induction t with
 |nil =>
  intro s h k hk
  have:k=0:=by simp at hk;exact hk
  subst this;exact h
 | cons a t ih =>
  intro s h k hk
  cases k with
  |zero=>exact h.1
  |succ n =>
   have:=ih h.2 n (by simpa using hk)
   simpa using this
def zc1{H H':Hp}{D g:Nd}{fa:Nl}{hd:Nf}{xs:Nl}(k:Keep xs H H')(h:Paired (zde H) fa hd)(hx:∀a (h:Str) (t:Nf),H a=some (.lst ((h::t).map V.str))→a∉xs):Paired (zde H') fa hd :=
 Paired.imp' (λa h ⟨t,e⟩=>⟨t,k _ _ e (hx a h t e)⟩) h
def za1{α β:Type}{R:α→β→Prop}:∀{as c8:List α} {bs gQ:List β},Paired R as bs→Paired R c8 gQ→Paired R (as++c8) (bs++gQ):=by
 intro as c8 bs gQ r r'
 induction r with
 |nil=>exact r'
 |cons h t ih=>exact .cons h ih
section
variable{P:Nj}{w:Nk}{K:Nb}{mg:Ng}{base:Nm}
def zdf:zan ["rounds", "behind", "found", "gone", "first", "face", "step"] ["rounds"] (zah zfh):=fsk
def ok_faces{f fs:Nd}{fd fds:Nq}(F:Fun K "faces_of" "faces_of" zfh f fd)(FS:Fun K "steps_behind" "steps_behind" sSteps fs fds)(bS:Binds K fds ["rounds"] [])(mS:mg "steps_behind" = some (.ref fs))(GS:FnOk P w K mg base CX0 1 fs fds ["rounds"] spSteps)(av:mg "sorted" = none):FnOk P w K mg base CX0 2 f fd ["rounds"] spFaces:=by
 refine F.okL zdf (λcdv A outer s H vs Q E hr h=>?_)
 obtain⟨d,es,cs,a8,rfl,T,cN,bH,C,k⟩:=h
 have hu:=zb4 hr
 have hu8:(A.deeper (PyProof.Rows.envOfC "faces_of" (zah zfh) s.heap.objs.size f cdv)).units+8<cLine:=Ke (Nat.add_le_add_left (by decide:8≤64) _) hr.units
 have aE  := sizeLine_eq
 refine⟨_,zae (zar 1 zdf.nd (zak GS hr rfl mS FS.kp bS .nil zau (zaa (pv 0) zaf)))
  (zae (ps_thaw (ps_lc (i:=2) (M:=["place", "rounds"]) (ix:=[none,some 0]) zdf.nd rfl rfl ⟨csFaces_k,csFaces_c,csFaces_n,csFaces_f,rfl,by decide +kernel,λj i x h1 h2=>by
     match j,h1,h2 with
     |0,_,h2=>cases h2
     |1,h1,h2=>cases h1;cases h2;exact⟨rfl,csFaces_l⟩
     |n+2,h1,_=>cases h1⟩ rfl (pi_dict (pv 0)) (λC a6 ex s H=>zbe 0 ndF)
    (λC a6 ex s H=>zh1 (zej (pt_truthK (K:=K) rfl (zd2 (by exact hu) (pv 1) (pv 0)) (by intro _;rfl)))) (λC a6 ex s H=>za7 (zaa (pv 0) zaf)) rfl))
  (zae (zar 3 zdf.nd pe_dnewT)
  (zae (zbg Zd rfl (za6 (zaj (zgx rfl) (by rfl) av Yp (zaa (pv 1) zaf))) (zbe 4 zdf.nd)
   (zae (zar 5 zdf.nd (za7 zaf))
   (zae (zar 6 zdf.nd (pv 4))
   (zae (zcj Zd (zb8 (zaz hu (pv 6) (pv 3)))
    (zae (zey hu (pv 3) (pv 6) pe_bl rfl)
    (zae (zay (zb7 Qx Zm Zl za4 (pv 5) (zaa (za0 zdj (pv 6) zai (λ_ _=>rfl)) zaf)))
    (zag (zar 6 zdf.nd (zd2 hu (pv 1) (pv 6)))))))
   (zag (zb1 (zei (pv 5) (by intro _;rfl)) (zag (zay (zb7 Qx Zm Zl za4 (pv 2) (zaa (pv 5) zaf)))) zax))))))
  (zag (za3 (zaj (ze9 hu8) (by rfl) av Yp (zaa (pv 2) zaf))))))),?_⟩
 have ai:∀e∈es,row (rsOf es) e.1=e.2.1:=λe he=>zcn T.nd he
 refine⟨_,rfl,d,es,rfl,T,cN,λe he=>⟨ai e he▸C.rn e.1,bH e he⟩,λb bs H1 gK aI gJ hbfr k1=>?_⟩
 have T1:TAt H1 d es:=T.keep k1 (by simp) (λ_ _=>by simp)
 have nfz:∀o' u',H d≠some (.frz o' u'):=λo' u' z=>by rw[T.dc]at z;cases z
 refine⟨_,rfl,d,_,rfl,T1.dc,λo=>⟨λi m ys τ H2=>Aj6 (m=es.length-i) (i≤es.length) (Ex1 λx0=>τ=[x0,some (.ref d)]) (H2 d=some (.frz o (.dK (es.map λe=>((Sum.inr e.1:Key),V.ref e.2.2))))) (Keep [d] H1 H2) (Ex1 λ(as:Nl)=>Aj3 (ys=as.map V.ref) (as.length≤i) (Paired (zde H2) as (ze3 (es.take i)))),
  ⟨es.length,rfl,Zp _,⟨none,rfl⟩,zac,Keep.wr Qe,[],rfl,Zp _,.nil⟩,?_⟩⟩
 rintro i m ys τ H2 ⟨rfl,hi,⟨x0,rfl⟩,hz,k2,fa,rfl,dE,aL⟩
 by_cases ad:i<es.length
 ·refine .inr ⟨⟨hz,by rw [Qa];exact ad⟩,by rw [Qa];lia,?_⟩
  rintro y H' ⟨rfl,pr,e1,rfl⟩
  have g1:pr=((Sum.inr es[i].1:Key),V.ref es[i].2.2):=by
   rw[Qt,Qc ad]at e1
   exact(Qv e1).symm
  subst g1
  have gF:es[i]∈es:=Qp ad
  have hri:=T1.ro _ gF
  have nri:es[i].2.2≠d:=zbc hri T1.dc (by intro z;cases z)
  have jE:=k2 _ _ hri (by simpa using nri)
  have dz:es.take (i+1)=es.take i++[es[i]]:=Qo ad
  refine⟨_,rfl,_,rfl,d,.ref es[i].2.2,rfl,.inl ⟨_,Sum.inr es[i].1,.inr ⟨o,hz⟩,rfl,(zds T.nd gF).symm⟩,_,.inr (.inl ⟨_,SqT.of jE,rfl⟩),?_⟩
  have hem:(es[i].2.1.map V.str).isEmpty=es[i].2.1.isEmpty:=by cases es[i].2.1<;>rfl
  cases hb:es[i].2.1.isEmpty with
  | false =>
   refine za9 (by rw[hem,hb];rfl) ⟨_,?_,rfl,ad,⟨_,rfl⟩,hz,k2,fa,rfl,by exact zar16 ‹_›,?_⟩
   ·exact zar1 ‹_›
   ·unfold ze3
    rw[dz,Wq,Yl (by rw[hb];decide),Xf,Zw];exact aL
  | true =>
   refine zbk (by rw[hem,hb];rfl) ⟨_,rfl,(by show 1≤sizeLine;decide),λq hq=>⟨_,?_,rfl,ad,⟨_,rfl⟩,?_,k2.trans (Keep.new hq),fa++[q],?_,?_,?_⟩⟩
   ·exact zar1 ‹_›
   ·rw[zad (zab hz hq)];exact hz
   ·rw[Qs];rfl
   ·rw[Qj];show _+1≤_;exact zar4 ‹_›
   ·unfold ze3
    rw[dz,Wq,Yj (by rw[hb]),Xf,Qs]
    exact za1 (zc1 (D:=d) (g:=d) (xs:=[]) (Keep.new hq) aL (λ_ _ _ _=>by simp)) (.cons ⟨[],zac⟩ .nil)
 ·have sr:i=es.length:=by exact zar3 ‹_› ‹_›
  subst sr
  rw[Qz (Qg _)]at aL
  refine .inl ⟨⟨hz,by rw[Qa];exact Qg _⟩,λD hD=>?_⟩
  have ndD:d≠D:=zab hz hD
  refine⟨d,o,_,(by rw[zad ndD];exact hz),nfz,?_⟩
  have k3:Keep [] H1 (upd (upd H2 D (.lst (fa.map V.ref))) d (.dK (es.map λe=>((Sum.inr e.1:Key),V.ref e.2.2)))):=λc u ec _=>by
   by_cases aO:c=d
   ·subst aO
    rw[zac,←T1.dc];exact ec
   ·have pI:=k2 c u ec (by simpa using aO)
    rw[zad aO,zad (zab pI hD)];exact pI
  have iC:(upd (upd H2 D (.lst (fa.map V.ref))) d (.dK (es.map λe=>((Sum.inr e.1:Key),V.ref e.2.2)))) D=some (.lst (fa.map V.ref)):=by rw[zad (Zi ndD)];exact zac
  have dh:Paired (zde (upd (upd H2 D (.lst (fa.map V.ref))) d (.dK (es.map λe=>((Sum.inr e.1:Key),V.ref e.2.2))))) fa (ze3 es):=Paired.imp' (λa h ⟨t,e⟩=>⟨t,by
   rw[zad (zbc e hz (by intro z;cases z)),zad (zab e hD)];exact e⟩) aL
  generalize upd (upd H2 D (.lst (fa.map V.ref))) d (.dK (es.map λe=>((Sum.inr e.1:Key),V.ref e.2.2)))=H3 at k3 iC dh
  have ku:BAt H3 b bs (row (rsOf es)):=gK.keep k3 (by simp) (λ_ _=>by simp)
  refine λg hg=>?_
  have k4:Keep [] H3 (upd H3 g (.dT [])):=Keep.new hg
  have hg4:(upd H3 g (.dT [])) g=some (.dT []):=zac
  generalize upd H3 g (.dT [])=H4 at k4 hg4
  have hb4:BAt H4 b bs (row (rsOf es)):=ku.keep k4 (by simp) (λ_ _=>by simp)
  refine⟨_,rfl,b,_,bs.map (·.1),rfl,hb4.dc,(by rw[Zr,Zr];rfl),λl as ws hl ag pa=>?_⟩
  have k5:Keep [] H4 (upd H4 l (.lst (as.map V.ref))):=Keep.new hl
  have fX:(upd H4 l (.lst (as.map V.ref))) l=some (.lst (as.map V.ref)):=zac
  have lH:zdl (upd H4 l (.lst (as.map V.ref))) as ws:=zdl.keep pa λc x y ec=>k5 _ _ ec (by simp)
  have nDl:D≠l:=zab (k4 _ _ iC (by simp)) hl
  generalize upd H4 l (.lst (as.map V.ref))=H5 at k5 fX lH
  have eU:Keep [] H3 H5:=k4.trans k5
  have iY:=eU _ _ iC (by simp)
  have nC:=k5 _ _ hg4 (by simp)
  have tG:BAt H5 b bs (row (rsOf es)):=hb4.keep k5 (by simp) (λ_ _=>by simp)
  have cH:Paired (zde H5) fa (ze3 es):=zc1 (D:=d) (g:=d) eU dh (λ_ _ _ _=>by simp)
  have qr:Keep [] H H5:=(k1.trans k3).trans eU
  have nlg:l≠g:=zbc fX nC (by intro z;cases z)
  have nDg:D≠g:=zbc iY nC (by intro z;cases z)
  have nbg:b≠g:=zab ku.dc hg
  have nbD:b≠D:=zbc tG.dc iY (by intro z;cases z)
  have e7:as.length=ws.length:=Yf lH
  have eJ:ws.length≤10000:=by rw[ag.length_eq,Qa];exact gJ
  have notDg:∀{H':Hp} {pH:Nl} {gs:Nv},H' D=some (.lst (pH.map V.ref))→H' g=some (.dT (gs.map λs=>(kP s,V.bl true)))→∀a (h:Str) (t:Nf),H' a=some (.lst ((h::t).map V.str))→a≠D∧a≠g:=λ{H' pH gs} e1 e2 a h t e =>
   ⟨zbc e e1 (by
    intro z
    have z':(h::t).map V.str=pH.map V.ref:=by injection z
    cases pH with
    |nil=>cases z'
    |cons x u=>rw[Ql,Ql]at z';injection z' with z1 _;cases z1),zbc e e2 (by intro z;cases z)⟩
  refine⟨l,rfl,⟨_,SqL.of fX⟩,zbw (xs:=as.map V.ref) (λi σ H'=>Aj3 (Ex3 λx4 x5 x6=>σ=[some (.ref d),some (.ref b),some (.ref D),some (.ref g),x4,x5,x6]) (Keep [D,g] H5 H') (Ex5 λ(gs:Nv) (dn rem:List (List (Str×Str))) (fa:Nl) (hc:Nf)=>Aj9 (H' g=some (.dT (gs.map λs=>(kP s,V.bl true)))) gs.Nodup (∀s,s∈gs↔s∈dn.flatten) (cs.Perm (dn++rem)) (∀s∈ws.take i,s∈gs) (H' D=some (.lst (fa.map V.ref))) (Paired (zde H') fa (ze3 es++hc)) (Paired (λh c=>∃s∈c,s.1=h) hc dn) (fa.length≤100+i)))
   ⟨⟨_,_,_,rfl⟩,Keep.refl,[],[],cs,fa,[],nC,Zt,λs=>Iff.rfl,List.Perm.refl _,λs hs=>(by cases hs),iY,by rw[Zw];exact cH,.nil,by omega⟩
   (λi σ H' _ hh=>SqL.of (hh.2 _ _ fX (by simp[Zi nDl,nlg]))) ?_ ?_⟩
  ·rintro i y σ H6 hx ⟨⟨x4,x5,x6,rfl⟩,k6,gs,dn,rem,oi,gr,sw,su,jY,eS,oQ,pB,i7,aO,cM⟩
   have hi:i<as.length:=by
    have:=(Ze.mp hx).1
    rwa[Qa]at this
   have jm:y=.ref as[i]:=by
    rw[Qt,Qc hi]at hx
    exact(Qv hx).symm
   subst jm
   obtain⟨ay,kD⟩:=zbh lH hi
   have nag:as[i]≠g:=zbc kD nC (by intro z;cases z)
   have naD:as[i]≠D:=zbc kD iY (by intro z;cases z)
   have o0:=k6 _ _ kD (by simp[nag,naD])
   have hws:ws[i]∈ws:=Qp ay
   have hsi:ws[i].1∈row (rsOf es) ws[i].2:=(aI _).mp (ag.mem_iff.mp hws)
   have hwt:∀{pF:Nv},(∀s∈gs,s∈pF)→ws[i]∈pF→∀s∈ws.take (i+1),s∈pF:=λ{pF} h1 h2 s hs=>by
    rw[Qo ay]at hs
    rcases Qd.mp hs with z | z
    ·exact h1 s (oQ s z)
    ·rw[Qb.mp z];exact h2
   refine⟨(by show 0≤sizeLine;decide),λfl bd=>?_⟩
   have k7:Keep [] H6 (upd H6 fl (.lst [])):=Keep.new bd
   have bZ:(upd H6 fl (.lst [])) fl=some (.lst []):=zac
   have nfD:fl≠D:=Zi (zab pB bd)
   have nfg:fl≠g:=Zi (zab sw bd)
   have nafl:as[i]≠fl:=zab o0 bd
   generalize upd H6 fl (.lst [])=H7 at k7 bZ
   have nz:=k7 _ _ sw (by simp)
   have tQ:=k7 _ _ pB (by simp)
   have nZ:=k7 _ _ o0 (by simp)
   have kX:Keep [D,g] H5 H7:=k6.trans (k7.sub (by simp))
   have tF:BAt H7 b bs (row (rsOf es)):=tG.keep kX (by simp[nbD,nbg]) λe he=>by
    have h1:=tG.tp e he
    simp[zbc h1 iY (by intro z;cases z),zbc h1 nC (by intro z;cases z)]
   have nbfl:b≠fl:=zbc tF.dc bZ (by intro z;cases z)
   have ml:Paired (zde H7) oi (ze3 es++gr):=zc1 (D:=d) (g:=d) k7 i7 (λ_ _ _ _=>by simp)
   refine⟨_,rfl,?_⟩
   by_cases gi:ws[i]∈gs
   ·-- it is gone already
    refine⟨λm σ H'=>Aj2 (σ=[some (.ref d),some (.ref b),some (.ref D),some (.ref g),some (.ref as[i]),some (.ref fl),some (.ref as[i])]) (H'=H7),⟨0,rfl,rfl⟩,?_⟩
    rintro m σ H' ⟨rfl,rfl⟩
    have dg:=DGet.t (k:=kP ws[i]) nz nZ
    rw[valG_in gi]at dg
    refine⟨_,rfl,_,rfl,g,_,rfl,dg,_,rfl,za9 rfl ?_⟩
    refine⟨_,rfl,_,.inl ⟨_,SqL.of bZ,rfl⟩,za9 rfl ?_⟩
    exact⟨⟨_,_,_,rfl⟩,kX,gs,dn,rem,oi,gr,nz,su,jY,eS,hwt (λ_ h=>h) gi,tQ,ml,aO,by exact zar16 ‹_›⟩
   ·-- a new cycle
    obtain⟨c,gq,qY⟩:=Yr.mp ((C.cm ws[i]).mpr hsi)
    obtain⟨A1,B1,gM⟩:=Wr qY
    have hlk:=ze6 (gM▸C.cy c gq)
    generalize hL:ws[i]::(B1++A1)=L
    have pA:L.Perm c:=by
     rw[←hL,gM]
     refine Jx.mpr λa=>?_
     simp only[Ks,Xg];lia
    have bY:=(List.Perm.flatten eS).nodup_iff.mp C.cf
    rw[Jz,Za]at bY
    have iS:c∈rem:=by
     rcases Qd.mp (eS.mem_iff.mp gq) with z | z
     ·exact absurd ((jY _).mpr (Yr.mpr ⟨c,z,qY⟩)) gi
     ·exact z
    have hLg:∀s∈L,s∉gs:=λs hs hg=>by
     exact absurd rfl (bY.2.2 s ((jY s).mp hg) s (Yr.mpr ⟨c,iS,pA.mem_iff.mp hs⟩))
    have o8:L.Nodup:=by
     rw[pA.nodup_iff]
     have:=(zc2 gq).nodup_iff.mp C.cf
     rw[Za]at this
     exact this.1
    have o7:∀s∈L,s.1∈row (rsOf es) s.2:=λs hs=>C.inc gq (pA.mem_iff.mp hs)
    have hLpos:0<L.length:=by rw[←hL];simp
    have cS:gs++L |>.Nodup:=Za.mpr ⟨su,o8,λa ha b' px e=>hLg b' px (e▸ha)⟩
    have hsz:(gs++L).length≤10000:=by
     refine Zk (nodup_len cS (m:=bs.map (·.1)) λs hs=>?_) (by rw[Qa];exact gJ)
     rcases Qd.mp hs with z | z
     ·obtain ⟨c',cq,cw⟩:=Yr.mp ((jY s).mp z)
      exact(aI s).mpr (C.inc (eS.mem_iff.mpr (Qn _ cq)) cw)
     ·exact(aI s).mpr (o7 s z)
    rw[Qj]at hsz
    have sv:∀k (hk:k<L.length),st (row (rsOf es)) L[k]=L.getD (k+1) ws[i]:=λk hk=>by
     have:=lk_get hlk k (by rw[hL];exact hk)
     rw[hL,Qy,Qc hk]at this
     exact this
    refine⟨λm σ H'=>Ex2 λ(k:Nat) (t:Nd)=>Aj7 (m=L.length-k) (k≤L.length) (σ=[some (.ref d),some (.ref b),some (.ref D),some (.ref g),some (.ref as[i]),some (.ref fl),some (.ref t)]) (Keep [g,fl] H7 H') (H' g=some (.dT ((gs++L.take k).map λs=>(kP s,V.bl true)))) (H' fl=some (.lst (((L.take k).map (·.1)).map V.str))) (H' t=some (.tup [.str (L.getD k ws[i]).1,.str (L.getD k ws[i]).2])),
     ⟨_,0,as[i],rfl,Zp _,rfl,Keep.refl,by rw[List.take_zero,Zw];exact nz,bZ,by rw[←hL];exact nZ⟩,?_⟩
    rintro m σ H8 ⟨k8,t,rfl,hk8,rfl,oH,ny,gl,lf⟩
    have dg:=DGet.t (k:=kP (L.getD k8 ws[i])) ny lf
    by_cases dU:k8<L.length
    ·have kj:L.getD k8 ws[i]=L[k8]:=by rw [Qy,Qc dU];rfl
     have dz:L.take (k8+1)=L.take k8++[L[k8]]:=Qo dU
     have cI:L[k8]∉gs++L.take k8:=λz=>by
      rcases Qd.mp z with q | q
      ·exact hLg _ (Qp dU) q
      ·have:=Ue (Kp (k8+1) L) o8
       rw[dz,Za]at this
       exact this.2.2 _ q _ (Qb.mpr rfl) rfl
     rw[kj]at lf dg
     rw[valG_out cI]at dg
     refine⟨_,rfl,_,rfl,g,_,rfl,dg,_,rfl,zbk rfl ?_⟩
     refine⟨_,λ σ' H' z=>z,?_⟩
     have mV:((gs++L.take k8).map λs=>(kP s,V.bl true)).length<sizeLine:=by
      rw[Qa,Qj,Zn];lia
     refine⟨_,rfl,_,rfl,g,_,rfl,DPut.t (k:=kP L[k8]) ny lf mV,?_⟩
     have jH:putK ((gs++L.take k8).map λs=>(kP s,V.bl true)) (kP L[k8]) (.bl true)=(gs++L.take (k8+1)).map λs=>(kP s,V.bl true):=by
      rw[zeh _ (valG_out cI),dz,←Qu,Qs (l₂:=[L[k8]])];rfl
     rw[jH]
     have ntg:t≠g:=zbc lf ny (by intro z;cases z)
     have ntfl:t≠fl:=zbc lf gl (by intro z;cases z)
     have k9:Keep [g,fl] H7 (upd H8 g (.dT ((gs++L.take (k8+1)).map λs=>(kP s,V.bl true)))):=oH.trans (Keep.wr (by simp))
     have hg9:(upd H8 g (.dT ((gs++L.take (k8+1)).map λs=>(kP s,V.bl true)))) g=some (.dT ((gs++L.take (k8+1)).map λs=>(kP s,V.bl true))):=zac
     have j':(upd H8 g (.dT ((gs++L.take (k8+1)).map λs=>(kP s,V.bl true)))) fl=some (.lst (((L.take k8).map (·.1)).map V.str)):=by rw[zad nfg];exact gl
     have qI:(upd H8 g (.dT ((gs++L.take (k8+1)).map λs=>(kP s,V.bl true)))) t=some (.tup [.str L[k8].1,.str L[k8].2]):=by rw[zad ntg];exact lf
     generalize upd H8 g (.dT ((gs++L.take (k8+1)).map λs=>(kP s,V.bl true)))=H9 at k9 hg9 j' qI
     refine⟨_,rfl,.inl ⟨rfl,_,SqL.of j'⟩,_,rfl,t,_,_,_,rfl,rfl,SqT.of qI,zav (j:=0) rfl,fl,_,_,rfl,rfl,j',(by rw[Qa,Qa,Zn];lia),?_⟩
     have gm:((L.take k8).map (·.1)).map V.str++[V.str L[k8].1]=((L.take (k8+1)).map (·.1)).map V.str:=by rw[dz,Qs,Qs];rfl
     rw[gm]
     have cU:Keep [g,fl] H7 (upd H9 fl (.lst (((L.take (k8+1)).map (·.1)).map V.str))):=k9.trans (Keep.wr (by simp))
     have nE:(upd H9 fl (.lst (((L.take (k8+1)).map (·.1)).map V.str))) g=some (.dT ((gs++L.take (k8+1)).map λs=>(kP s,V.bl true))):=by rw[zad (Zi nfg)];exact hg9
     have iR:(upd H9 fl (.lst (((L.take (k8+1)).map (·.1)).map V.str))) fl=some (.lst (((L.take (k8+1)).map (·.1)).map V.str)):=zac
     have ma:(upd H9 fl (.lst (((L.take (k8+1)).map (·.1)).map V.str))) t=some (.tup [.str L[k8].1,.str L[k8].2]):=by rw[zad ntfl];exact qI
     generalize upd H9 fl (.lst (((L.take (k8+1)).map (·.1)).map V.str))=cC at cU nE iR ma
     have kA:BAt cC b bs (row (rsOf es)):=tF.keep cU (by simp[nbg,nbfl]) λe he=>by
      have h1:=tF.tp e he
      simp[zbc h1 nz (by intro z;cases z),zbc h1 bZ (by intro z;cases z)]
     obtain⟨e,he,hee⟩:=Qm.mp ((aI L[k8]).mpr (o7 _ (Qp dU)))
     have dg2:=DGet.t (k:=kP L[k8]) kA.dc ma
     rw[←hee,valT_in kA.nd he]at dg2
     have jx:=kA.tp e he
     rw[hee,sv k8 dU]at jx
     refine⟨_,rfl,_,rfl,b,_,rfl,dg2,L.length-(k8+1),by exact zar1 ‹_›,k8+1,e.2,rfl,dU,rfl,cU,nE,iR,jx⟩
    ·have hk:k8=L.length:=by exact zar3 ‹_› ‹_›
     subst hk
     have kj:L.getD L.length ws[i]=ws[i]:=by rw[Qy,Uf (Qg _)];rfl
     rw[Qz (Qg _)]at ny gl dg
     have hwL:ws[i]∈L:=by rw[←hL];exact Qe
     rw[kj,valG_in (Qk _ hwL)]at dg
     refine⟨_,rfl,_,rfl,g,_,rfl,dg,_,rfl,za9 rfl ?_⟩
     have aJ:((L.map (·.1)).map V.str).isEmpty=false:=by rw[←hL];rfl
     refine⟨_,rfl,_,.inl ⟨_,SqL.of gl,rfl⟩,zbk (by rw[aJ];rfl) ?_⟩
     have hD8:=oH _ _ tQ (by simp[nDg,Zi nfD])
     refine⟨_,rfl,.inl ⟨rfl,_,SqL.of hD8⟩,_,rfl,D,_,_,rfl,rfl,hD8,(by rw[Qa];lia),?_⟩
     have k9:Keep [D,g] H5 (upd H8 D (.lst (oi.map V.ref++[.ref fl]))):=by
      refine Keep.trans (λc' u' ec cq=>?_) (Keep.wr (by simp))
      have h7:=kX c' u' ec cq
      refine oH c' u' h7 ?_
      have ncg:c'≠g:=λz=>cq (by simp[z])
      have ncf:c'≠fl:=λz=>by
       have:=k6 c' u' ec cq
       rw[z,bd]at this;cases this
      simp[ncg,ncf]
     refine⟨⟨_,_,_,rfl⟩,k9,gs++L,dn++[c],rem.erase c,oi++[fl],gr++[ws[i].1],by rw[zad (Zi nDg)];exact ny,cS,λs=>?_,?_,hwt (λs hs=>Qn _ hs) (Qk _ hwL),by rw[zac,Qs];rfl,?_,za1 aO (.cons ⟨ws[i],qY,rfl⟩ .nil),by rw[Qj];show _+1≤_;exact zar4 ‹_›⟩
     ·rw[Qd,jY,Jz,Qd,Kr,List.flatten_nil,Zw,pA.mem_iff]
     ·refine eS.trans ?_
      rw[Qu]
      exact Zy _ (Jr iS)
     ·rw [← Qu]
      refine za1 (Paired.imp' (λa h ⟨t,e⟩=>⟨t,?_⟩) ml) (.cons ⟨(B1++A1).map (·.1),?_⟩ .nil)
      ·have n1:=notDg tQ nz a h t e
       have naf:a≠fl:=zbc e bZ (by intro z;injection z with z;cases z)
       rw[zad n1.1]
       exact oH _ _ e (by simp[n1.2,naf])
      ·rw[zad nfD,gl,←hL];rfl
  ·rintro σ H6 ⟨⟨x4,x5,x6,rfl⟩,k6,gs,dn,rem,oi,gr,sw,su,jY,eS,oQ,pB,i7,aO,cM⟩
   rw[Qa,e7,Qz (Qg _)]at oQ
   have rg:rem=[]:=by
    cases rem with
    |nil=>rfl
    |cons c rem' =>
     have nU:c∈cs:=eS.mem_iff.mpr (Qk _ Qe)
     obtain⟨s0,t0,iU,_⟩:=C.cy c nU
     have aE:s0∈c:=by rw[iU];exact Qe
     have h1:s0∈ws:=ag.mem_iff.mpr ((aI s0).mpr (C.inc nU aE))
     have h2:=(jY s0).mp (oQ s0 h1)
     have h3:=(List.Perm.flatten eS).nodup_iff.mp C.cf
     rw[Jz,Za]at h3
     exact absurd rfl (h3.2.2 s0 h2 s0 (Yr.mpr ⟨c,Qe,aE⟩))
   rw[rg,Zw]at eS
   refine⟨_,rfl,D,_,rfl,SqL.of pB,λv hv=>?_,λl7 ws7 cL jJ=>?_⟩
   ·obtain ⟨a,ha,rfl⟩:=Qm.mp hv
    obtain⟨j,hj,rfl⟩:=Zq ha
    obtain⟨_,t,e⟩:=zbh i7 hj
    exact⟨_,_,rfl,e⟩
   ·obtain ⟨as7,rfl,az⟩:=refs_perm jJ
    obtain⟨hd7,oV,cF⟩:=zd3 az i7
    refine k l7 as7 hd7 gr dn _ zac (by rw[az.length_eq];rw[Qa]at cM;lia) (Paired.imp' (λa h ⟨t,e⟩=>⟨t,by rw[zad (zab e cL)];exact e⟩) cF) oV eS.symm aO ?_
    refine(λc u ec _=>?_)
    have nD:c≠D:=λz=>by
     by_cases zd:c=d
     ·exact ndD (zd▸z)
     ·have h2:=k2 c u (k1 c u ec (by simp)) (by simpa using zd)
      rw[z,hD]at h2;cases h2
    have nG:c≠g:=λz=>by
     have h1:=k3 c u (k1 c u ec (by simp)) (by simp)
     rw[z,hg]at h1;cases h1
    have:=k6 c u (qr c u ec (by simp)) (by simp[nD,nG])
    rw[zad (zab this cL)];exact this
end
abbrev sPiece:Stmt:=top 18
abbrev zhw:Stmt:=top 19
def marks(ks:Nf):List (Key×V):=ks.map λz=>((Sum.inr z:Key),V.bl true)
def zho(h:x∉ks):valV (marks ks) (Sum.inr x)=none:=by
 unfold marks
 induction ks with
 |nil=>rfl
 |cons a t ih =>
  rw[Qh,not_or]at h
  rw[Ql,zbs]
  ·exact ih h.2
  ·intro q;exact h.1 (Uv q).symm
def valM_in(h:x∈ks):valV (marks ks) (Sum.inr x)=some (.bl true):=by
 unfold marks
 induction ks with
 |nil=>cases h
 | cons a t ih =>
  rw[Ql]
  by_cases e:a=x
  ·exact zcr (by rw[e])
  ·rw [zbs (fun q=>e (Uv q))]
   rcases Qh.mp h with z | z
   ·exact absurd z.symm e
   ·exact ih z
def putM_new(h:x∉ks):putK (marks ks) (Sum.inr x) (.bl true)=marks (ks++[x]):=by
 rw[zeh _ (zho h)];unfold marks;rw[List.map_append];rfl
def putM_old(h:x∈ks):putK (marks ks) (Sum.inr x) (.bl true)=marks ks:=by
 unfold putK marks
 rw[if_pos]
 ·rw [Zr]
  refine Wa λz _=>?_
  show(if(Sum.inr z:Key)=Sum.inr x then((Sum.inr z:Key),V.bl true) else(Sum.inr z,V.bl true))=_
  split<;>rfl
 ·exact Yw.mpr ⟨_,Qm.mpr ⟨x,h,rfl⟩,by simp⟩
def mkeys(ks:Nf):((marks ks).map λp=>kV p.1)=ks.map V.str:=by unfold marks;rw[List.map_map];rfl
inductive IspPiece(vs:List V)(H:Hp)(Q:VK):Prop
 |mk (d:Nd) (es:List Ent) (cs:List (List (Str×Str))) (a8:Nw) (x:Str) (h0:vs=[.ref d,.str x]) (h1:TAt H d es) (h2:es.length≤60) (h3:Cert (es.map (·.1)) (row (rsOf es)) cs a8) (h4:x∈es.map (·.1)) (h5:∀(l:Nd) (zs:Nf) (H':Hp),H' l=some (.lst (zs.map V.str))→zs.Nodup→zs.Pairwise leS→(∀y,y∈zs↔y∈es.map (·.1)∧a8 y=a8 x)→H l=none→Keep [] H H'→Q (.ref l) H'):IspPiece vs H Q
def spPiece:Sp:=λvs H Q _=>IspPiece vs H Q
def seqO(b:Bool)(xs:List V):HO:=bif b then .tup xs else .lst xs
structure GAt(b:Bool)(H:Hp)(d:Nd)(es:List Ent):Prop where
 dc:H d=some (.dK (es.map λe=>((Sum.inr e.1:Key),V.ref e.2.2)))
 ro:∀e∈es,H e.2.2=some (seqO b (e.2.1.map V.str))
 nd:(es.map (·.1)).Nodup
def GAt.keep(r:GAt b H d es)(k:Keep xs H H')(hd:d∉xs)(h:∀e∈es,e.2.2∉xs):GAt b H' d es:=⟨k _ _ r.dc hd,λe he=>k _ _ (r.ro e he) (h e he),r.nd⟩
def SqB(b:Bool)(K:Nb)(H:Hp)(a:Nd)(xs:List V):Prop:=bif b then SqT K H a xs else SqL K H a xs
def ItB(b:Bool)(K:Nb)(a:Nd):It:=bif b then Itt K a else Itl K a
def SqB.of{b:Bool}{K:Nb}{H:Hp}{a:Nd}{xs:List V}(h:H a=some (seqO b xs)):SqB b K H a xs:=by
 cases b
 ·exact SqL.of h
 ·exact SqT.of h
def GAt.sq{b:Bool}{K:Nb}{H:Hp}{d:Nd}{es:List Ent}{e:Ent}(r:GAt b H d es)(he:e∈es):SqB b K H e.2.2 (e.2.1.map V.str):=SqB.of (r.ro e he)
def iB(b:Bool)(K:Nb)(tl:TE):TI:=λ σ H R=>tl σ H λx H1=>RI1 x (λa=>∃xs,SqB b K H1 a xs) λa=>R (ItB b K a) H1
def pi_b(b:Bool){X:Cx}{tg l:Expr}{tl:TE}(hl:PE X l tl):PI X tg l (iB b X.K tl):=by
 cases b
 ·exact za6 hl
 ·exact pi_tup hl
def for_b(b:Bool){K:Nb}{a:Nd}{xs:List V}{g:TG}{tb:TS}{D:Ends}{σ:St}{H:Hp}(Pv:Nat→St→Hp→Prop)(h0:Pv 0 σ H)(hl:∀i σ H,i≤xs.length→Pv i σ H→SqB b K H a xs)(hs:∀i x σ H,xs[i]?=some x→Pv i σ H→g x σ H λ σ2 H2=>tb {D with nx:=Pv (i+1),ct:=Pv (i+1),bk:=D.nx} σ2 H2)(hd:∀σ H,Pv xs.length σ H→D.nx σ H) :
  ∃W:Nat→Nat→St→Hp→Prop,(∃m,W 0 m σ H)∧∀i m σ H,W i m σ H →
   ((ItB b K a).stop i H∧D.nx σ H)∨((ItB b K a).go i H∧∃N:St→Hp→Prop,(∀σ' H',N σ' H'→∃m',m'<m∧W (i+1) m' σ' H')∧∀x H',(ItB b K a).yld i H x H'→g x σ H' λ σ2 H2=>tb {D with nx:=N,ct:=N,bk:=D.nx} σ2 H2):=by
 cases b
 ·exact zbw Pv h0 hl hs hd
 ·exact for_tup Pv h0 hl hs hd
inductive IspPieceG(b:Bool)(vs:List V)(H:Hp)(Q:VK):Prop
 |mk (d:Nd) (es:List Ent) (x:Str) (h0:vs=[.ref d,.str x]) (h1:GAt b H d es) (h2:es.length≤60) (h3:∀z y,y∈row (rsOf es) z→y∈es.map (·.1)) (h4:x∈es.map (·.1)) (h5:∀(l:Nd) (zs:Nf) (H':Hp),H' l=some (.lst (zs.map V.str))→zs.Nodup→zs.Pairwise leS→(∀y,y∈zs↔Conn (row (rsOf es)) x y)→H l=none→Keep [] H H'→Q (.ref l) H'):IspPieceG b vs H Q
def spPieceG(b:Bool):Sp:=λvs H Q _=>IspPieceG b vs H Q
section
variable{P:Nj}{w:Nk}{K:Nb}{mg:Ng}{base:Nm}
def zf1:zan ["rounds", "start", "reached", "waiting", "place", "other"] ["rounds", "start"] (zah sPiece):=fsk
def ok_pieceG(b:Bool){f:Nd}{fd:Nq}(F:Fun K "piece_from" "piece_from" sPiece f fd)(av:mg "sorted" = none):FnOk P w K mg base CX0 1 f fd ["rounds", "start"] (spPieceG b):=by
 refine F.okL zf1 (λcdv A outer s H vs Q E hr h=>?_)
 obtain⟨d,es,x,rfl,T,cN,iw,hx,k⟩:=h
 have hu:=zb4 hr
 have aE  := sizeLine_eq
 refine⟨_,zae (zar 2 zf1.nd (pe_disp (zh3 (pv 1) pe_bl pps_nil) rfl rfl (by decide) (by decide)))
  (zae (zar 3 zf1.nd (za7 (zaa (pv 1) zaf)))
  (zae (zcj Zd (zei (pv 3) (by intro _;rfl))
   (zae (zar 4 zf1.nd (pe_bm0 Qx PySem.F.slot_list_pop PySem.F.type_list_pop mt_pop (pv 3)))
   (zag (zbg Zd rfl (pi_b b (zd2 hu (pv 0) (pv 4))) (zbe 5 zf1.nd)
    (zag (zb1 (zb8 (zaz hu (pv 5) (pv 2)))
     (zae (zey hu (pv 2) (pv 5) pe_bl rfl)
     (zag (zay (zb7 Qx Zm Zl za4 (pv 3) (zaa (pv 5) zaf))))) zax))))))
  (zag (za3 (zaj (zbx rfl) (by rfl) av Yp (zaa (pv 2) zaf)))))),?_⟩
 have ai:∀e∈es,row (rsOf es) e.1=e.2.1:=λe he=>zcn T.nd he
 refine λre cx=>⟨_,rfl,zac,[(Sum.inr x,.bl true)],rfl,(by show 1≤15;decide),?_⟩
 have gE:(zdb [] [((Sum.inr x:Key),V.bl true)])=marks [x]:=rfl
 rw[gE]
 have kre:Keep [] H (upd (upd H re (.dK [])) re (.dK (marks [x]))):=by rw[upd_upd];exact Keep.new cx
 have dP:(upd (upd H re (.dK [])) re (.dK (marks [x]))) re=some (.dK (marks [x])):=zac
 generalize upd (upd H re (.dK [])) re (.dK (marks [x]))=H1 at kre dP
 refine⟨_,rfl,(by show 1≤sizeLine;decide),λwa eY=>?_⟩
 have k2:Keep [] H (upd H1 wa (.lst [.str x])):=kre.trans (Keep.new eY)
 have jo:H wa=none:=zap (xs:=[]) kre eY (by simp)
 have lW:(upd H1 wa (.lst [.str x])) wa=some (.lst ([x].map V.str)):=zac
 have oG:re≠wa:=zab dP eY
 have fG:(upd H1 wa (.lst [.str x])) re=some (.dK (marks [x])):=by rw[zad oG];exact dP
 generalize upd H1 wa (.lst [.str x])=H2 at k2 lW fG
 have T2:GAt b H2 d es:=T.keep k2 (by simp) (λ_ _=>by simp)
 have qi:d≠re:=zab T.dc cx
 have ndw:d≠wa:=zab T.dc jo
 have rowne:∀e∈es,e.2.2≠re∧e.2.2≠wa:=λe he=>⟨zab (T.ro e he) cx,zab (T.ro e he) jo⟩
 refine⟨λm σ H'=>Aj3 (Ex2 λx4 x5=>σ=[some (.ref d),some (.str x),some (.ref re),some (.ref wa),x4,x5]) (Keep [re,wa] H2 H') (Ex2 λ(ks wl:Nf)=>Aj9 (H' re=some (.dK (marks ks))) (H' wa=some (.lst (wl.map V.str))) ks.Nodup wl.Nodup (∀z∈wl,z∈ks) (∀z∈ks,z∈es.map (·.1)∧Conn (row (rsOf es)) x z) (x∈ks) (∀z∈ks,z∉wl→∀y∈row (rsOf es) z,y∈ks) (m=es.length+wl.length-ks.length)),
  ⟨_,⟨none,none,rfl⟩,Keep.refl,[x],[x],fG,lW,Zb.mpr ⟨by simp,Zt⟩,Zb.mpr ⟨by simp,Zt⟩,λz h=>h,λz h=>(by rw[Qb.mp h];exact⟨hx,.refl⟩),Qe,λz h h'=>absurd h h',rfl⟩,?_⟩
 rintro m σ H3 ⟨⟨x4,x5,rfl⟩,k3,ks,wl,cE,jt,im,lT,oP,aY,hxk,cA,rfl⟩
 have hkle:ks.length≤es.length:=by
  have:=zbj im (m:=es.map (·.1)) λz hz=>(aY z hz).1
  rwa[Qa]at this
 have lU:wl.length≤ks.length:=zbj lT oP
 refine⟨_,rfl,_,.inl ⟨_,SqL.of jt,rfl⟩,?_⟩
 rcases List.eq_nil_or_concat wl with eJ | ⟨ini,z,eJ⟩
 ·-- all are reached
  subst eJ
  refine za9 rfl ?_
  refine⟨_,rfl,re,_,ks,rfl,.inl cE,mkeys ks,λl zs hl ag bo=>?_⟩
  have kf:Keep [] H H3:=λc u ec _=>k3 c u (k2 c u ec (by simp)) (by simp[zab ec cx,zab ec jo])
  refine k l zs _ zac (ag.nodup_iff.mpr im) (bo (by omega)) (λy=>?_) (zap kf hl (by simp)) (kf.trans (Keep.new hl))
  rw[ag.mem_iff]
  constructor
  ·exact λh=>(aY y h).2
  ·intro hc
   induction hc with
   |refl=>exact hxk
   |step _ hz ih=>exact cA _ ih (by simp) _ hz
 ·rw [List.concat_eq_append] at eJ
  subst eJ
  refine zbk (by rw[Qs];cases ini<;>rfl) ?_
  refine⟨_,λ σ' H' zz=>zz,?_⟩
  have eI:z∈ks:=oP z (Qk _ Qe)
  obtain⟨en,bh,dy⟩:=Qm.mp (aY z eI).1
  have lL:en.1=z:=dy
  rw[Za]at lT
  obtain⟨aB,_,tq⟩:=lT
  have hzi:z∉ini:=λq=>tq z q z Qe rfl
  have fV:((ini++[z]).map V.str)[((ini++[z]).map V.str).length-1]?=some (.str z):=by
   rw[Qs,Qj,Ja (by simp)]
   simp
  have gG:((ini++[z]).map V.str).dropLast=ini.map V.str:=by rw[Qs];exact List.dropLast_concat
  refine⟨_,rfl,.inl ⟨rfl,_,SqL.of jt⟩,wa,_,_,rfl,rfl,jt,fV,?_⟩
  rw[gG]
  have k4:Keep [re,wa] H2 (upd H3 wa (.lst (ini.map V.str))):=k3.trans (Keep.wr (by simp))
  have lV:(upd H3 wa (.lst (ini.map V.str))) wa=some (.lst (ini.map V.str)):=zac
  have fF:(upd H3 wa (.lst (ini.map V.str))) re=some (.dK (marks ks)):=by rw[zad oG];exact cE
  generalize upd H3 wa (.lst (ini.map V.str))=H4 at k4 lV fF
  have T4:GAt b H4 d es:=T2.keep k4 (by simp[qi,ndw]) λe he=>by simp[(rowne e he).1,(rowne e he).2]
  have dg:DGet H4 d (.str z) (some (.ref en.2.2)):=by
   have:=DGet.k (k:=Sum.inr en.1) T4.dc
   rw[zds T4.nd bh,lL]at this
   exact this
  have hrz:row (rsOf es) z=en.2.1:=by rw[←lL];exact ai en bh
  refine⟨_,rfl,_,rfl,d,_,rfl,dg,en.2.2,rfl,⟨_,GAt.sq T4 bh⟩,for_b b (xs:=en.2.1.map V.str) (λj σ H'=>Aj3 (Ex1 λx5=>σ=[some (.ref d),some (.str x),some (.ref re),some (.ref wa),some (.str z),x5]) (Keep [re,wa] H2 H') (Ex1 λ(nw:Nf)=>Aj5 (H' re=some (.dK (marks (ks++nw)))) (H' wa=some (.lst ((ini++nw).map V.str))) ((ks++nw).Nodup) (∀y∈nw,y∈es.map (·.1)∧Conn (row (rsOf es)) x y) (∀y∈en.2.1.take j,y∈ks++nw)))
   ⟨⟨_,rfl⟩,k4,[],by rw[Zw];exact fF,by rw[Zw];exact lV,by rw[Zw];exact im,λy hy=>(by cases hy),λy hy=>(by cases hy)⟩
   (λj σ H' _ hh=>(SqB.of (hh.2 _ _ (T2.ro en bh) (by simp[(rowne en bh).1,(rowne en bh).2])))) ?_ ?_⟩
  ·rintro j y σ H5 hy ⟨⟨y5,rfl⟩,k5,nw,cc,gZ,dj,dR,fh⟩
   have hj:j<en.2.1.length:=by
    have:=(Ze.mp hy).1
    rwa[Qa]at this
   have lN:y=.str en.2.1[j]:=by
    rw[Qt,Qc hj]at hy
    exact(Qv hy).symm
   subst lN
   have gW:en.2.1[j]∈row (rsOf es) z:=by rw[hrz];exact Qp hj
   have dz:en.2.1.take (j+1)=en.2.1.take j++[en.2.1[j]]:=Qo hj
   have hsz:(ks++nw).length≤es.length:=by
    have:=zbj dj (m:=es.map (·.1)) λq hq=>by
     rcases Qd.mp hq with h | h
     ·exact(aY q h).1
     ·exact(dR q h).1
    rwa[Qa]at this
   have pO:=DGet.k (k:=Sum.inr en.2.1[j]) cc
   by_cases aB:en.2.1[j]∈ks++nw
   ·rw [valM_in aB] at pO
    refine⟨_,rfl,_,rfl,re,_,rfl,pO,_,rfl,za9 rfl ?_⟩
    refine⟨⟨_,rfl⟩,k5,nw,cc,gZ,dj,dR,λq hq=>?_⟩
    rw[dz]at hq
    rcases Qd.mp hq with h | h
    ·exact fh q h
    ·rw[Qb.mp h];exact aB
   ·rw [zho aB] at pO
    refine⟨_,rfl,_,rfl,re,_,rfl,pO,_,rfl,zbk rfl ?_⟩
    refine⟨_,rfl,_,rfl,re,_,rfl,DPut.k (k:=Sum.inr en.2.1[j]) cc (by unfold marks;rw[List.length_map];lia),?_⟩
    rw[putM_new aB]
    have jq:(upd H5 re (.dK (marks (ks++nw++[en.2.1[j]])))) wa=some (.lst ((ini++nw).map V.str)):=by rw[zad (Zi oG)];exact gZ
    have dO:(upd H5 re (.dK (marks (ks++nw++[en.2.1[j]])))) re=some (.dK (marks (ks++nw++[en.2.1[j]]))):=zac
    have k6:Keep [re,wa] H2 (upd H5 re (.dK (marks (ks++nw++[en.2.1[j]])))):=k5.trans (Keep.wr (by simp))
    generalize upd H5 re (.dK (marks (ks++nw++[en.2.1[j]])))=H6 at jq dO k6
    rw[Qj]at hsz
    rw[Qj,Zf,Uk]at lU
    refine⟨_,rfl,.inl ⟨rfl,_,SqL.of jq⟩,_,rfl,wa,_,_,rfl,rfl,jq,(by rw[Qa,Qj];lia),?_⟩
    refine⟨⟨_,rfl⟩,k6.trans (Keep.wr (by simp)),nw++[en.2.1[j]],by rw[zad oG,←Qu];exact dO,by rw[zac,←Qu,Qs (l₂:=[en.2.1[j]])];rfl,?_,λq hq=>?_,λq hq=>?_⟩
    ·rw [← Qu,Za]
     refine⟨dj,Zb.mpr ⟨by simp,Zt⟩,λa ha b hb e=>?_⟩
     rw[Qb.mp hb]at e
     exact aB (e▸ha)
    ·rcases Qd.mp hq with h | h
     ·exact dR q h
     ·rw [Qb.mp h]
      exact⟨iw z _ gW,.step (aY z eI).2 gW⟩
    ·rw [dz] at hq
     rw[←Qu]
     rcases Qd.mp hq with h | h
     ·exact Qn _ (fh q h)
     ·exact Qk _ h
  ·rintro σ H5 ⟨⟨y5,rfl⟩,k5,nw,cc,gZ,dj,dR,fh⟩
   rw[Qa,Qz (Qg _)]at fh
   have hsz:(ks++nw).length≤es.length:=by
    have:=zbj dj (m:=es.map (·.1)) λq hq=>by
     rcases Qd.mp hq with h | h
     ·exact(aY q h).1
     ·exact(dR q h).1
    rwa[Qa]at this
   have fR:=dj
   rw[Za]at fR
   refine⟨es.length+(ini++nw).length-(ks++nw).length,?_,⟨_,_,rfl⟩,k5,ks++nw,ini++nw,cc,gZ,dj,?_,?_,?_,Qn _ hxk,?_,rfl⟩
   ·rw [Qj] at hsz
    rw[Qj,Qj,Qj,Zf,Uk]
    rw[Qj,Zf,Uk]at lU
    lia
   ·rw [Za]
    refine⟨aB,fR.2.1,λa ha b hb e=>fR.2.2 a (oP a (Qn _ ha)) b hb e⟩
   ·intro q hq
    rcases Qd.mp hq with h | h
    ·exact Qn _ (oP q (Qn _ h))
    ·exact Qk _ h
   ·intro q hq
    rcases Qd.mp hq with h | h
    ·exact aY q h
    ·exact dR q h
   ·intro q hq mi y hy
    rw[Qd,not_or]at mi
    rcases Qd.mp hq with h | h
    ·by_cases hqz:q=z
     ·rw[hqz,hrz]at hy;exact fh y hy
     ·exact Qn _ (cA q h (by rw[Qd,not_or,Qb];exact⟨mi.1,hqz⟩) y hy)
    ·exact absurd h mi.2
def ok_piece(F:Fun K "piece_from" "piece_from" sPiece f fd)(av:mg "sorted" = none):FnOk P w K mg base CX0 1 f fd ["rounds", "start"] spPiece :=
 (ok_pieceG true F av).imp fun vs H Q E ⟨d,es,cs,a8,x,e,T,cN,C,hx,k⟩=>⟨d,es,x,e,⟨T.dc,T.ro,T.nd⟩,cN,fun z y h=>C.inn' h,hx,fun l zs H' h1 h2 h3 h4=>k l zs H' h1 h2 h3 fun y=>(h4 y).trans ⟨fun h=>by
  induction h with
  |refl=>exact⟨hx,rfl⟩
  |step _ gW ih=>exact⟨C.inn' gW,(C.la _ _ gW).trans ih.2⟩,λh=>C.co x hx y h.1 h.2.symm⟩⟩
end
def IsPiece(ns:Nf)(a8:Nw)(zs:Nf):Prop:=zs.Nodup∧∃s∈ns,∀y,y∈zs↔y∈ns∧a8 y=a8 s
structure InRow(ns:Nf)(zss:List (List Str)):Prop where
 so:∀zs∈zss,zs.Pairwise leS
 hd:zss.Pairwise λa b=>∀x∈a.head?,∀y∈b.head?,leS x y
 al:∀y∈ns,∃zs∈zss,y∈zs
def zgr(H:Hp)(a:Nd)(zs:Nf):Prop:=H a=some (.lst (zs.map V.str))
inductive IspPieces(vs:List V)(H:Hp)(Q:VK):Prop
 |mk (d:Nd) (es:List Ent) (cs:List (List (Str×Str))) (a8:Nw) (h0:vs=[.ref d]) (h1:TAt H d es) (h2:es.length≤60) (h3:Cert (es.map (·.1)) (row (rsOf es)) cs a8) (h4:∀(l:Nd) (as:Nl) (zss:List (List Str)) (H':Hp),H' l=some (.lst (as.map V.ref))→Paired (zgr H') as zss→(∀zs∈zss,IsPiece (es.map (·.1)) a8 zs)→InRow (es.map (·.1)) zss→Keep [] H H'→Q (.ref l) H'):IspPieces vs H Q
def spPieces:Sp:=λvs H Q _=>IspPieces vs H Q
section
variable{P:Nj}{w:Nk}{K:Nb}{mg:Ng}{base:Nm}
def zdn:zan ["rounds", "found", "reached", "start", "piece", "place"] ["rounds"] (zah zhw):=fsk
def ok_pieces(F:Fun K "pieces_of" "pieces_of" zhw f fd)(FP:Fun K "piece_from" "piece_from" sPiece fp fdp)(bP:Binds K fdp ["rounds", "start"] [])(mP:mg "piece_from" = some (.ref fp))(GP:FnOk P w K mg base CX0 1 fp fdp ["rounds", "start"] spPiece)(av:mg "sorted" = none):FnOk P w K mg base CX0 2 f fd ["rounds"] spPieces:=by
 refine F.okL zdn (λcdv A outer s H vs Q E hr h=>?_)
 obtain⟨d,es,cs,a8,rfl,T,cN,C,k⟩:=h
 have hu:=zb4 hr
 have aE  := sizeLine_eq
 refine⟨_,zae (zar 1 zdn.nd (za7 zaf))
  (zae (zar 2 zdn.nd pe_dnewK)
  (zae (zbg Zd rfl (za6 (zaj (zbx rfl) (by rfl) av Yp (zaa (pv 0) zaf))) (zbe 3 zdn.nd)
   (zag (zb1 (zb8 (zaz hu (pv 3) (pv 2)))
    (zae (zar 4 zdn.nd (zak GP hr rfl mP FP.kp bP .nil zau (zaa (pv 0) (zaa (pv 3) zaf))))
    (zae (zay (zb7 Qx Zm Zl za4 (pv 1) (zaa (pv 4) zaf)))
    (zag (zbg Zd rfl (za6 (pv 4)) (zbe 5 zdn.nd)
     (zag (zey hu (pv 2) (pv 5) pe_bl rfl)))))) zax)))
  (zag (za3 (pv 1))))),?_⟩
 refine⟨(by show 0≤sizeLine;decide),λfo du re cx=>?_⟩
 have fE:H re=none:=zap (xs:=[]) (Keep.new du) cx (by simp)
 have qh:fo≠re:=zab (o:=_) zac cx
 have k1:Keep [] H (upd (upd H fo (.lst [])) re (.dK [])):=(Keep.new du).trans (Keep.new cx)
 have gk:(upd (upd H fo (.lst [])) re (.dK [])) fo=some (.lst []):=by rw[zad qh];exact zac
 have dP:(upd (upd H fo (.lst [])) re (.dK [])) re=some (.dK []):=zac
 generalize upd (upd H fo (.lst [])) re (.dK [])=H1 at k1 gk dP
 have T1:TAt H1 d es:=T.keep k1 (by simp) (λ_ _=>by simp)
 refine⟨_,rfl,d,_,es.map (·.1),rfl,.inl T1.dc,zgj es,λl ws hl ag bo=>?_⟩
 replace bo:=bo (by rw[Qa];omega)
 have k2:Keep [] H1 (upd H1 l (.lst (ws.map V.str))):=Keep.new hl
 have aq:(upd H1 l (.lst (ws.map V.str))) l=some (.lst (ws.map V.str)):=zac
 have nlf:l≠fo:=Zi (zab gk hl)
 generalize upd H1 l (.lst (ws.map V.str))=H2 at k2 aq
 have jZ:=k2 _ _ gk (by simp)
 have fG:=k2 _ _ dP (by simp)
 have nlr:l≠re:=zbc aq fG (by intro z;cases z)
 have T2:TAt H2 d es:=T1.keep k2 (by simp) (λ_ _=>by simp)
 have oK:Keep [] H H2:=k1.trans k2
 have ndf:d≠fo:=zab T.dc du
 have qi:d≠re:=zab T.dc fE
 have eJ:ws.length=es.length:=by rw[ag.length_eq,Qa]
 refine⟨l,rfl,⟨_,SqL.of aq⟩,zdr (zs:=ws) (λi σ H'=>Aj3 (Ex3 λx3 x4 x5=>σ=[some (.ref d),some (.ref fo),some (.ref re),x3,x4,x5]) (Keep [fo,re] H2 H') (Ex3 λ(as:Nl) (zss:List (List Str)) (ks:Nf)=>Aj8 (H' fo=some (.lst (as.map V.ref))) (H' re=some (.dK (marks ks))) (Paired (zgr H') as zss) (∀zs∈zss,IsPiece (es.map (·.1)) a8 zs) (as.length≤i) ks.Nodup (∀z∈ks,z∈es.map (·.1)) (Aj7 (∀a∈as,a≠fo) (∀y∈ws.take i,y∈ks) (∀y∈ks,∃zs∈zss,y∈zs) (∀zs∈zss,∀y∈zs,y∈ks) (∀zs∈zss,∀x∈zs.head?,x∈ws.take i) (zss.Pairwise λa b=>∀x∈a.head?,∀y∈b.head?,leS x y) (∀zs∈zss,zs.Pairwise leS))))
  ⟨⟨_,_,_,rfl⟩,Keep.refl,[],[],[],jZ,fG,.nil,λzs h=>(by cases h),Zp _,Zt,λz h=>(by cases h),λz h=>(by cases h),λz h=>(by cases h),λz h=>(by cases h),λz h=>(by cases h),λz h=>(by cases h),List.Pairwise.nil,λz h=>(by cases h)⟩ (λi σ H' _ hh=>SqL.of (hh.2 _ _ aq (by simp[nlf,nlr]))) ?_ ?_⟩
 ·rintro i hi σ H3 ⟨⟨x3,x4,x5,rfl⟩,k3,as,zss,ks,ck,cE,dh,fO,tI,im,pd,iy,c1,c2,c6,c3,c4,c5⟩
  have dg:=DGet.k (k:=Sum.inr ws[i]) cE
  have T3:TAt H3 d es:=T2.keep k3 (by simp[ndf,qi]) λe he=>by
   have h1:=T.ro e he
   simp[zab h1 du,zab h1 fE]
  by_cases aB:ws[i]∈ks
  ·rw [valM_in aB] at dg
   refine⟨_,rfl,_,rfl,re,_,rfl,dg,_,rfl,za9 rfl ?_⟩
   refine⟨⟨_,_,_,rfl⟩,k3,as,zss,ks,ck,cE,dh,fO,by exact zar16 ‹_›,im,pd,iy,λy hy=>?_,c2,c6,λzs h x hx=>Ys (i:=i) (by rw[List.take_take,Nat.min_eq_left (Jk i)];exact c3 zs h x hx),c4,c5⟩
   rw[Qo hi]at hy
   rcases Qd.mp hy with h | h
   ·exact c1 y h
   ·rw[Qb.mp h];exact aB
  ·rw [zho aB] at dg
   refine⟨_,rfl,_,rfl,re,_,rfl,dg,_,rfl,zbk rfl ?_⟩
   have gY:=ag.mem_iff.mp (Qp hi)
   refine⟨_,rfl,_,rfl,d,es,cs,a8,ws[i],rfl,T3,cN,C,gY,λp zs H4 aU dy jk cV rD k4=>?_⟩
   obtain⟨jh,rY⟩:∃jh,jh=ks:=⟨_,rfl⟩
   rw[←rY]at cE im pd aB c1 c2 c6
   have ba:=k4 _ _ ck (by simp)
   have fF:=k4 _ _ cE (by simp)
   have npf:p≠fo:=Zi (zab ck rD)
   have npr:p≠re:=zbc aU fF (by intro z;cases z)
   refine⟨_,rfl,.inl ⟨rfl,_,SqL.of ba⟩,_,rfl,fo,_,_,rfl,rfl,ba,(by rw[Qa];lia),?_⟩
   have k5:Keep [fo,re] H2 (upd H4 fo (.lst (as.map V.ref++[.ref p]))):=(k3.trans (k4.sub (by simp))).trans (Keep.wr (by simp))
   have bK:(upd H4 fo (.lst (as.map V.ref++[.ref p]))) fo=some (.lst ((as++[p]).map V.ref)):=by rw[zac,Qs];rfl
   have cc:(upd H4 fo (.lst (as.map V.ref++[.ref p]))) re=some (.dK (marks jh)):=by rw[zad (Zi qh)];exact fF
   have aD:(upd H4 fo (.lst (as.map V.ref++[.ref p]))) p=some (.lst (zs.map V.str)):=by rw[zad npf];exact aU
   have cH:Paired (zgr (upd H4 fo (.lst (as.map V.ref++[.ref p])))) (as++[p]) (zss++[zs]):=by
    refine za1 ?_ (.cons aD .nil)
    have:∀{as:Nl} {zss:List (List Str)},Paired (zgr H3) as zss→(∀a∈as,a≠fo)→Paired (zgr (upd H4 fo (.lst (as.map V.ref++[.ref p])))) as zss:=λ{as zss} r ha=>by
     have h2:∀(L:List V),Paired (zgr (upd H4 fo (.lst L))) as zss:=λL=>by
      induction r with
      |nil=>exact .nil
      |cons h t ih=>exact .cons (by unfold zgr;rw[zad (ha _ List.mem_cons_self)];exact k4 _ _ h (by simp)) (ih λa h=>ha a (List.mem_cons_of_mem _ h))
     exact h2 _
    exact this dh iy
   have nY:∀a∈as++[p],a≠fo:=λa ha=>by
    rcases Qd.mp ha with h | h
    ·exact iy a h
    ·rw[Qb.mp h];exact npf
   generalize upd H4 fo (.lst (as.map V.ref++[.ref p]))=H5 at k5 bK cc aD cH
   refine⟨_,rfl,p,rfl,⟨_,SqL.of aD⟩,zbw (xs:=zs.map V.str) (λj σ H'=>Aj3 (Ex1 λx5=>σ=[some (.ref d),some (.ref fo),some (.ref re),some (.str ws[i]),some (.ref p),x5]) (Keep [re] H5 H') (Ex1 λ(ks:Nf)=>Aj4 (H' re=some (.dK (marks ks))) ks.Nodup (∀z∈ks,z∈es.map (·.1)) (∀z,z∈ks↔z∈jh∨z∈zs.take j)))
    ⟨⟨_,rfl⟩,Keep.refl,jh,cc,im,pd,λz=>⟨.inl,λh=>h.elim id λh=>(by cases h)⟩⟩ (λj σ H' _ hh=>SqL.of (hh.2 _ _ aD (by simpa using npr))) ?_ ?_⟩
   ·rintro j y σ H6 hy ⟨⟨y5,rfl⟩,k6,jg,dO,g8,g9,cJ⟩
    have hj:j<zs.length:=by
     have:=(Ze.mp hy).1
     rwa[Qa]at this
    obtain⟨z,hz,rfl,ez⟩:∃z,z∈zs∧y=V.str z∧z=zs[j]:=by
     rw[Qt,Qc hj]at hy
     exact⟨zs[j],Qp hj,(Qv hy).symm,rfl⟩
    have step:∀q,(q∈jg∨q=z)↔q∈jh∨q∈zs.take (j+1):=λq=>by
     rw[cJ,Qo hj,Qd,Qb,ez,or_assoc]
    have hsz:jg.length≤es.length:=by
     have:=zbj g8 g9
     rwa[Qa]at this
    refine⟨_,rfl,_,rfl,re,_,rfl,DPut.k (k:=Sum.inr z) dO (by unfold marks;rw[List.length_map];lia),⟨_,rfl⟩,k6.trans (Keep.wr (by simp)),?_⟩
    by_cases eI:z∈jg
    ·exact⟨jg,by rw[zac,putM_old eI],g8,g9,λq=>by rw[←step q];exact⟨.inl,λh=>h.elim id λe=>e▸eI⟩⟩
    ·refine ⟨jg++[z],by rw [zac,putM_new eI],?_,fun q hq=>?_,fun q=>by rw [← step q,Qd,Qb]⟩
     ·rw [Za]
      refine⟨g8,Zb.mpr ⟨by simp,Zt⟩,λa ha b hb e=>?_⟩
      rw[Qb.mp hb]at e
      exact eI (e▸ha)
     ·rcases Qd.mp hq with h | h
      ·exact g9 q h
      ·rw[Qb.mp h];exact((cV z).mp hz).1
   ·rintro σ H6 ⟨⟨y5,rfl⟩,k6,jg,dO,g8,g9,cJ⟩
    rw[Qa,Qz (Qg _)]at cJ
    have lS:ws[i]∈zs:=(cV _).mpr ⟨gY,rfl⟩
    have iQ:zs.head?=some ws[i]:=by
     cases qv:zs with
     |nil=>rw[qv]at lS;cases lS
     | cons m t =>
      have hmz:m∈zs:=by rw[qv];exact Qe
      obtain⟨mK,gD⟩:=(cV m).mp hmz
      obtain⟨j,hj,ej⟩:=Zq (ag.mem_iff.mpr mK)
      have h1:leS m ws[i]:=by
       rw[qv]at lS jk
       rcases Qh.mp lS with q | q
       ·rw[q];exact λz=>Wh _ z
       ·exact(List.pairwise_cons.mp jk).1 _ q
      have cZ:i≤j:=Nat.le_of_not_lt λad=>by
       have gE:m∈jh:=c1 m (by rw[←ej,←Uy (j:=i) (h:=by rw[Zn];omega)];exact Qp _)
       obtain⟨gy,l4,rQ⟩:=c2 m gE
       obtain⟨_,s,_,hs⟩:=fO gy l4
       exact aB (c6 gy l4 _ ((hs _).mpr ⟨gY,gD.symm.trans ((hs m).mp rQ).2⟩))
      have h2:leS ws[i] m:=by
       rcases Nat.lt_or_eq_of_le cZ with q | q
       ·rw[←ej];exact Uh.mp bo i j hi hj q
       ·subst q;rw[ej];exact λz=>Wh _ z
      rw[leS_anti _ _ h1 h2];rfl
    have tk:ws.take (i+1)=ws.take i++[ws[i]]:=Qo hi
    refine⟨⟨_,_,_,rfl⟩,k5.trans (k6.sub (by simp)),as++[p],zss++[zs],jg,k6 _ _ bK (by simpa using qh),dO,Paired.imp' (λa zs h=>k6 _ _ h (by simpa using zbc h cc (by intro z;cases z))) cH,λq hq=>?_,by rw[Qj];show _+1≤_;exact zar4 ‹_›,g8,g9,nY,λy hy=>?_,λy hy=>?_,λq hq y hy=>?_,λq hq x hx=>?_,?_,λq hq=>?_⟩
    ·rcases Qd.mp hq with h | h
     ·exact fO q h
     ·rw[Qb.mp h];exact⟨dy,ws[i],gY,cV⟩
    ·rw [tk] at hy
     rcases Qd.mp hy with h | h
     ·exact(cJ y).mpr (.inl (c1 y h))
     ·rw[Qb.mp h];exact(cJ _).mpr (.inr lS)
    ·rcases (cJ y).mp hy with h | h
     ·obtain ⟨z,hz,lN⟩:=c2 y h
      exact⟨z,Qn _ hz,lN⟩
     ·exact⟨zs,Qk _ Qe,h⟩
    ·rcases Qd.mp hq with h | h
     ·exact(cJ y).mpr (.inl (c6 q h y hy))
     ·rw[Qb.mp h]at hy;exact(cJ y).mpr (.inr hy)
    ·rw [tk]
     rcases Qd.mp hq with h | h
     ·exact Qn _ (c3 q h x hx)
     ·rw [Qb.mp h,iQ] at hx
      rw[←Qv hx];exact Qk _ Qe
    ·rw [List.pairwise_append]
     refine⟨c4,Yz _ _,λa ha b hb x hx y hy=>?_⟩
     rw[Qb.mp hb,iQ]at hy
     rw[←Qv hy]
     obtain⟨j,hj,ej⟩:=Zq (c3 a ha x hx)
     rw[Zn]at hj
     rw[←ej,Uy]
     exact Uh.mp bo j i (by omega) hi (by omega)
    ·rcases Qd.mp hq with h | h
     ·exact c5 q h
     ·rw[Qb.mp h];exact jk
 ·rintro σ H3 ⟨⟨x3,x4,x5,rfl⟩,k3,as,zss,ks,ck,cE,dh,fO,tI,im,pd,iy,c1,c2,c6,c3,c4,c5⟩
  rw[Qa,Qz (Qg _)]at c1
  refine⟨_,rfl,k fo as zss H3 ck dh fO ⟨c5,c4,λy hy=>c2 y (c1 y (ag.mem_iff.mpr hy))⟩ λc u ec _=>k3 c u (oK c u ec (by simp)) (by simp[zab ec du,zab ec fE])⟩
end
end K21
end
section
namespace L2
open PySem
def lc_filt(T:St→Prop)(q:V→Bool)(ha:SqL K H a xs)(hn:xs.length≤sizeLine)(h0:T τ)(hs:∀x∈xs,∀τ,T τ→∀(k1:V→St→Hp→Prop) (k0:St→Hp→Prop),(q x=true→∀τ2,T τ2→k1 x τ2 H)→(q x=false→∀τ2,T τ2→k0 τ2 H)→g x τ H λ τ2 H2=>tc τ2 H2 λb H3=>if b=true then te τ2 H3 λy H4=>k1 y τ2 H4 else k0 τ2 H3)(hq:∀D,H D=none→Q (.ref D) (upd H D (.lst (xs.filter q)))):rLC g tc te Q (Itl K a) τ H:=by
 refine⟨λi m ys τ H1=>Aj5 (H1=H) (T τ) (m=xs.length-i) (i≤xs.length) (ys=(xs.take i).filter q),⟨_,rfl,h0,rfl,Zp _,rfl⟩,?_⟩
 rintro i m ys τ H1 ⟨rfl,ht,rfl,hi,rfl⟩
 by_cases ad:i<xs.length
 ·have dE:((xs.take i).filter q).length≤i:=Zk (Xl _ _) (by rw [Zn];lia)
  refine .inr ⟨⟨xs,xs[i],ha,Qc ad⟩,by lia,?_⟩
  rintro x H' ⟨rfl,hx⟩
  have bE:=hx xs ha
  rw[Qc ad]at bE
  have eV:xs[i]=x:=Qv bE
  have dz:xs.take (i+1)=xs.take i++[x]:=by rw[Qo ad,eV]
  refine hs x (eV▸Qp ad) τ ht (λy τ2 H4=>∃m',m'<xs.length-i∧Aj5 (H4=H') (T τ2) (m'=xs.length-(i+1)) (i+1≤xs.length) ((xs.take i).filter q++[y]=(xs.take (i+1)).filter q))
   (λ τ2 H4=>∃m',m'<xs.length-i∧Aj5 (H4=H') (T τ2) (m'=xs.length-(i+1)) (i+1≤xs.length) ((xs.take i).filter q=(xs.take (i+1)).filter q)) (λrh τ2 h2=>?_) λrh τ2 h2=>?_
  ·exact⟨_,by exact zar1 ‹_›,rfl,h2,rfl,ad,by rw[dz,Wq,Yj rh,Xf]⟩
  ·exact⟨_,by exact zar1 ‹_›,rfl,h2,rfl,ad,by rw[dz,Wq,Yl (by rw[rh];decide),Xf,Zw]⟩
 ·have e:i=xs.length:=by exact zar3 ‹_› ‹_›
  subst e
  refine .inl ⟨⟨xs,ha,Qg _⟩,λD hD=>?_⟩
  rw[Qz (Qg _)]
  exact hq D hD
end L2
namespace K21
open PySem L2 Wb
def sum_filter{α:Type}{p:α→Bool}{f:α→Int}:∀l:List α,(l.map λx=>if p x=true then f x else 0).sum=((l.filter p).map f).sum:=by
 intro l
 induction l with
 |nil=>rfl
 |cons a t ih =>
  rw[Ql,Yb,ih]
  by_cases h:p a=true
  ·rw[if_pos h,Yj h,Ql,Yb]
  ·rw[if_neg h,Yl h];lia
def sum_parts{α:Type}{f:α→List Str}:∀l:List α,(l.map λx=>(2:Int)+(if f x=[] then 2 else 0)-((f x).length:Int)).sum=2*(l.length:Int)+2*((l.filter λx=>(f x).isEmpty).length:Int)-(((l.map λx=>(f x).length).sum:Nat):Int):=by
 intro l
 induction l with
 |nil=>rfl
 |cons a t ih =>
  rw[Ql,Yb,ih,Ql,Yb,Zf]
  by_cases h:f a=[]
  ·rw[Yj (by rw[h];rfl),Zf,if_pos h];lia
  ·rw[Yl (by rw[List.isEmpty_iff];exact h),if_neg h];lia
def sum_twos{α:Type}{p:α→Bool}:∀l:List α,(l.map λx=>if p x=true then(2:Int) else 0).sum=2*((l.filter p).length:Int):=by
 intro l
 induction l with
 |nil=>rfl
 |cons a t ih =>
  rw[Ql,Yb,ih]
  by_cases h:p a=true
  ·rw[if_pos h,Yj h,Zf];lia
  ·rw[if_neg h,Yl h];lia
def iso_eq{es:List Ent}(nd:(es.map (·.1)).Nodup):ze3 es=(es.map (·.1)).filter λx=>(row (rsOf es) x).isEmpty:=by
 unfold ze3
 rw[List.filter_map]
 congr 1
 exact List.filter_congr λe he=>by
  show e.2.1.isEmpty=(row (rsOf es) e.1).isEmpty
  rw[zcn nd he]
def piece_count{es:List Ent}{cs bi:List (List (Str×Str))}{a8:Nw}(C:Cert (es.map (·.1)) (row (rsOf es)) cs a8){zs hd hc:Nf}(hz:IsPiece (es.map (·.1)) a8 zs)(hh:hd.Perm (ze3 es++hc))(nQ:bi.Perm cs)(hp:Paired (fun h c=>∃ s∈c,s.1=h) hc bi) :
  2*zs.length+2*(hd.filter λh=>decide (h∈zs)).length=(zs.map λx=>(row (rsOf es) x).length).sum+4:=by
 obtain⟨dy,s,hs,cV⟩:=hz
 have heu:=C.eu s hs
 have p1:((es.map (·.1)).filter λx=>decide (a8 x=a8 s)).Perm zs:=(List.perm_ext_iff_of_nodup (Ue Ka C.nd) dy).mpr λy=>by
  rw[Ui,decide_eq_true_iff,cV]
 have e1:wt (es.map (·.1)) (row (rsOf es)) a8 (a8 s)=2*(zs.length:Int)+2*((zs.filter λx=>(row (rsOf es) x).isEmpty).length:Int)-(((zs.map λx=>(row (rsOf es) x).length).sum:Nat):Int):=by
  unfold wt
  have:=sum_filter (p:=λx=>decide (a8 x=a8 s)) (f:=λx=>(2:Int)+(if row (rsOf es) x=[] then 2 else 0)-((row (rsOf es) x).length:Int)) (es.map (·.1))
  simp only[decide_eq_true_eq]at this
  rw[this,zh4 (p1.map _),sum_parts]
 have e2:ct cs a8 (a8 s)=2*((cs.filter λc=>c.any λu=>decide (a8 u.1=a8 s)).length:Int):=sum_twos _
 have e3:(hd.filter λh=>decide (h∈zs)).length=((ze3 es).filter λh=>decide (h∈zs)).length+(hc.filter λh=>decide (h∈zs)).length:=by
  rw[(hh.filter _).length_eq,Wq,Qj]
 have e4:((ze3 es).filter λh=>decide (h∈zs)).length=(zs.filter λx=>(row (rsOf es) x).isEmpty).length:=by
  refine List.Perm.length_eq ((List.perm_ext_iff_of_nodup ?_ (Ue Ka dy)).mpr λy=>?_)
  ·rw [iso_eq C.nd]
   exact Ue Ka (Ue Ka C.nd)
  ·rw [iso_eq C.nd,Ui,Ui,Ui,decide_eq_true_iff]
   exact⟨λ⟨⟨_,a⟩,b⟩=>⟨b,a⟩,λ⟨a,b⟩=>⟨⟨((cV y).mp a).1,b⟩,a⟩⟩
 have e5:(hc.filter λh=>decide (h∈zs)).length=(bi.filter λc=>c.any λu=>decide (a8 u.1=a8 s)).length:=by
  have aB:∀c∈bi,c∈cs:=λc h=>nQ.mem_iff.mp h
  clear nQ e3 e4 hh
  induction hp with
  |nil=>rfl
  | cons h t ih =>
   rename_i h0 c0 _ _
   have iht:=ih λc hc=>aB c (Qi _ hc)
   obtain⟨u,hu,rfl⟩:=h
   have iU:=aB c0 Qe
   have hun:u.1∈es.map (·.1):=C.inn' (C.inc iU hu)
   by_cases hz:u.1∈zs
   ·have hl:=((cV _).mp hz).2
    have tK:(c0.any λu=>decide (a8 u.1=a8 s))=true:=Yw.mpr ⟨u,hu,decide_eq_true hl⟩
    rw[Yj (by simpa using hz),Yj (p:=λc:List (Str×Str)=>c.any λu=>decide (a8 u.1=a8 s)) tK,Zf,Zf,iht]
   ·rw [Yl (by simpa using hz),Yl,iht]
    intro q
    obtain⟨v,hv,e⟩:=Yw.mp q
    exact hz ((cV _).mpr ⟨hun,(C.one_lab iU hv hu).trans (of_decide_eq_true e)⟩)
 have e6:=(nQ.filter λc=>c.any λu=>decide (a8 u.1=a8 s)).length_eq
 lia
def ix_listK(hK:X.K=K):IxR X (rIxL K):=hK▸zao
def zg9(hK:X.K=K):OpR X (compareOp .In) (rIn K false):=hK▸op_in_seq
def zir(hK:X.K=K):zb2 X (.builtin "len") (λxs H Q=>Ex2 λp ys=>Aj3 (xs=[.ref p]) (SqL K H p ys∨SqT K H p ys) (Q (.int ys.length) H)):=hK▸zal
abbrev zgu:Stmt:=top 26
inductive IspFlat(vs:List V)(H:Hp)(Q:VK):Prop
 |mk (d:Nd) (es:List Ent) (cs:List (List (Str×Str))) (a8:Nw) (h0:vs=[.ref d]) (h1:TAt H d es) (h2:es.length≤60) (h3:(∀e∈es,e.2.1.length≤100)) (h4:Cert (es.map (·.1)) (row (rsOf es)) cs a8) (h5:∀H',Keep [] H H'→Q .non H'):IspFlat vs H Q
def spFlat:Sp:=λvs H Q _=>IspFlat vs H Q
abbrev csFlA:Scope:=scOf (aOf 0 (aOf 0 (eOf (bAt (sAt zgu 1) 1))))
abbrev csFlB:Scope:=scOf (aOf 0 (eOf (bAt (sAt zgu 1) 2)))
def csFlA_k:csFlA.kind=.function:=by rfl
def csFlA_c:∀y∈csFlA.names,y.2≠.cell:=by decide +kernel
def csFlA_n:∀y∈csFlA.names,y.2=.local→csFlA.names.lookup y.1=some .local:=by decide +kernel
def csFlA_f:∀y∈csFlA.names,y.2=.free→(zah zgu).names.lookup y.1=some .cell∨(zah zgu).names.lookup y.1=some .free:=by decide +kernel
def csFlA_l:csFlA.names.lookup ("rounds" : Str)=some NameKind.free:=by decide +kernel
def csFlB_k:csFlB.kind=.function:=by rfl
def csFlB_c:∀y∈csFlB.names,y.2≠.cell:=by decide +kernel
def csFlB_n:∀y∈csFlB.names,y.2=.local→csFlB.names.lookup y.1=some .local:=by decide +kernel
def csFlB_f:∀y∈csFlB.names,y.2=.free→(zah zgu).names.lookup y.1=some .cell∨(zah zgu).names.lookup y.1=some .free:=by decide +kernel
def csFlB_l:csFlB.names.lookup ("piece" : Str)=some NameKind.free:=by decide +kernel
def ndFB:(["face", "piece"]:List Str).Nodup:=by decide +kernel
def inPc(H:Hp)(zs:Nf):V→Bool
 |.ref a=>match H a with
  |some (.lst (.str h::_))=>decide (h∈zs)
  |_=>false
 |_=>false
def inPc_ref(e:zde H a h):inPc H zs (.ref a)=decide (h∈zs):=by
 obtain⟨t,e⟩:=e
 show(match H a with | some (.lst (.str h::_))=>decide (h∈zs) | _=>false)=_
 rw[e];rfl
def filt_len(r:Paired (zde H) as hd):((as.map V.ref).filter (inPc H zs)).length=(hd.filter λh=>decide (h∈zs)).length:=by
 induction r with
 |nil=>rfl
 |cons h t ih =>
  rename_i a b _ _
  rw[Ql]
  have e:=inPc_ref (zs:=zs) h
  by_cases hz:b∈zs
  ·rw[Yj (by rw[e];simpa using hz),Yj (by simpa using hz),Zf,Zf,ih]
  ·rw[Yl (by rw[e];simpa using hz),Yl (by simpa using hz),ih]
def sum_cast(ns:List Nat):(ns.map λn:Nat=>(n:Int)).sum=((ns.sum:Nat):Int):=by
 induction ns with
 |nil=>rfl
 |cons a t ih=>rw[Ql,Yb,Yb,ih];lia
section
variable{P:Nj}{w:Nk}{K:Nb}{mg:Ng}{base:Nm}
def zg5:zan ["rounds", "found", "piece", "many_places", "many_ties", "many_faces"] ["rounds"] (zah zgu):=fsk
def ok_flat(F:Fun K "refuse_not_flat" "refuse_not_flat" zgu f fd)(FF:Fun K "faces_of" "faces_of" zfh ff fdf)(bF:Binds K fdf ["rounds"] [])(mF:mg "faces_of" = some (.ref ff))(GF:FnOk P w K mg base CX0 2 ff fdf ["rounds"] spFaces)(FP:Fun K "pieces_of" "pieces_of" zhw fp fdp)(bP:Binds K fdp ["rounds"] [])(mP:mg "pieces_of" = some (.ref fp))(GP:FnOk P w K mg base CX0 2 fp fdp ["rounds"] spPieces)(aa:mg "len" = none)(qU:mg "sum" = none):FnOk P w K mg base CX0 3 f fd ["rounds"] spFlat:=by
 refine F.okL zg5 (λcdv A outer s H vs Q E hr h=>?_)
 obtain⟨d,es,cs,a8,rfl,T,cN,bH,C,k⟩:=h
 have hu:=zb4 hr
 have aE  := sizeLine_eq
 refine⟨_,zae (zar 1 zg5.nd (zak GF hr rfl mF FF.kp bF .nil zau (zaa (pv 0) zaf)))
  (zag (zbg Zd rfl (za6 (zak GP hr rfl mP FP.kp bP .nil zau (zaa (pv 0) zaf))) (zez (i:=2) zg5.nd rfl (Or.inr rfl))
   (zae (zar 3 zg5.nd (zaj zal (by rfl) aa Zo (zaa (pv 2) zaf)))
   (zae (zar 4 zg5.nd (zas zga (zaj (call_sum rfl) (by rfl) qU PyProof.Rows.boot_sum (zaa (pe_lc (M:=["place", "rounds"]) (ix:=[none,some 0]) ⟨csFlA_k,csFlA_c,csFlA_n,csFlA_f,rfl,by decide +kernel,λj i x h1 h2=>by
      match j,h1,h2 with
      |0,_,h2=>cases h2
      |1,h1,h2=>cases h1;cases h2;exact⟨rfl,csFlA_l⟩
      |n+2,h1,_=>cases h1⟩ rfl (za6 (pv 2)) (λC a6 ex s H=>zbe 0 ndF) (λC a6 ex s H=>zd0)
      (λC a6 ex s H=>zaj (zir (K:=K) rfl) (by rfl) (by exact aa) Zo (zaa (zd2 (by exact hu) (pv 1) (pv 0)) zaf))) zaf)) zai))
   (zae (zar 5 zg5.nd (zaj zal (by rfl) aa Zo (zaa (pe_lc (M:=["face", "piece"]) (ix:=[none,some 2]) ⟨csFlB_k,csFlB_c,csFlB_n,csFlB_f,rfl,by decide +kernel,λj i x h1 h2=>by
      match j,h1,h2 with
      |0,_,h2=>cases h2
      |1,h1,h2=>cases h1;cases h2;exact⟨rfl,csFlB_l⟩
      |n+2,h1,_=>cases h1⟩ rfl (za6 (pv 1)) (λC a6 ex s H=>zbe 0 ndFB)
      (λC a6 ex s H=>zh1 (za2 (zg9 (K:=K) rfl) (za0 (ix_listK (K:=K) rfl) (pv 0) zai (λ_ _=>rfl)) (pv 1) rfl)) (λC a6 ex s H=>pv 0)) zaf)))
   (zag (zb1 (za2 op_ne (zas zb0 (pv 3) (pv 5)) (zas zb0 (pv 4) zai) (zbt _)) (zag zf6) zax)))))))  ,?_⟩
 refine⟨_,rfl,d,es,cs,a8,rfl,T,cN,bH,C,λfo fas hd hc bi H1 gk hfal hhd hhp nQ eS k1=>?_⟩
 have T1:TAt H1 d es:=T.keep k1 (by simp) (λ_ _=>by simp)
 refine⟨_,rfl,d,es,cs,a8,rfl,T1,cN,C,λl as zss H2 aq aL fO _ k2=>?_⟩
 have T2:TAt H2 d es:=T1.keep k2 (by simp) (λ_ _=>by simp)
 have jZ:=k2 _ _ gk (by simp)
 have ss:Paired (zde H2) fas hd:=zc1 (D:=d) (g:=d) k2 hhd (λ_ _ _ _=>by simp)
 refine⟨l,rfl,⟨_,SqL.of aq⟩,zbw (xs:=as.map V.ref) (λi σ H'=>Aj2 (Keep [] H2 H') (Ex4 λx2 x3 x4 x5=>σ=[some (.ref d),some (.ref fo),x2,x3,x4,x5])) ⟨Keep.refl,_,_,_,_,rfl⟩ (λi σ H' _ hh=>SqL.of (hh.1 _ _ aq (by simp))) ?_ ?_⟩
 ·rintro i y σ H3 hx ⟨k3,x2,x3,x4,x5,rfl⟩
  have hi:i<as.length:=by
   have:=(Ze.mp hx).1
   rwa[Qa]at this
  have jm:y=.ref as[i]:=by
   rw[Qt,Qc hi]at hx
   exact(Qv hx).symm
  subst jm
  obtain⟨ay,cu⟩:=zbh aL hi
  have oW:=fO _ (Qp ay)
  have kl:=piece_count C oW hhp nQ eS
  generalize zss[i]=zs at cu oW kl
  have iA:H3 as[i]=some (.lst (zs.map V.str)):=k3 _ _ cu (by simp)
  have jl:∀z∈zs,∃e∈es,e.1=z:=λz hz=>by
   obtain⟨_,s,_,hm⟩:=oW
   exact Qm.mp ((hm z).mp hz).1
  have eG:zs.length≤100:=by
   have:=zbj oW.1 (m:=es.map (·.1)) λz hz=>by
    obtain⟨e,he,rfl⟩:=jl z hz
    exact Qm.mpr ⟨e,he,rfl⟩
   rw[Qa]at this
   omega
  refine⟨_,rfl,as[i],_,rfl,.inl (SqL.of iA),?_⟩
  have T3:TAt H3 d es:=T2.keep k3 (by simp) (λ_ _=>by simp)
  refine⟨_,rfl,as[i],rfl,⟨_,SqL.of iA⟩,lc_at (xs:=zs.map V.str) (λ τ=>∃x0,τ=[x0,some (.ref d)]) ((zs.map λx=>((row (rsOf es) x).length:Int)).map V.int) (by rw[Qa,Qa,Qa]) (SqL.of iA) (by rw[Qa];lia) ⟨none,rfl⟩ ?_ (λD hD=>?_)⟩
  ·rintro j hj lm τ ⟨x0,rfl⟩ kk hk
   rw[Qa]at hj
   rw[Zu]
   obtain⟨en,bh,dC⟩:=jl _ (Qp hj)
   have dg:DGet H3 d (.str zs[j]) (some (.ref en.2.2)):=by
    have:=DGet.k (k:=Sum.inr en.1) T3.dc
    rw[zds T3.nd bh,dC]at this
    exact this
   refine⟨_,rfl,_,rfl,d,_,rfl,dg,en.2.2,_,rfl,.inr (SqT.of (T3.ro en bh)),?_⟩
   have e:((zs.map λx=>((row (rsOf es) x).length:Int)).map V.int)[j]=V.int ((en.2.1.map V.str).length:Int):=by
    rw[Zu,Zu,←dC,zcn T3.nd bh,Qa]
   rw[e]at hk
   exact hk _ ⟨_,rfl⟩
  ·have k4:Keep [] H3 (upd H3 D (.lst ((zs.map fun x=>((row (rsOf es) x).length:Int)).map V.int))):=Keep.new hD
   have hD4:(upd H3 D (.lst ((zs.map λx=>((row (rsOf es) x).length:Int)).map V.int))) D=some (.lst ((zs.map λx=>((row (rsOf es) x).length:Int)).map V.int)):=zac
   generalize upd H3 D (.lst ((zs.map λx=>((row (rsOf es) x).length:Int)).map V.int))=H4 at k4 hD4
   refine⟨D,_,rfl,SqL.of hD4,by rw[Qa];lia,λn hn=>?_,?_⟩
   ·obtain ⟨z,hz,rfl⟩:=Qm.mp hn
    obtain⟨en,bh,dC⟩:=jl z hz
    have h1:=bH en bh
    rw[←dC,zcn T3.nd bh]
    lia
   ·have md:(zs.map fun x=>((row (rsOf es) x).length:Int)).sum=(((zs.map fun x=>(row (rsOf es) x).length).sum:Nat):Int):=by
     rw[←sum_cast,Zr];rfl
    rw[md]
    refine⟨_,_,rfl,rfl,⟨by decide,by decide⟩,?_⟩
    have ba:=k4 _ _ (k3 _ _ jZ (by simp)) (by simp)
    have tM:=k4 _ _ iA (by simp)
    have nv:Paired (zde H4) fas hd:=zc1 (D:=d) (g:=d) (k3.trans k4) ss (λ_ _ _ _=>by simp)
    refine⟨_,rfl,fo,rfl,⟨_,SqL.of ba⟩,lc_filt (xs:=fas.map V.ref) (λ τ=>∃x0,τ=[x0,some (.ref as[i])]) (inPc H4 zs) (SqL.of ba) (by rw[Qa];lia) ⟨none,rfl⟩ ?_ (λD2 iZ=>?_)⟩
    ·rintro x hx τ ⟨x0,rfl⟩ kk1 kk0 rZ sd
     obtain⟨a,ha,rfl⟩:=Qm.mp hx
     obtain⟨j,hj,rfl⟩:=Zq ha
     obtain⟨pf,d7⟩:=zbh nv hj
     have aB:=inPc_ref (zs:=zs) d7
     obtain⟨t,et⟩:=d7
     refine⟨_,rfl,fas[j],_,_,_,rfl,rfl,SqL.of et,zav (j:=0) rfl,_,rfl,as[i],_,rfl,.inl (SqL.of tM),rfl,zcg zs,_,rfl,?_⟩
     cases hb:decide (hd[j]∈zs) with
     |true=>exact zbk (show inV _ _=true by rw[zd6];exact hb) ⟨_,rfl,rZ (aB.trans hb) _ ⟨_,rfl⟩⟩
     |false=>exact za9 (show inV _ _=false by rw[zd6];exact hb) (sd (aB.trans hb) _ ⟨_,rfl⟩)
    ·have k5:Keep [] H4 (upd H4 D2 (.lst ((fas.map V.ref).filter (inPc H4 zs)))):=Keep.new iZ
     refine⟨D2,_,rfl,.inl (SqL.of zac),?_⟩
     rw[filt_len nv]
     refine⟨_,rfl,_,rfl,_,_,rfl,rfl,_,rfl,_,_,rfl,rfl,rfl,_,rfl,za9 ?_ ?_⟩
     ·rw [Bool.not_eq_false',decide_eq_true_iff]
      refine congrArg V.int ?_
      rw[Qa]
      lia
     ·exact⟨(k3.trans k4).trans k5,_,_,_,_,rfl⟩
 ·rintro σ H3 ⟨k3,x2,x3,x4,x5,rfl⟩
  exact k H3 ((k1.trans k2).trans k3)
end
end K21
end
section
namespace K21
open PySem L2 Wb
abbrev sInit:Stmt:=inClass sWeb 0
abbrev Turned:List Ent→List Ent→Prop:=Paired λt e=>t.1=e.1∧∃k,t.2.1=e.2.1.drop k++e.2.1.take k
inductive IspInit(C:Nd)(vs:List V)(H:Hp)(Q:VK):Prop
 |mk (x dx l:Nd) (as:Nl) (es:List Ent) (cs:List (List (Str×Str))) (a8:Nw) (h0:vs=[.ref x,.ref l]) (h1:H x=some (.ins C dx [])) (h2:RwAt H l as es) (h3:es.length≤40) (h4:(∀e∈es,zdd e.1)) (h5:Cert (es.map (·.1)) (row (rsOf es)) cs a8) (h6:∀(d:Addr) (ts es2:List Ent) (H':Hp),WAt H' C x dx d ts→es2.Perm es→Turned ts es2→Keep [x] H H'→Q .non H'):IspInit C vs H Q
def spInit(C:Nd):Sp:=λvs H Q _=>IspInit C vs H Q
def zcc(h:Turned ts es):ts.map (·.1)=es.map (·.1):=by
 induction h with
 |nil=>rfl
 |cons h t ih=>rw[Ql,Ql,h.1,ih]
def zg3(h:Turned ts es)(ht:t∈ts):∃e∈es,t.1=e.1∧∃k,t.2.1=e.2.1.drop k++e.2.1.take k:=by
 induction h with
 |nil=>cases ht
 | cons h _ ih =>
  rcases Qh.mp ht with z | z
  ·subst z;exact⟨_,Qe,h⟩
  ·obtain ⟨e,he,r⟩:=ih z
   exact⟨e,Qi _ he,r⟩
def zet(h:Turned ts es2)(hp:es2.Perm es)(nd:(es.map (·.1)).Nodup):∀x,∃k,row (rsOf ts) x=(row (rsOf es) x).drop k++(row (rsOf es) x).take k:=λx=>by
 have kT:(ts.map (·.1)).Nodup:=by rw[zcc h];exact(hp.map _).nodup_iff.mpr nd
 by_cases hx:x∈ts.map (·.1)
 ·obtain ⟨t,ht,rfl⟩:=Qm.mp hx
  obtain⟨e,he,e1,k,e2⟩:=zg3 h ht
  refine⟨k,?_⟩
  rw[zcn kT ht,e1,zcn nd (hp.mem_iff.mp he),e2]
 ·refine ⟨0,?_⟩
  have oO:x∉es.map (·.1):=λz=>hx (by rw[zcc h];exact(hp.map _).mem_iff.mpr z)
  have n1:x∉(rsOf ts).map (·.1):=by unfold rsOf;rw[List.map_map];exact hx
  have n2:x∉(rsOf es).map (·.1):=by unfold rsOf;rw[List.map_map];exact oO
  rw[zex n1,zex n2];rfl
abbrev csInit:Scope:=scOf (eOf (sAt sInit 3))
def csInit_k:csInit.kind=.function:=by rfl
def csInit_c:∀y∈csInit.names,y.2≠.cell:=by decide +kernel
def csInit_n:∀y∈csInit.names,y.2=.local→csInit.names.lookup y.1=some .local:=by decide +kernel
def csInit_f:∀y∈csInit.names,y.2=.free→(zah sInit).names.lookup y.1=some .cell∨(zah sInit).names.lookup y.1=some .free:=by decide +kernel
section
variable{P:Nj}{w:Nk}{K:Nb}{mg:Ng}{base:Nm}
def scInit:zan ["self", "rows", "rounds"] ["self", "rows"] (zah sInit):=fsk
def ok_init(F:Fun K "__init__" "Web.__init__" sInit f fd)(cW:Cls K C)(nW:zc3 K C "rounds")(FN:Fun K "refuse_no_names" "refuse_no_names" zfs fn fdn)(bN:Binds K fdn ["rows"] [])(mN:mg "refuse_no_names" = some (.ref fn))(GN:FnOk P w K mg base CX0 2 fn fdn ["rows"] spNoNames)(FT:Fun K "refuse_twice" "refuse_twice" zdt ft fdt)(bT:Binds K fdt ["rows"] [])(mT:mg "refuse_twice" = some (.ref ft))(GT:FnOk P w K mg base CX0 1 ft fdt ["rows"] spTwice)(FO:Fun K "refuse_one_way" "refuse_one_way" zhx fo fdo)(bO:Binds K fdo ["rows"] [])(mO:mg "refuse_one_way" = some (.ref fo))(GO:FnOk P w K mg base CX0 1 fo fdo ["rows"] spOneWay)(FL:Fun K "from_least" "from_least" sLeast fl fdl)(bL:Binds K fdl ["around"] [])(mL:mg "from_least" = some (.ref fl))(GL:FnOk P w K mg base CX0 1 fl fdl ["around"] spLeast)(FF:Fun K "refuse_not_flat" "refuse_not_flat" zgu ff fdf)(bF:Binds K fdf ["rounds"] [])(mF:mg "refuse_not_flat" = some (.ref ff))(GF:FnOk P w K mg base CX0 3 ff fdf ["rounds"] spFlat)(av:mg "sorted" = none):FnOk P w K mg base CX0 4 f fd ["self", "rows"] (spInit C):=by
 refine F.okL scInit (λcdv A outer s H vs Q E hr h=>?_)
 obtain⟨x,dx,l,as,es,cs,a8,rfl,hx,R,cN,hok,Ct,k⟩:=h
 have hu:=zb4 hr
 have aT:Room 1 _:=hr.mono (by decide)
 have dB:Room 2 _:=hr.mono (by decide)
 have aE  := sizeLine_eq
 refine⟨_,zae (zay (zak GN dB rfl mN FN.kp bN .nil zau (zaa (pv 1) zaf)))
  (zae (zay (zak GT aT rfl mT FT.kp bT .nil zau (zaa (pv 1) zaf)))
  (zae (zay (zak GO aT rfl mO FO.kp bO .nil zau (zaa (pv 1) zaf)))
  (zae (ps_dc (i:=2) (M:=["place", "around"]) (ix:=[none,none]) scInit.nd rfl rfl (noB (n:=2) csInit_k csInit_c csInit_n csInit_f rfl ndPA) rfl
    (za6 (zaj zfm (by rfl) av Yp (zaa (pv 1) zaf)))
    (λC a6 ex s H=>pg_tupK (K:=K) (n:=2) rfl rfl (zba (zbe 0 ndPA) (zba (zbe 1 ndPA) zc4)))
    (λC a6 ex s H=>zd0) (λC a6 ex s H=>pv 0) (λC a6 ex s H=>zak GL (by exact aT) rfl (by exact mL) FL.kp bL .nil zau (zaa (pv 1) zaf)) rfl)
  (zae (zay (zak GF hr rfl mF FF.kp bF .nil zau (zaa (pv 2) zaf)))
  (zag (ps_fld (pv 0) (pv 2) rfl)))))),?_⟩
 have aA:(es.map (·.1)).Nodup:=Ct.nd
 have ai:∀e∈es,row (rsOf es) e.1=e.2.1:=λe he=>zcn aA he
 have hrn:∀e∈es,e.2.1.Nodup:=λe he=>ai e he▸Ct.rn e.1
 have fA:∀e∈es,∀y∈e.2.1,y∈es.map (·.1):=λe he y hy=>Ct.inn' (x:=e.1) (by rw[ai e he];exact hy)
 have bH:∀e∈es,e.2.1.length≤40:=λe he=>by
  have:=zbj (hrn e he) (fA e he)
  rw[Qa]at this
  exact Zk ‹_› ‹_›
 refine⟨_,rfl,l,as,es,rfl,R,λe he=>⟨Zk (bH e he) (by decide),hok e he,λy hy=>?_⟩,λH1 k1=>?_⟩
 ·obtain ⟨e',dY,rfl⟩:=Qm.mp (fA e he y hy)
  exact hok e' dY
 have R1:=R.keep k1
 refine⟨_,rfl,l,as,es,rfl,R1,by lia,aA,λe he=>⟨Zk (bH e he) (by decide),hrn e he⟩,λH2 k2=>?_⟩
 have R2:=R1.keep k2
 refine⟨_,rfl,l,as,es,rfl,R2,aA,λe he=>⟨?_,λy hy=>?_⟩,λH3 k3=>?_⟩
 ·rw[←ai e he];exact Ct.ir e.1
 ·obtain ⟨e',dY,c9⟩:=Qm.mp (fA e he y hy)
  have lP:e'.1=y:=c9
  refine⟨e',dY,lP,?_⟩
  rw[←ai e' dY,lP]
  exact Ct.sy e.1 y (by rw[ai e he];exact hy)
 have R3:=R2.keep k3
 have k03:Keep [] H H3:=(k1.trans k2).trans k3
 have e7:as.length=es.length:=Yf R3.ts
 refine⟨_,rfl,l,_,rfl,SqL.of R3.ls,λv hv=>?_,λv hv u hu e=>?_,λl2 wsV aq ag bo=>?_⟩
 ·obtain ⟨a,ha,rfl⟩:=Qm.mp hv
  obtain⟨i,hi,rfl⟩:=Zq ha
  obtain⟨ay,h⟩:=zbh R3.ts hi
  exact⟨_,_,_,rfl,h⟩
 ·obtain ⟨a,ha,rfl⟩:=Qm.mp hv
  obtain⟨b,hb,rfl⟩:=Qm.mp hu
  obtain⟨i,hi,rfl⟩:=Zq ha
  obtain⟨j,hj,rfl⟩:=Zq hb
  obtain⟨ay,h1⟩:=zbh R3.ts hi
  obtain⟨pf,h2⟩:=zbh R3.ts hj
  rw[zeg h1,zeg h2]at e
  have e':es[i].1=es[j].1:=by
   have q:es[i].1.cps.toList=es[j].1.cps.toList:=e
   generalize es[i].1=a1 at q ⊢
   generalize es[j].1=a2 at q ⊢
   cases a1;cases a2
   congr 1
   exact Xa.mp q
  have e2:(es.map (·.1))[i]'(by rw[Qa];exact ay)=(es.map (·.1))[j]'(by rw[Qa];exact pf):=by rw[Zu,Zu];exact e'
  have:=(We aA).mp e2
  subst this
  rfl
 ·obtain ⟨gS,rfl,aG⟩:=refs_perm ag
  obtain⟨es2,fM,qD⟩:=zd3 aG R3.ts
  have k4:Keep [] H3 (upd H3 l2 (.lst (gS.map V.ref))):=Keep.new aq
  have iO:(upd H3 l2 (.lst (gS.map V.ref))) l2=some (.lst (gS.map V.ref)):=zac
  generalize upd H3 l2 (.lst (gS.map V.ref))=H4 at k4 iO
  have lY:Paired (λa (e:Ent)=>H4 a=some (.tup [.str e.1,.ref e.2.2])) gS es2:=Paired.imp' (λ_ _ h=>k4 _ _ h (by simp)) qD
  have r8:∀e∈es2,H4 e.2.2=some (.lst (e.2.1.map V.str)):=λe he=>k4 _ _ (R3.ro e (fM.mem_iff.mp he)) (by simp)
  have mH:(es2.map (·.1)).Nodup:=(fM.map _).nodup_iff.mpr aA
  have tL:gS.length=es2.length:=Yf lY
  have hel2:es2.length=es.length:=fM.length_eq
  refine⟨l2,rfl,⟨_,SqL.of iO⟩,λi m ys τ H'=>Aj5 (m=es2.length-i) (i≤es2.length) (Ex2 λx0 x1=>τ=[x0,x1]) (Keep [] H4 H') (Ex1 λ(ts:List Ent)=>Aj3 (ys=(ts.map λe=>((Sum.inr e.1:Key),V.ref e.2.2))) (∀e∈ts,H' e.2.2=some (.tup (e.2.1.map V.str))) (Turned ts (es2.take i))),
   ⟨es2.length,rfl,Zp _,⟨none,none,rfl⟩,Keep.refl,[],rfl,λe he=>(by cases he),.nil⟩,?_⟩
  rintro i m ys τ H5 ⟨rfl,hi,⟨x0,x1,rfl⟩,k5,ts,rfl,jx,jy⟩
  by_cases ad:i<es2.length
  ·have l9:=zcc jy
   have gA:ts.length≤i:=by
    have:=congrArg List.length l9
    rw[Qa,Qa,Zn]at this
    lia
   refine .inr ⟨⟨_,.ref gS[i],SqL.of (k5 _ _ iO (by simp)),by rw[Qt,Qc (by exact zar6 ‹_› ‹_›)];rfl⟩,by rw[Qa];lia,?_⟩
   rintro v H6 ⟨rfl,hv⟩
   have l6:=hv _ (SqL.of (k5 _ _ iO (by simp)))
   rw[Qt,Qc (by exact zar6 ‹_› ‹_›)]at l6
   obtain rfl:V.ref gS[i]=v:=Qv l6
   obtain⟨ay,cu⟩:=zbh lY (by exact zar6 ‹_› ‹_›:i<gS.length)
   have gF:es2[i]∈es2:=Qp ad
   have jD:=k5 _ _ (r8 _ gF) (by simp)
   have mz:es2[i].1∉ts.map (·.1):=by
    rw[l9]
    have h1:(es2.map (·.1)).take (i+1)=(es2.map (·.1)).take i++[es2[i].1]:=by
     rw[Qo (by rw[Qa];exact ad),Zu]
    have h2:((es2.map (·.1)).take (i+1)).Nodup:=Ue (Kp _ _) mH
    rw[h1,Za,←Uq]at h2
    exact λz=>h2.2.2 _ z _ (Qb.mpr rfl) rfl
   refine⟨gS[i],_,rfl,SqT.of (k5 _ _ cu (by simp)),rfl,_,_,rfl,_,_,rfl,rfl,_,rfl,_,rfl,es2[i].2.2,es2[i].2.1,rfl,jD,Zk (bH _ (fM.mem_iff.mp gF)) (by decide),λt j H7 hj ht7 htfr k7=>?_⟩
   refine⟨Sum.inr es2[i].1,rfl,es2.length-(i+1),by exact zar1 ‹_›,rfl,ad,⟨_,_,rfl⟩,k5.trans k7,ts++[(es2[i].1,es2[i].2.1.drop j++es2[i].2.1.take j,t)],put_new (r:=es2[i].2.1.drop j++es2[i].2.1.take j) mz,λe he=>?_,?_⟩
   ·rcases Qd.mp he with z | z
    ·exact k7 _ _ (jx e z) (by simp)
    ·rw[Qb.mp z];exact ht7
   ·rw [Qo ad]
    exact za1 jy (.cons ⟨rfl,j,rfl⟩ .nil)
  ·have sr:i=es2.length:=by exact zar3 ‹_› ‹_›
   subst sr
   rw[Qz (Qg _)]at jy
   refine .inl ⟨⟨_,SqL.of (k5 _ _ iO (by simp)),by rw[Qa,tL];exact Qg _⟩,λd hd=>?_⟩
   have k6:Keep [] H5 (upd H5 d (.dK (ts.map λe=>((Sum.inr e.1:Key),V.ref e.2.2)))):=Keep.new hd
   have kh:(upd H5 d (.dK (ts.map λe=>((Sum.inr e.1:Key),V.ref e.2.2)))) d=some (.dK (ts.map λe=>((Sum.inr e.1:Key),V.ref e.2.2))):=zac
   generalize upd H5 d (.dK (ts.map λe=>((Sum.inr e.1:Key),V.ref e.2.2)))=H6 at k6 kh
   have l9:=zcc jy
   have T6:TAt H6 d ts:=⟨kh,λe he=>k6 _ _ (jx e he) (by simp),by rw[l9];exact mH⟩
   have gA:ts.length=es.length:=by
    have:=congrArg List.length l9
    rw[Qa,Qa,fM.length_eq]at this
    exact this
   have C6:Cert (ts.map (·.1)) (row (rsOf ts)) cs a8:=zer Ct (by rw[l9];exact fM.map _) (zet jy fM aA)
   refine⟨_,rfl,d,ts,cs,a8,rfl,T6,by lia,λe he=>?_,C6,λH7 k7=>?_⟩
   ·obtain ⟨e',dY,_,kk,e2⟩:=zg3 jy he
    rw[e2,(rot_perm _ kk).length_eq]
    exact Zk (bH e' (fM.mem_iff.mp dY)) (by decide)
   ·have k07:Keep [] H H7:=(((k03.trans k4).trans k5).trans k6).trans k7
    have qz:=k07 _ _ hx (by simp)
    have T7:TAt H7 d ts:=T6.keep k7 (by simp) (λ_ _=>by simp)
    have nxd:d≠x:=zbc T7.dc qz (by intro z;cases z)
    refine⟨_,rfl,_,rfl,x,C,dx,[],rfl,qz,cW,nW,(by decide),?_⟩
    refine k d ts es2 _ ⟨zac,T7.keep (xs:=[x]) (Keep.wr (by simp)) (by simpa using nxd) λe he=>by simpa using zbc (T7.ro e he) qz (by intro z;cases z)⟩ fM jy ((k07.sub (by simp)).trans (Keep.wr (by simp)))
end
def zf7:∀{as:List α} {bs:List β} (n:Nat),Paired R as bs→Paired R (as.take n) (bs.take n):=by
 intro as bs n r
 induction r generalizing n with
 |nil=>rw[List.take_nil,List.take_nil];exact .nil
 |cons h t ih =>
  cases n with
  |zero=>exact .nil
  |succ k=>exact .cons h (ih k)
def zf8:∀{as:List α} {bs:List β} (n:Nat),Paired R as bs→Paired R (as.drop n) (bs.drop n):=by
 intro as bs n r
 induction r generalizing n with
 |nil=>rw[List.drop_nil,List.drop_nil];exact .nil
 |cons h t ih =>
  cases n with
  |zero=>exact .cons h t
  |succ k=>exact ih k
section
variable{P:Nj}{w:Nk}{K:Nb}{mg:Ng}{base:Nm}
end
end K21
end
section
namespace L2
open PySem PySem.Spec PyProof.Rows
section
variable{X:Cx}
end
end L2
end
section
namespace Wb
section
variable{α:Type}[DecidableEq α]
variable{ns:List α}{r r':α→List α}{cs:List (List (α×α))}
end
section
variable{α:Type}[DecidableEq α]{ns:List α}{r r':α→List α}{cs:List (List (α×α))}
end
section
variable{α:Type}[DecidableEq α]{ns:List α}{r r':α→List α}{cs:List (List (α×α))}
end
section
variable{α:Type}[DecidableEq α]{ns:List α}{r r':α→List α}{cs:List (List (α×α))}
end
section
variable{α:Type}[DecidableEq α]{ns:List α}{r r':α→List α}{cs:List (List (α×α))}{a8:α→α}
end
end Wb
end
section
namespace HT
open PySem PyProof.Rows
section
open PySem.SeqAt
open PySem.AutoSeq1 (wpAny_loadPart')
open PySem.MeetsSeq PySem.MeetsSeq2 PySem.MeetsSeq3
end
section
variable{prog:Nj}{w:Nk}{A:No}{E:Na}{s:Nh}
end
end HT
namespace PySem
section
variable{prog:Nj}{w:Nk}{A:No}{R:Nu}{I:Nd}{fp wr:Nl}{n:Nat}{P:Nat→Value→Prop}{St:Nat→Heap→Prop}
end
section
variable{prog:Nj}{w:Nk}{A:No}{E:Na}{s:Nh}
end
end PySem
end
section
namespace L2
open PySem PySem.Spec PyProof.Rows
def leS_antisymm(h1:leS x y)(h2:leS y x):x=y:=Tm.str_ext (List.le_antisymm (List.not_lt.mp h1) (List.not_lt.mp h2))
section
variable{X:Cx}
def op_ne_lists(hu:X.A.units<cLine):OpR X (compareOp .NotEq) (λx y H Q=>Ex3 λl b zs=>Aj5 (x=.ref l) (y=.ref b) (SqL X.K H l (List.map V.str zs)) (SqL X.K H b (List.map V.str zs)) (Q (.bl false) H)):=by
 intro a6 s σ H x y v u Q I rx ry h
 obtain⟨l,b,zs,rfl,rfl,h1,h2,q⟩:=h
 cases rx;cases ry
 obtain⟨a7,r,pl,_⟩:=I.list h1
 obtain⟨aP,r2,gU,_⟩:=I.list h2
 have l1:=r.length
 have l2:=r2.length
 refine SeqAt.RcNeAt.lists (e:=λ_=>true) pl.isList gU.isList (by rw[Qq,Qq];omega) hu (λj j1 j2=>?_) _ _ _ _ ⟨.bl false,H,I,?_,q⟩
 ·have a1:j < (List.map V.str zs).length:=by rw [l1];simpa using j1
  have a2:j<zs.length:=by simpa using a1
  have g:(List.map V.str zs)[j]?=some (.str zs[j]):=by simp[a2]
  obtain⟨u1,e1,t1,rfl⟩:=r.get g
  obtain⟨u2,e2,t2,rfl⟩:=r2.get g
  rw[Um,Um,(Ze.mp e1).2,(Ze.mp e2).2]
  have:=SeqAt.EqAt.str_str (A:=X.A.in1) (s:=s) zs[j] t1 zs[j] t2
  rw[beq_self_eq_true]at this
  exact this
 ·show Value.bool _=Value.bool false
  simp
end
section
variable{X:Cx}{a6:Nc}{σ:St}{H:Hp}{s:Nh}
end
end L2
end
section
namespace Wb
section
variable{α β:Type}[DecidableEq α][DecidableEq β]{ns:List α}{r:α→List α}{cs:List (List (α×α))}{f:α→β}
theorem idx_map(hf:∀x y,f x=f y→x=y)(w:α):∀zs:List α,(zs.map f).idxOf (f w)=zs.idxOf w
 |[]=>rfl
 |a::t=>by
  rw[Ql,Jt,Jt,idx_map hf w t]
  by_cases h:a=w
  ·rw[h,beq_self_eq_true,beq_self_eq_true]
  ·rw[beq_eq_false_iff_ne.mpr h,beq_eq_false_iff_ne.mpr λe=>h (hf _ _ e)]
def nxt_map(hf:∀x y,f x=f y→x=y)(zs:List α)(w:α):nxt (zs.map f) (f w)=f (nxt zs w):=by
 unfold nxt
 rw[idx_map hf,Qa,Qy,Qy,Qt]
 cases zs[(zs.idxOf w+1)%zs.length]?<;>rfl
def lk_map{γ δ:Type}{F:γ→γ}{G:δ→δ}{g:γ→δ}{e:γ}:∀{t:List γ} {s:γ},(∀y,y=s∨y∈t→G (g y)=g (F y))→Lk F s t e→Lk G (g s) (t.map g) (g e):=by
 intro t
 induction t with
 |nil=>intro s h k;exact(h s (.inl rfl)).trans (congrArg g k)
 |cons a t ih =>
  intro s h k
  exact⟨(h s (.inl rfl)).trans (congrArg g k.1),ih (λy hy=>h y (.inr (Qh.mpr hy))) k.2⟩
end
end Wb
end
section
namespace L2
open PySem PySem.Spec PyProof.Rows
def Apart(R:Obj→Prop):Prop:=∀o v,R o→R (Obj.mapFields (λvs=>vs.setIfInBounds 1 v) o)
def HasR(R:Obj→Prop)(h:Nm)(a:Nd):Prop:=∃o,h.get? a=some o∧R o
section
variable{M:Model}{A:No}{E:Na}{s:Nh}{B:Nm}{env:Env}{outer:List Env}{L e:Nd}{cls a0:Value}{R:Obj→Prop}{Q:Unit→Shared→Prop}
def entryR{ob:Obj}{fs:Array Value}{hd:Value}{b:Bool}(cR:Apart R)(f1:A.frames=some (env::outer))(f2:s.heap.FunFrames B (env::outer))(f3:env.frame=some L)(g1:s.heap.get? e=some ob)(g2:B.StaysIn s.heap)(g3:B.get? e=none)(d1:ob.data=.fields fs)(d2:fs[0]?=some a0)(d3:1<fs.size)(r:R ob)(k:∀h',HasR R h' e→Heap.HeldW B (env::outer) e ob.cls a0 L h'→s.heap.UpToSlots h'→Q () {s with heap:=h'}) :
  wpAny M A (frameOf env >>= λx=>entryPlaceOf L b >>= λpl=>EntryCells.newEntry hd x .none (rawInt L) .none pl >>= λy=>setField (.ref e) 1 y) Q E s:=by
 have ne:e∉(env::outer).filterMap (·.frame):=by
  intro z
  obtain⟨_,o,ho,hn⟩:=f2.mem z
  rw[g1]at ho;cases ho;exact hn fs d1
 refine wpAny_bind (wpAny_frameOf_fun f1 f2 f3 λh1 q1=>wpAny_bind (wpAny_entryPlaceOf λpl cg=>?_))
 unfold EntryCells.newEntry newFields
 refine wpAny_bind (wpAny_newObj_type ?_ (cg.sizeOk5 _ _ _ _ _))
 have e1:h1.get? e=some ob:=(q1.2.1 e ne).trans g1
 have s1:B.StaysIn h1:=λc o hc=>(q1.2.1 c (by intro z;rw[(f2.mem z).1]at hc;cases hc)).trans (g2 c o hc)
 generalize hE:([hd,Value.ref L,.none,rawInt L,.none]++(if pl.isEmpty then List.replicate 6 Value.none else pl)).toArray=ent
 have e3:ent[3]?=some (rawInt L):=by
  rw[←hE]
  first | (simp;done) | (rcases cg with rfl | ⟨_,_,_,_,_,_,_,rfl⟩<;>simp)
 have e2:=Qf (h:=h1) {cls:=.type "traceback",dict:=none,data:=.fields ent} e1
 refine wpAny_setField e2 d1 d3 ?_
 generalize hT:h1.objs.size=T at *
 have te:T≠e:=hT▸Yq (Qr e1)
 have dd:=Wf d1 (λvs=>vs.setIfInBounds 1 (Value.ref T))
 have e4:=Uo (Obj.mapFields λvs=>vs.setIfInBounds 1 (Value.ref T)) e2 (Jc dd)
 have e5:=(Yd (h1.push {cls:=.type "traceback",dict:=none,data:=.fields ent}) (Obj.mapFields λvs=>vs.setIfInBounds 1 (Value.ref T)) (Zi te)).trans (hT▸Qw h1 rfl)
 have kp:∀c o,c≠e→h1.get? c=some o→((h1.push {cls:=.type "traceback",dict:=none,data:=.fields ent}).update e (Obj.mapFields λvs=>vs.setIfInBounds 1 (Value.ref T))).get? c=some o:=λc o hc q=>by
  rw[Yd _ _ (Zi hc)]
  exact Qf _ q
 have nr:∀c o,s.heap.get? c=some o→(∀vs,o.data≠.fields vs)→c≠e:=by
  rintro c o hc hn rfl
  rw[g1]at hc;cases hc;exact hn fs d1
 refine k _ ⟨_,e4,cR _ _ r⟩ ⟨λc o q=>kp c o (by rintro rfl;rw[g3]at q;cases q) (s1 c o q),g3,f2.of_keeps λc o q hn=>?_,?_⟩ λc o q hn=>?_
 ·obtain ⟨sl,q1⟩:=q1.2.2 c o q
  exact⟨_,kp c _ (nr c o q hn) q1,rfl⟩
 ·refine ⟨_,_,T,_,_,e4,⟨Xd _ _,?_⟩,dd,by simp [d3],hT ▸ s1.fresh,te,e5,rfl,e3⟩
  rw[Array.getElem?_setIfInBounds_ne (by decide)];exact d2
 ·obtain ⟨sl,q1⟩:=q1.2.2 c o q
  exact⟨sl,kp c _ (nr c o q hn) q1⟩
def noteR(cR:Apart R)(f1:A.frames=some (env::outer))(f3:env.frame=some L)(fl:Heap.FlyingW B (env::outer) e cls a0 s.heap)(r:HasR R s.heap e)(k:∀h',HasR R h' e→Heap.HeldW B (env::outer) e cls a0 L h'→s.heap.UpToSlots h'→Q () {s with heap:=h'}):wpAny M A (noteFrame (.ref e) env) Q E s:=by
 obtain⟨g2,g3,f2,ob,fs,T,oT,ts,g1,⟨rfl,d2⟩,d1,d4,t1,t2,t3,t4,t5⟩:=fl
 obtain⟨ob',z,r⟩:=r
 rw[g1]at z;cases z
 unfold noteFrame
 simp only[f3]
 refine wpAny_bind (wpAny_field g1 d1 d4 ?_)
 rw[if_pos (by simp)]
 refine wpAny_bind (wpAny_field t3 t4 t5 ?_)
 rw[if_neg (by simp[rawInt])]
 refine wpAny_bind (wpAny_setField t3 t4 (Kh.mp t5).1 ?_)
 have ot:∀c,c≠T→(s.heap.update T (Obj.mapFields (·.setIfInBounds 3 Value.none))).get? c=s.heap.get? c:=λc hc=>Yd _ _ (Zi hc)
 have nr:∀c o,s.heap.get? c=some o→(∀vs,o.data≠.fields vs)→c≠T:=by
  rintro c o hc hn rfl
  rw[t3]at hc;cases hc;exact hn ts t4
 refine entryR cR f1 (f2.of_keeps λc o q hn=>⟨o,(ot c (nr c o q hn)).trans q,rfl⟩) f3 ((ot e (Zi t2)).trans g1) (λc o q=>(ot c (by rintro rfl;rw[t1]at q;cases q)).trans (g2 c o q)) g3 d1 d2 (Kh.mp d4).1 r λh' r' hh us=>k h' r' hh λc o q hn=>us c o ((ot c (nr c o q hn)).trans q) hn
def landR{l:List Env}{fl:Value}(g2:B.StaysIn s.heap)(g3:B.get? e=none)(f2:s.heap.FunFrames B l)(tr:s.heap.TracedAtW B e cls a0 fl)(r:HasR R s.heap e)(k:∀h',HasR R h' e→Heap.FlyingW B l e cls a0 h'→s.heap.UpToSlots h'→Q () {s with heap:=h'}):wpAny M A (setFlight (.ref e) none) Q E s:=by
 obtain⟨ob,fs,T,oT,ts,g1,d2,d1,d4,t1,t2,t3,t4,t5⟩:=tr
 have z3:3<ts.size:=(Kh.mp t5).1
 unfold setFlight
 refine wpAny_bind (wpAny_field g1 d1 d4 ?_)
 rw[if_pos (by simp)]
 refine wpAny_setField t3 t4 z3 ?_
 generalize hu:s.heap.update T (Obj.mapFields λvs=>vs.setIfInBounds 3 ((none:Option Addr).elim Value.none λf=>rawInt f))=u
 have ot:∀c,c≠T→u.get? c=s.heap.get? c:=λc hc=>hu▸Yd _ _ (Zi hc)
 have nr:∀c o,s.heap.get? c=some o→(∀vs,o.data≠.fields vs)→c≠T:=by
  rintro c o hc hn rfl
  rw[t3]at hc;cases hc;exact hn ts t4
 refine k u (r.imp λo z=>⟨(ot e (Zi t2)).trans z.1,z.2⟩) ⟨λc o q=>(ot c (by rintro rfl;rw[t1]at q;cases q)).trans (g2 c o q),g3,f2.of_keeps λc o q hn=>⟨o,(ot c (nr c o q hn)).trans q,rfl⟩,?_⟩ λc o q hn=>⟨o.slots,(ot c (nr c o q hn)).trans q⟩
 exact⟨ob,fs,T,_,_,(ot e (Zi t2)).trans g1,d2,d1,d4,t1,t2,hu▸Uo _ t3 (Jc (Wf t4 _)),Wf t4 _,by simp[z3]⟩
def leaveR(cR:Apart R)(f1:A.frames=some (env::outer))(f3:env.frame=some L)(fl:Heap.FlyingW B (env::outer) e cls a0 s.heap)(r:HasR R s.heap e)(k:∀h',HasR R h' e→Heap.FlyingW B outer e cls a0 h'→s.heap.UpToSlots h'→Q () {s with heap:=h'}):wpAny M A (leaving env (.ref e)) Q E s:=by
 unfold leaving
 refine wpAny_bind (noteR cR f1 f3 fl r λh1 r1 hd u1=>landR (s:={s with heap:=h1}) hd.1 hd.2.1 hd.2.2.1 hd.2.2.2 r1 λh2 r2 f2 u2=>k h2 r2 ⟨f2.1,f2.2.1,f2.2.2.1.2.2,f2.2.2.2⟩ (u1.trans u2))
def leaveMadeR{h:Nm}{vs:Ni}(cR:Apart R)(f1:A.frames=some (env::outer))(f3:env.frame=some L)(g2:B.StaysIn h)(f2:h.FunFrames B (env::outer))(hx:Heap.MadeExcOf h s.heap e cls vs)(r:HasR R s.heap e)(k:∀h' t,HasR R h' e→Heap.FlyingW B outer e cls (.ref t) h'→s.heap.UpToSlots h'→Q () {s with heap:=h'}):wpAny M A (leaving env (.ref e)) Q E s:=by
 obtain⟨t,g1,tn,tt⟩:=hx.there
 have g3:B.get? e=none:=by
  cases z:B.get? e with
  |none=>rfl
  |some o=>have:=g2 e o z;rw[hx.new]at this;cases this
 obtain⟨ob',z,r⟩:=r
 rw[g1]at z;cases z
 unfold leaving noteFrame
 simp only[f3]
 refine wpAny_bind (wpAny_bind (wpAny_field g1 rfl (x:=.none) rfl ?_))
 rw[if_neg (by decide)]
 refine entryR (a0:=.ref t) cR f1 (f2.of_keeps λc o q _=>⟨o,hx.keeps c o q,rfl⟩) f3 g1 (λc o q=>hx.keeps c o (g2 c o q)) g3 rfl rfl (by simp) r λh1 r1 hd u1=>?_
 exact landR (s:={s with heap:=h1}) hd.1 hd.2.1 hd.2.2.1 hd.2.2.2 r1 λh2 r2 fl u2=>k h2 t r2 ⟨fl.1,fl.2.1,fl.2.2.1.2.2,fl.2.2.2⟩ (u1.trans u2)
end
def LoneO(o:Obj):Prop:=∃vs,o.data=.fields vs∧vs[2]?=some .none
def zfa:Apart LoneO:=by
 rintro o v ⟨vs,hd,h2⟩
 exact⟨_,Wf hd _,by rw[Array.getElem?_setIfInBounds_ne (by decide)];exact h2⟩
def zbr.got{P:Nj}{w:Nk}{H:Hp}{h:Nm}{a:Nd}{o:HO}(x:zbr P w H h a o):∃u,h.get? a=some u:=by
 cases o with
 |lst xs=>obtain⟨_,_,_,_,e⟩:=x;exact⟨_,e⟩
 |tup xs=>obtain⟨_,_,_,u,e,_⟩:=x;exact⟨u,e⟩
 |dK kvs=>obtain⟨_,_,_,_,o,_,_,e,_⟩:=x;exact⟨_,e⟩
 |dT kvs=>obtain⟨_,_,_,_,o,_,_,e,_⟩:=x;exact⟨_,e⟩
 |set S n=>obtain⟨o,_,_,_,e,_⟩:=x;exact⟨_,e⟩
 |ins C dx fs=>obtain⟨_,_,_,e,_⟩:=x;exact⟨_,e⟩
 |own y=>obtain⟨_,e⟩:=x;exact⟨_,e⟩
 |xd fs=>obtain⟨_,⟨_,_,_,e,_⟩,_⟩:=x;exact⟨_,e⟩
 |rng lo hi=>obtain⟨_,_,_,e⟩:=x;exact⟨_,e⟩
 |frz ob u=>obtain⟨e,_⟩:=x;exact⟨_,e⟩
 |tbl ps=>exact⟨_,(show h.get? a=some _ from x)⟩
 |met f y=>exact⟨_,(show h.get? a=some _ from x)⟩
 |ext φ=>obtain⟨_,⟨_,e⟩,_⟩:=x;exact⟨_,e⟩
inductive CXr(P:Nj)(w:Nk)(outer:List Env)(H:Hp)(s:Nh)(E:XK)(e:Value)(s':Nh):Prop
 | mk (a:Nd) (cls a0:Value) (H':Hp) (B:Nm) (he:e=.ref a) (os:s'.os=s.os) (bare:AllBare s'.gens) (un:Un (frs outer) [] H H' s.heap s'.heap) (hok:HOk P w H' s'.heap)
   (hB:∀b o,s.heap.get? b=some o→b∉frs outer→∃u,B.get? b=some u) (hT:∀b o,H' b=some o→∃u,B.get? b=some u) (fl:Heap.FlyingW B outer a cls a0 s'.heap) (ln:HasR LoneO s'.heap a) (q:E cls none H'):CXr P w outer H s E e s'
def flyUn{P:Nj}{w:Nk}{l:List Env}{H H':Hp}{h g h' B base:Nm}(un:Un (frs l) [] H H' h g)(hok:HOk P w H' g)(hB:∀b o,h.get? b=some o→b∉frs l→∃u,B.get? b=some u)(hT:∀b o,H' b=some o→∃u,B.get? b=some u)(hg:B.StaysIn g)(hh:B.StaysIn h')(fr:g.FunFrames base l)(us:g.UpToSlots h'):Un (frs l) [] H H' h h'∧HOk P w H' h':=by
 have same:∀b o u,B.get? b=some u→g.get? b=some o→h'.get? b=some o:=λb o u e q=>by
  have:=hg b u e
  rw[q]at this;cases this
  exact hh b _ e
 refine⟨⟨λb o e n hb hx=>?_,λb o e n hb hx=>?_,un.free,λb o e hx=>?_,un.tups,un.frzs,un.tbls⟩,λb o e=>?_⟩
 ·obtain ⟨u,eu⟩:=hB b o e hb
  exact same b o u eu (un.keep b o e n hb hx)
 ·obtain ⟨sl,e1⟩:=un.slot b o e n hb hx
  obtain⟨_,o',aw,hd⟩:=fr.mem hb
  obtain⟨kQ,e2⟩:=us b _ e1 λvs z=>by rw[e1]at aw;cases aw;exact hd vs z
  exact⟨kQ,e2⟩
 ·by_cases hb:b∈frs l
  ·obtain ⟨_,o',aw,hd⟩:=fr.mem hb
   obtain⟨kQ,e2⟩:=us b _ aw hd
   exact⟨_,e2⟩
  ·obtain ⟨u,eu⟩:=hB b o e hb
   exact⟨u,hh b u eu⟩
 ·refine (hok b o e).stay (fun c v hc q=>?_) (fun _ q=>q) fun _ _ q=>q
  obtain⟨u,eu⟩:∃u,B.get? c=some u:=by
   rcases hc with rfl | hc
   ·exact hT _ _ e
   ·exact hT _ _ hc
  exact same c v u eu q
def Inv.fly{X:Cx}{a6:Nc}{σ:St}{H H':Hp}{s s':Nh}{B h':Nm}(I:Inv X a6 σ H s)(os:s'.os=s.os)(bare:AllBare s'.gens)(un:Un (frs X.stack) [] H H' s.heap s'.heap)(hok:HOk X.prog X.w H' s'.heap)(hB:∀b o,s.heap.get? b=some o→b∉frs X.stack→∃u,B.get? b=some u)(hT:∀b o,H' b=some o→∃u,B.get? b=some u)(hg:B.StaysIn s'.heap)(hh:B.StaysIn h')(fr:s'.heap.FunFrames B X.stack)(us:s'.heap.UpToSlots h') :
  Inv X a6 σ H' {s' with heap:=h'}:=by
 obtain⟨u,k⟩:=flyUn un hok hB hT hg hh fr us
 exact I.call' (s':={s' with heap:=h'}) (ch:=[]) os u k bare λb z=>absurd z (by simp)
def Inv.out{X:Cx}{a6:Nc}{σ:St}{H H':Hp}{s s':Nh}{B:Nm}{E:XK}{a:Nd}{cls a0:Value}(I:Inv X a6 σ H s)(nH:X.ex=[])(J:Inv X a6 σ H' s')(hB:∀b o,s.heap.get? b=some o→b∉frs X.stack→∃u,B.get? b=some u)(hT:∀b o,H' b=some o→∃u,B.get? b=some u)(fl:Heap.FlyingW B X.outer a cls a0 s'.heap)(ln:HasR LoneO s'.heap a)(q:E cls none H'):CXr X.prog X.w X.outer X.H₀ X.s₀ E (.ref a) s':=by
 refine⟨a,cls,a0,H',B,rfl,J.os,J.bare,by have:=J.base;rw[nH]at this;exact this,J.hok,λb o e hb=>?_,hT,fl,ln,q⟩
 obtain⟨o',e'⟩:=I.base.there b o e (by rw[nH];simp)
 refine hB b o' e' λz=>?_
 rcases Qh.mp (I.stkSub b z) with r | r
 ·exact absurd (Zs (Qr e) I.ok.above) (by rw[r];exact Ym _)
 ·exact hb r
def PassesS(CX:CXT)(X:Cx)(E:St→XK):Prop:=∀(a6:Nc) (σ:St) (H:Hp) (s:Nh) (e:Value) (s':Nh),Inv X a6 σ H s→CX X.stack H s (E σ) e s'→X.xe e s'
section
variable{P:Nj}{w:Nk}{K:Nb}{mg:Ng}{base:Nm}{N ps:Nf}{qual:Str}{scope:Scope}{f:Nd}{cd:Value}{A:No}{outer:List Env}{s:Nh}{H:Hp}{E:XK}
def passR{E':XK}(h:∀c d H,E' c d H→E c d H):zgs (CXr P w) (cxOf (CXr P w) P w K mg base N qual scope f cd A outer s H E) E':=by
 intro a6 σ H1 s1 e s' I hx
 obtain⟨a,cls,a0,H',B,rfl,os,bare,un,hok,hB,hT,fl,ln,q⟩:=hx
 refine leaveR zfa I.ok.frames rfl fl ln λh' ln' fl' us=>?_
 exact I.out rfl (I.fly os bare un hok hB hT fl.1 fl'.1 fl.2.2.1 us) hB hT fl' ln' (h _ _ _ q)
def raiseR{a6:Nc}{σ:St}{H1:Hp}{s1:Nh}{h1:Nm}{e:Nd}{cls:Value}{vs:Ni}(I:Inv (cxOf (CXr P w) P w K mg base N qual scope f cd A outer s H E) a6 σ H1 s1)(hx:Heap.MadeExcOf s1.heap h1 e cls vs)(q:E cls none H1) :
  (cxOf (CXr P w) P w K mg base N qual scope f cd A outer s H E).xe (.ref e) {s1 with heap:=h1}:=by
 have aB:∀b o,s1.heap.get? b=some o→b∉frs (envOfC qual scope s.heap.objs.size f cd::outer)→∃u,(PySem.W.hideAll s1.heap (frs (envOfC qual scope s.heap.objs.size f cd::outer))).get? b=some u:=λb o e nb=>⟨o,PySem.W.hideAll_get _ e nb⟩
 have ap:Heap.StaysIn (PySem.W.hideAll s1.heap (frs (envOfC qual scope s.heap.objs.size f cd::outer))) s1.heap:=λb o e=>PySem.W.of_hideAll _ e
 have iu:=PySem.W.funFrames_hide (as:=frs (envOfC qual scope s.heap.objs.size f cd::outer)) I.stack λenv he b hb=>List.mem_filterMap.mpr ⟨env,he,hb⟩
 have hT:∀b o,H1 b=some o→∃u,(PySem.W.hideAll s1.heap (frs (envOfC qual scope s.heap.objs.size f cd::outer))).get? b=some u:=λb o e=>by
  have ad:=I.hok.lt e
  obtain⟨u,hu⟩:∃u,s1.heap.get? b=some u:=(I.hok b o e).got
  exact aB b u hu λz=>by rw[I.stkFree b z]at e;cases e
 refine leaveMadeR (B:=PySem.W.hideAll s1.heap (frs (envOfC qual scope s.heap.objs.size f cd::outer))) zfa I.ok.frames rfl ap iu hx (hx.there.elim λt z=>⟨_,z.1,_,rfl,rfl⟩) λh' t ln fl us=>?_
 refine I.out rfl (I.fly (s':=s1) rfl I.bare Un.refl I.hok aB hT ap fl.1 iu ((Heap.UpToSlots.of_keeps hx.keeps).trans us)) aB hT fl ln q
end
abbrev bmVE:List Value:=[.type "ValueError",.type "Exception",.type "BaseException",.type "object"]
structure Exc(K:Nb)(C:Nd):Prop where
 inK:PySem.W.excIn K C bmVE "ValueError.__new__" = true
def exc_obj{K:Nb}{h:Nm}{C:Nd}{bmB:Ni}{newId:String}(X:K.In h)(q:PySem.W.excIn K C bmB newId=true) :
  ∃bm N nm qn bs hdct sn sub ab col dd k0 k1 k2 k3 k5 mN,h.get? C=some (excClassObj nm qn C N bs bm hdct sn sub ab col dd k0 k1 k2 k3 k5 newId)∧h.Ns N mN∧mN "__init__" = none∧OwnTail h bmB bm:=by
 unfold PySem.W.excIn at q
 split at q
 ·rename_i dd cd sl ho
  split at q
  ·rename_i C' bm k0 k1 k2 k3 n k5 hm hs
   simp only[Jq,beq_iff_eq,Jn]at q
   obtain⟨⟨⟨⟨⟨rfl,rfl⟩,nN⟩,ht⟩,hok⟩,pc⟩:=q
   obtain⟨nm,bs,mro,ns,qn,hd,sn,sub,ab,col,del⟩:=cd
   dsimp only at hm nN hok pc
   subst hm nN
   have hsl:sl=#[k0,k1,k2,k3,some (.builtin n),k5]:=by
    obtain⟨l⟩:=sl
    simp only at hs
    rw[hs]
   subst hsl
   exact⟨bm,ns,nm,qn,bs,hd,sn,sub,ab,col,dd,k0,k1,k2,k3,k5,_,X _ _ ho,.of_isNs (PySem.W.isNs_of_in X hok),PySem.W.nsMap_none_of_in X hok pc,PySem.W.tail_of_in X ht⟩
  ·cases q
 ·cases q
section
variable{P:Nj}{w:Nk}{K:Nb}{mg:Ng}{base:Nm}{N ps:Nf}{qual:Str}{scope:Scope}{f:Nd}{cd:Value}{A:No}{outer:List Env}{s:Nh}{H:Hp}{E:XK}
def tRaise(C:Nd)(E:XK)(t:TA):TS:=λ_ σ H=>t σ H λvs H1=>Aj2 (vs.length≤sizeLine) (E (.ref C) none H1)
def zh2{x:Str}{C:Nd}{e₀:Expr}{rest:Np}{np cpos pos:Pos}{t:TA}(c:Exc K C)(hg:Gl (cxOf (CXr P w) P w K mg base N qual scope f cd A outer s H E) x)(hm:mg x=some (.ref C))(ha:PA (cxOf (CXr P w) P w K mg base N qual scope f cd A outer s H E) (e₀::rest) t)(dv:(x==("__debug__" : Str))=false:=by decide)(he:starEach (e₀::rest) (envOfC qual scope s.heap.objs.size f cd)=(false,eval e₀ (envOfC qual scope s.heap.objs.size f cd))::starEach rest (envOfC qual scope s.heap.objs.size f cd):=by rfl)(cg:(backTo cpos (starEach rest (envOfC qual scope s.heap.objs.size f cd))).any (·.1)=false:=by rfl) :
  PS (cxOf (CXr P w) P w K mg base N qual scope f cd A outer s H E) (.Raise (some (.Call (.Name x np) (e₀::rest) [] cpos)) none pos) (tRaise C E t):=by
 intro a6 s1 σ H1 D I h
 obtain⟨tl,N',nm,q,bs,hdct,sn,sub,ab,col,dd,k0,k1,k2,k3,k5,mN,hC,hN,pc,T⟩:=exc_obj I.ok.mod.kin c.inK
 refine wpAny_Raise_call_subT (C:=C) (nm:=nm) (q:=q) (N:=N') (bs:=bs) (bm:=tl) (hdct:=hdct) (sn:=sn) (sub:=sub) (ab:=ab) (col:=col) (dd:=dd) (k0:=k0) (k1:=k1) (k2:=k2) (k3:=k3) (k5:=k5)
  PySem.F.excBase_ValueError (mN:=mN) (T.hasType PySem.F.excBase_ValueError.hasBase) (I.ok.hd rfl) (by rw[show starEach (e₀::rest) (cxOf (CXr P w) P w K mg base N qual scope f cd A outer s H E).env=_ from he];show(false||(backTo cpos (starEach rest (cxOf (CXr P w) P w K mg base N qual scope f cd A outer s H E).env)).any (·.1))=false;rw[show(backTo cpos (starEach rest (cxOf (CXr P w) P w K mg base N qual scope f cd A outer s H E).env)).any (·.1)=false from cg];rfl) pc (ze2 I hg hm ⟨rfl,?_⟩ dv)
 have h2:=ha cpos a6 s1 σ H1 _ I h
 rw[show starEach (e₀::rest) (cxOf (CXr P w) P w K mg base N qual scope f cd A outer s H E).env=_ from he]at h2 ⊢
 exact Calls.evalArgs_plain (wpAny_mono h2 (λus s2 ⟨vs,H2,I2,r,hl,q2⟩=>⟨rfl,by rw[←r.length];exact hl,I2.bk _ _ hC,hN.keeps I2.bk,T.keeps I2.bk,λh' e hx=>raiseR I2 hx q2⟩) λ_ _ y=>y)
def Fun.okX{x qual:Str}{st:Stmt}{f:Nd}{fd:Nq}{N ps:Nf}{k:Nat}{sp:Sp}(F:Fun K x qual st f fd)(S:zan N ps (zah st))(len:∀vs H Q E,sp vs H Q E→vs.length=ps.length)(br:∀ (cdv:Value) (A:No) (outer:List Env) (s:Nh) (H:Hp) (vs:List V) (Q:VK) (E:XK),Room k (A.deeper (envOfC qual (zah st) s.heap.objs.size f cdv))→sp vs H Q E →
   ∃t,PSs (cxOf (CXr P w) P w K mg base N qual (zah st) f cdv A outer s H E) (zbz st) t∧t {nx:=λ_ H'=>Q .non H',rt:=Q} (start N vs) H):FnOk P w K mg base (CXr P w) (k+1) f fd ps sp:=by
 obtain⟨oc,od,kV,doc,pm,an,cdv,ct,osl,rfl,lk,aO⟩:=F.ex
 exact fn_of lk aO S len λA outer s H vs Q E hr bv=>br cdv A outer s H vs Q E hr bv
def FnOk.or{CX:CXT}{k:Nat}{f:Nd}{fd:Nq}{ps:Nf}{sp lC:Sp}(F:FnOk P w K mg base CX k f fd ps sp)(G:FnOk P w K mg base CX k f fd ps lC):FnOk P w K mg base CX k f fd ps (λvs H Q E=>sp vs H Q E∨lC vs H Q E) :=
 ⟨λvs H Q E h=>h.elim (F.len vs H Q E) (G.len vs H Q E),λA outer s H args us vs Q E hr he hb hv h=>h.elim (F.run A outer s H args us vs Q E hr he hb hv) (G.run A outer s H args us vs Q E hr he hb hv)⟩
end
section
variable{X:Cx}{CX:CXT}{k:Nat}{f C:Nd}{fd:Nq}{ps:Nf}{sp:Sp}{dvs:List V}{ds:Ni}{E:St→XK}{x m:Str}{p pos apos:Pos}{e o:Expr}{es:Np}{ta:TE}{t:TA}
def run_fnS{a6:Nc}{σ:St}{H:Hp}{s:Nh}{Q:VK}{us:Ni}{vs:List V}(F:FnOk X.prog X.w X.K X.mg X.base CX k f fd ps sp)(hr:Room k X.A)(hb:Binds X.K fd ps ds)(hd:Vals dvs ds)(hx:PassesS CX X E)(I:Inv X a6 σ H s)(r:Vals vs us)(h:sp (vs++dvs) H Q (E σ)):wpAny (model X.prog X.w) X.A (call (.ref f) us) (EP X a6 σ Q) X.xe s:=by
 have r2:Vals (vs++dvs) (us++ds):=r.append hd
 have hl:(us++ds).length=ps.length:=by rw[←r2.length];exact F.len _ _ _ _ h
 refine wpAny_call (codeAny_mono (F.run X.A X.stack s H ⟨us,[]⟩ (us++ds) (vs++dvs) Q (E σ) hr I.env0 (hb s us I.kIn hl) r2 h) λr s' hq=>?_)
 cases r with
 |error e=>exact hx a6 σ H s e s' I hq
 |ok fl =>
  cases fl with
  |ret u=>exact I.after hq
  |next=>exact False.elim hq
  |brk=>exact False.elim hq
  |cont=>exact False.elim hq
def tCallS(sp:Sp)(dvs:List V)(E:St→XK)(t:TA):TE:=λ σ H Q=>t σ H λvs H1=>sp (vs++dvs) H1 Q (E σ)
def pe_callS(F:FnOk X.prog X.w X.K X.mg X.base CX k f fd ps sp)(hr:Room k X.A)(hg:Gl X x)(hm:X.mg x=some (.ref f))(hk:PySem.W.keepIn X.K (.ref f)=true)(hb:Binds X.K fd ps ds)(hd:Vals dvs ds)(hx:PassesS CX X E)(ha:PA X (e::es) t)(dv:(x==("__debug__" : Str))=false:=by decide)(he:starEach (e::es) X.env=(false,eval e X.env)::starEach es X.env:=by rfl)(cg:(backTo pos (starEach es X.env)).any (·.1)=false:=by rfl) :
  PE X (.Call (.Name x p) (e::es) [] pos) (tCallS sp dvs E t):=by
 intro a6 s σ H Q I h
 refine wpAny_Call_Name_kw (ze2 I hg hm ?_ dv)
 refine Kc (h₀:=X.base) I.ok.mod.kin hk (thn (ha pos a6 s σ H _ I h) λus s1 ⟨vs,H1,I1,r,q⟩=>⟨I1.kIn,?_⟩) he cg
 exact run_fnS F hr hb hd hx I1 r q
end
def zd8{X:Cx}{a6:Nc}{σ:St}{H:Hp}{s:Nh}{M:Model}{A:No}{E:Na}{i:Nat}{x:Str}{pos:Pos}{Q:Unit→Shared→Prop}(I:Inv X a6 σ H s)(hN:X.N.Nodup)(hi:X.N[i]?=some x)(hk:X.env.scope.names.lookup x=some .local)(h:∀s',Inv X a6 (σ.set i none) H s'→Q () s'):wpAny M A (do bindName X.env x .none;unbindBehindTheSuite X.env x pos) Q E s:=by
 obtain⟨m,hn,hl⟩:=id I.loc
 have km:(X.env.scope.kind==.class||(X.env.scope.kind==.module&&X.env.locals != X.env.globals))=false:=by rw[I.ok.kind];rfl
 refine wpAny_nameGoes_keeps hk hn km λh' v rP hs=>h _ ?_
 obtain⟨oL,_,_,hoL,_⟩:=id hn
 have neL:∀b o,X.s₀.heap.get? b=some o→b≠X.env.locals:=λb o e=>Zj (Zs (Qr e) I.ok.above)
 refine⟨I.ok,I.os,I.bare,⟨λb o e n hb hx=>(hs.2 b (neL b o e)).trans (I.base.keep b o e n hb hx),λb o e n hb hx=>?_,I.base.free,λb o e hx=>?_,I.base.tups,I.base.frzs,I.base.tbls⟩,⟨_,rP,λj y v' e1 e2 e3=>?_⟩,λy c e=>?_,I.free,I.freeC,λp hp=>?_,λb ob e=>?_,by simpa using I.len⟩
 ·obtain ⟨sl,e1⟩:=I.base.slot b o e n hb hx
  exact⟨sl,(hs.2 b (neL b o e)).trans e1⟩
 ·obtain ⟨o',e1⟩:=I.base.there b o e hx
  exact⟨o',(hs.2 b (neL b o e)).trans e1⟩
 ·have hj:j≠i:=fun z=>by
   subst z
   rw[List.getElem?_set]at e2
   split at e2
   ·split at e2<;>cases e2
   ·contradiction
  rw[List.getElem?_set_ne (Zi hj)]at e2
  obtain⟨u',r',q⟩:=hl j y v' e1 e2 e3
  refine⟨u',r',?_⟩
  rcases q with⟨k,e⟩ | ⟨k,c,e,z⟩
  ·refine .inl ⟨k,?_⟩
   have:y≠x:=λe=>hj (zh7 hN e1 (e▸hi))
   simp[this,e]
  ·exact .inr ⟨k,c,e,z.sameBut hs (I.cne y c e)⟩
 ·obtain ⟨w',z⟩:=I.cell y c e
  exact⟨w',z.sameBut hs (I.cne y c e)⟩
 ·obtain ⟨e,n,ne,nf,d⟩:=I.pin p hp
  exact⟨(hs.2 p.1 ne).trans e,n,ne,nf,d⟩
 ·refine (I.hok b ob e).stay (fun c w' hc q=>(hs.2 c ?_).trans q) (fun _ q=>q) fun _ _ q=>q
  rintro rfl
  rcases hc with hc | hc
  ·rw[←hc,I.free]at e;cases e
  ·rw[I.free]at hc;cases hc
def Ends.off(i:Nat)(D:Ends):Ends:={nx:=λ σ H=>D.nx (σ.set i none) H,rt:=D.rt,bk:=λ σ H=>D.bk (σ.set i none) H,ct:=λ σ H=>D.ct (σ.set i none) H}
abbrev Cx.tried(X:Cx)(E:Na)(pn:Nc):Cx:={X with xe:=E,pn:=pn}
abbrev Cx.suite(X:Cx)(a:Nd):Cx:={X with A:=X.A.mark (some (.ref a)),calm:=false,xe:=λ_ _=>False}
section
variable{X:Cx}{a6:Nc}{σ:St}{H:Hp}{s:Nh}{E:Na}{a:Nd}
def Cx.Ok.tried(ok:X.Ok)(E:Na)(pn:Nc):(X.tried E pn).Ok :=
 ⟨ok.mod,ok.kind,ok.glob,ok.blt,ok.above,ok.inj,ok.has,ok.cab,ok.hd,ok.frames,ok.stk,ok.exf,ok.bs,ok.bsz,ok.noex,ok.exfs,ok.funs,ok.frf⟩
def Inv.tried(I:Inv X a6 σ H s)(E:Na):Inv (X.tried E (X.pn++a6)) [] σ H s :=
 ⟨I.ok.tried E _,I.os,I.bare,I.base,I.loc,I.cell,I.free,I.freeC,λp hp=>I.pin p (by rwa[Zw]at hp),I.hok,I.len⟩
def Inv.untried{pn:Nc}{pins':Nc}(ok:X.Ok)(I:Inv (X.tried E (X.pn++a6)) pins' σ H s):Inv X a6 σ H s :=
 ⟨ok,I.os,I.bare,I.base,I.loc,I.cell,I.free,I.freeC,λp hp=>I.pin p (Qn _ hp),I.hok,I.len⟩
def Inv.suite(I:Inv X a6 σ H s)(a:Nd):Inv (X.suite a) a6 σ H s :=
 ⟨⟨I.ok.mod,I.ok.kind,I.ok.glob,I.ok.blt,I.ok.above,I.ok.inj,I.ok.has,I.ok.cab,(λh=>nomatch h),I.ok.frames,I.ok.stk,I.ok.exf,I.ok.bs,I.ok.bsz,I.ok.noex,I.ok.exfs,I.ok.funs,I.ok.frf⟩,I.os,I.bare,I.base,I.loc,I.cell,I.free,I.freeC,I.pin,I.hok,I.len⟩
def SP.untried{D:Ends}{f:Flow}(ok:X.Ok)(h:SP (X.tried E (X.pn++a6)) [] D f s):SP X a6 D f s:=by
 cases f with
 |next=>obtain⟨σ',H',I,q⟩:=h;exact⟨σ',H',I.untried (pn:=[]) ok,q⟩
 |brk=>obtain⟨σ',H',I,q⟩:=h;exact⟨σ',H',I.untried (pn:=[]) ok,q⟩
 |cont=>obtain⟨σ',H',I,q⟩:=h;exact⟨σ',H',I.untried (pn:=[]) ok,q⟩
 |ret u=>obtain⟨v,σ',H',I,r,q⟩:=h;exact⟨v,σ',H',I.untried (pn:=[]) ok,r,q⟩
end
end L2
end
section
namespace L2
open PySem PySem.Spec PyProof.Rows PySem.W PySem.Builtin PySem.Builtin.ObjectAttr PySem.Builtin.Getset_descriptor
structure ExI(K:Nb)(D:Nd):Prop where
 ga:findIn K (.ref D) "__getattribute__" = some (some (.builtin "BaseException.__getattribute__"))
 nga:findIn K (.ref D) "__getattr__" = some none
 bx:mroIn K D (.type "BaseException")=some true
 at_:findIn K (.ref D) "__class__" = some (some (.builtin "object.__class__"))
 gs:specialIn K (.builtin "object.__class__") "__get__" = some (some (.builtin "getset_descriptor.__get__"))
 tk:takesIn K (.builtin "object.__class__")=some true
 ob:mroIn K D (.type "object")=some true
def ExI.cl{K:Nb}{D:Nd}(c:ExI K D):(clsIn K D).isSome=true:=by
 have h:=c.ob
 unfold mroIn at h
 cases z:clsIn K D with
 |none=>rw[z]at h;cases h
 |some _=>rfl
abbrev ExAt(x:Nd)(cls:Value)(h:Nm):Prop:=∃o,h.get? x=some o∧o.cls=cls
def ExAt.type{M:Model}{x:Nd}{cls:Value}{h:Nm}(p:ExAt x cls h):Looks M h (typeOf (.ref x)) cls:=by
 obtain⟨o,ho,rfl⟩:=p
 exact(Looks.ld ho).andThen .now
section
variable{prog:Nj}{w:Nk}{A:No}{E:Na}{s:Nh}{K:Nb}{x D:Nd}
def ex_find{M:Model}{h:Nm}(c:ExI K D)(X:K.In h)(p:ExAt x (.ref D) h):Looks M h (find (.ref x) (.ref D) "__class__") (.bind (.builtin "getset_descriptor.__get__") (.builtin "object.__class__")):=by
 have L1:=looks_findIn (M:=M) X c.at_
 have L2:Looks M h (getOf (some (.builtin "object.__class__"))) (some (.builtin "getset_descriptor.__get__")):=looks_specialIn X c.gs
 have L3:=looks_takesIn (M:=M) X c.tk
 refine L1.andThen (L2.andThen ?_)
 exact(show Looks M h (dataDescriptor? (some (.builtin "object.__class__")) (some (.builtin "getset_descriptor.__get__"))) (some (.builtin "getset_descriptor.__get__",.builtin "object.__class__")) from L3.andThen .now).andThen (Looks.tag .now)
def ex_class_get{tp:Value}{R:Nu}(X:K.In s.heap)(p:ExAt x (.ref D) s.heap)(hm:mroIn K D (.type "object")=some true)(h:R (.ok (.ret (.ref D))) s):codeAny (model prog w) A (.call (.builtin "getset_descriptor.__get__") ⟨[.builtin "object.__class__",.ref x,tp],[]⟩) R s:=by
 obtain⟨hh,g,dr,t,os⟩:=s
 have L0:=p.type (M:=model prog w)
 have L1:=looks_mroIn (M:=model prog w) X hm
 refine codeAny_call_builtin KF.slot_gs.plain KF.entry_gs (KF.slot_gs.check _ _ _ _ _ _ _ _ KF.type_class (KF.args_gs _ _ _) ?_)
 unfold Builtin.«getset_descriptor.__get__» descrGet
 rw[dga_obj]
 refine wpAny_bind (wpAny_pure ?_)
 unfold descrGetter descrCheckInstance descrNameAndClass isInstance
 simp only[KF.owner_class]
 repeat lk
 refine⟨Code.quiet_builtin _ (by decide +kernel),codeAny_builtin KF.entry_class ?_⟩
 unfold Builtin.«object.__class__» shownTypeOf
 repeat lk
 exact h
def ex_check{M:Model}{nameV:Value}{Q:Unit→Shared→Prop}(c:ExI K D)(X:K.In s.heap)(p:ExAt x (.ref D) s.heap)(hq:Q () s):wpAny M A (checkBuiltinCall "BaseException.__getattribute__" ⟨[.ref x,nameV],[]⟩) Q E s:=by
 obtain⟨h,g,d,t,os⟩:=s
 have hk:builtinKind "BaseException.__getattribute__" = some .slot:=by decide +kernel
 have jC:splitId "BaseException.__getattribute__" = some ("BaseException", "__getattribute__"):=by decide +kernel
 have ha:=F.args_bexc_ga (.ref x) nameV
 have L0:=p.type (M:=M)
 have L1:=looks_mroIn (M:=M) X c.bx
 have LI:Looks M h (isInstance (.ref x) (.type "BaseException")) true:=L0.andThen L1
 simp only[checkBuiltinCall,hk,jC]
 refine wpAny_bind (LI.at ?_)
 repeat(first | lk | wp_step)
 exact hq
def ex_entry{tk:Tok}{Q:Fin→Shared→Prop}(c:ExI K D)(X:K.In s.heap)(p:ExAt x (.ref D) s.heap)(hq:Q (.done (.ret (.ref D))) s):wpAny (model prog w) A (Builtin.«object.__getattribute__» ⟨[.ref x,.str "__class__" tk],[]⟩) Q E s:=by
 have p':=p
 have X':=X
 obtain⟨h,g,d,t,os⟩:=s
 have L0:=p.type (M:=model prog w)
 have M1:=ex_find (M:=model prog w) c X p
 refine wpAny_bind (wpAny_pure (wpAny_bind (wpAny_pure (wpAny_bind (Looks.at L0 (wpAny_bind (M1.at ?_)))))))
 show wpAny _ _ (holding _ (call _ [_,.ref x,.ref D]) >>= ret) _ _ _
 exact wpAny_bind (wpAny_holding (wpAny_call (ex_class_get (s:=⟨h,g,d,t,os⟩) X p c.ob (wpAny_pure hq))))
def ex_class{Q:Option Value→Shared→Prop}(c:ExI K D)(X:K.In s.heap)(p:ExAt x (.ref D) s.heap)(h:Q (some (.ref D)) {s with toks:=s.toks+1}):wpAny (model prog w) A (getAttr? (.ref x) "__class__") Q E s:=by
 obtain⟨hh,g,d,t,os⟩:=s
 have L0:=p.type (M:=model prog w)
 have L1:=looks_findIn (M:=model prog w) X c.ga
 have L2:=looks_findIn (M:=model prog w) X c.nga
 have oO:(Value.builtin "BaseException.__getattribute__" == Value.builtin "object.__getattribute__")=false:=by decide +kernel
 have f3:=PySem.F.excAttr_ValueError.ga.bind (.ref x)
 unfold getAttr? getAttrBy? getAttrBy
 refine wpAny_bind (wpAny_mkText (wpAny_bind (wpAny_attempt (wpAny_holding (wpAny_bind (Looks.at L0 (wpAny_bind (L1.at ?_))))))))
 dsimp only
 rw[if_neg (by rw[oO,Bool.and_false];exact Zc)]
 unfold getAttrByItsOwn hookBefore
 rw[if_pos (show onTheHeap (Value.ref D)=true from rfl)]
 refine wpAny_bind (Looks.at L2 (wpAny_bind (wpAny_attempt (wpAny_holding ?_))))
 unfold callGetattribute
 rw[if_neg (by exact Zc)]
 unfold boundAndCalled
 rw[f3]
 refine wpAny_bind (wpAny_pure ?_)
 show wpAny _ _ (call (.builtin "BaseException.__getattribute__") [.ref x,.str "__class__" t]) _ _ _
 refine wpAny_call (codeAny_call_builtin PySem.F.excAttr_ValueError.ga.plain PySem.F.entry_bexc_ga (ex_check (s:=⟨hh,g,d,t+1,os⟩) c X p (ex_entry (s:=⟨hh,g,d,t+1,os⟩) c X p ?_)))
 show wpAny _ _ (handedOut (.ref D)) _ _ _
 exact handed_on rfl (wpAny_pure h)
end
theorem ex_kit{K:Nb}{x D:Nd}(c:ExI K D):KitX K (.ref x) (.ref D) (ExAt x (.ref D)) where
 ty:=λ_ _ _ p=>p.type
 it:=λ_ _ X _=>by
  have cQ:=c.cl
  unfold clsIn at cQ
  split at cQ
  ·rename_i c' d' cd' kQ ho
   intro A' Q' E' s' k q
   unfold isType loadHead
   exact wpAny_bind (wpAny_loadPart (k _ _ (X _ _ ho)) (wpAny_pure q))
  ·cases cQ
 ne:=λh tp dd a7 n sl X jx=>by
  have cQ:=c.cl
  refine Bool.eq_false_iff.mpr λq=>?_
  have e:D=tp:=Value.ref.inj (beq_iff_eq.mp q)
  subst e
  unfold clsIn at cQ
  split at cQ
  ·rename_i c' d' cd' kQ ho
   have z:=(X _ _ ho).symm.trans jx
   cases z
  ·cases cQ
 ca:=λX p k=>ex_class c X p k
section
variable{X:Cx}
end
section
variable{X:Cx}{k:Nat}{f:Nd}{fd:Nq}{ps:Nf}{sp:Sp}{dvs:List V}{ds:Ni}{x:Str}{p pos:Pos}{e:Expr}{es:Np}{t:TA}
end
end L2
end
section
namespace L2
open PySem PySem.Spec PyProof.Rows
section
variable{X:Cx}
end
abbrev Cx.held(X:Cx)(a:Nd)(o:Obj):Cx:={X with A:=X.A.mark (some (.ref a)),calm:=false,xe:=λ_ _=>False,pn:=(a,o)::X.pn}
def Under(X:Cx):Prop:=∃a o,X.A.handled=some (.ref a)∧(a,o)∈X.pn∧LoneO o
section
variable{X:Cx}{a6:Nc}{σ:St}{H:Hp}{s:Nh}{E:Na}{a:Nd}{ob:Obj}
def zg2(h:LoneO ob):Under (X.held a ob):=⟨a,ob,rfl,Qe,h⟩
def Inv.held(I:Inv X (a6++[(a,ob)]) σ H s):Inv (X.held a ob) a6 σ H s :=
 ⟨⟨I.ok.mod,I.ok.kind,I.ok.glob,I.ok.blt,I.ok.above,I.ok.inj,I.ok.has,I.ok.cab,(fun h=>nomatch h),I.ok.frames,I.ok.stk,I.ok.exf,I.ok.bs,I.ok.bsz,I.ok.noex,I.ok.exfs,I.ok.funs,I.ok.frf⟩,I.os,I.bare,I.base,I.loc,I.cell,I.free,I.freeC,
  λp hp=>I.pin p (by
   simp only[Qd,Qh]at hp ⊢
   rcases hp with(z | z) | z
   ·exact .inr (.inr (.inl z))
   ·exact .inl z
   ·exact .inr (.inl z)),I.hok,I.len⟩
def Inv.unheld(ok:X.Ok)(I:Inv (X.held a ob) a6 σ H s):Inv X a6 σ H s :=
 ⟨ok,I.os,I.bare,I.base,I.loc,I.cell,I.free,I.freeC,λp hp=>I.pin p (Qi _ hp),I.hok,I.len⟩
def SP.offH{D:Ends}{i:Nat}{x:Str}{pos:Pos}{f:Flow}{E:Na}{M:Model}{A:No}(ok:X.Ok)(hN:X.N.Nodup)(hi:X.N[i]?=some x)(hk:X.env.scope.names.lookup x=some .local)(h:SP (X.held a ob) a6 (D.off i) f s) :
  wpAny M A (do bindName X.env x .none;unbindBehindTheSuite X.env x pos) (λ_ s'=>SP X a6 D f s') E s:=by
 cases f with
 |next=>obtain⟨σ',H',I,q⟩:=h;exact zd8 (I.unheld ok) hN hi hk λs' I'=>⟨_,H',I',q⟩
 |brk=>obtain⟨σ',H',I,q⟩:=h;exact zd8 (I.unheld ok) hN hi hk λs' I'=>⟨_,H',I',q⟩
 |cont=>obtain⟨σ',H',I,q⟩:=h;exact zd8 (I.unheld ok) hN hi hk λs' I'=>⟨_,H',I',q⟩
 |ret u=>obtain⟨v,σ',H',I,r,q⟩:=h;exact zd8 (I.unheld ok) hN hi hk λs' I'=>⟨v,_,H',I',r,q⟩
def tTryP(K:Nb)(c:Value)(i:Nat)(EX:St→XK)(tb:TS)(ts:Addr→Obj→TS):TS:=λD σ H=>Aj2 (tb D σ H) (∀(σ':St) (H':Hp) (a:Nd) (o:Obj),σ'.length=σ.length→EX σ' o.cls none H'→H' a=none →
 Aj2 (PySem.W.exmOne K o.cls c=some true) (ts a o (D.off i) (σ'.set i (some (.ref a))) H'))
def ps_tryP{body suite:List Stmt}{b₀:Stmt}{x n:Str}{np cG pos:Pos}{i:Nat}{c:Value}{EX:St→XK}{tb:TS}{ts:Addr→Obj→TS}(ap:X.stack=X.env::X.outer)(nH:X.ex=[])(hfm:X.env.frame=some X.env.locals)(hb:∀(E':Na) (pn:Nc),PassesS (CXr X.prog X.w) (X.tried E' pn) EX→PSs (X.tried E' pn) body tb)(hs:∀a o,LoneO o→PSs (X.held a o) (b₀::suite) (ts a o))(hN:X.N.Nodup)(hi:X.N[i]?=some n)(hk:X.env.scope.names.lookup n=some .local)(hg:Gl X x)(hm:X.mg x=some c)(dv:(x==("__debug__" : Str))=false:=by decide) :
  PS X (.Try body [.ExceptHandler (some (.Name x np)) (some n) (b₀::suite) cG] [] [] pos) (tTryP X.K c i EX tb ts):=by
 intro a6 s σ H D I h
 obtain⟨h1,h2⟩:=h
 refine wpAny_Try_except ?_
 refine wpAny_mono (hb (λe s₁=>wpAny (model X.prog X.w) X.A (noteFrame e X.env) (λ_ s₂=>wpAny (model X.prog X.w) X.A (setFlight e none) (λ_ s₃=>wpAny (model X.prog X.w) X.A (handleBy e X.env [.ExceptHandler (some (.Name x np)) (some n) (b₀::suite) cG]) (SP X a6 D) X.xe s₃) X.xe s₂) X.xe s₁) (X.pn++a6) ?_ [] s σ H D (I.tried _) h1) (λfl s1 hq=>?_) λ_ _ z=>z
 ·intro pins' σ' H1 s1 e s' J hx
  obtain⟨a,cls,a0,H',B,rfl,os,bare,un,hok,hB,hT,fl,ln,q⟩:=hx
  have J:Inv X a6 σ' H1 s1:=J.untried (pn:=[]) I.ok
  rw[ap]at fl
  have iu:X.A.frames=some (X.env::X.outer):=by rw[I.ok.frames,ap]
  refine noteR zfa iu hfm fl ln λh₄ ln₄ held₄ us₄=>?_
  refine landR (s:={s' with heap:=h₄}) held₄.1 held₄.2.1 held₄.2.2.1 held₄.2.2.2 ln₄ λh₅ ln₅ fl₅ us₅=>?_
  have J₅:Inv X a6 σ' H' {s' with heap:=h₅}:=J.fly os bare un hok hB hT fl.1 fl₅.1 (by rw[ap];exact fl.2.2.1) (us₄.trans us₅)
  have na:H' a=none:=by
   cases z:H' a with
   |none=>rfl
   |some o=>obtain⟨u,hu⟩:=hT a o z;rw[fl.2.1]at hu;cases hu
  have n1:s1.heap.get? a=none:=by
   cases z:s1.heap.get? a with
   |none=>rfl
   | some o =>
    exfalso
    by_cases hf:a∈frs X.stack
    ·rw [ap] at hf
     obtain⟨_,o',aw,hd⟩:=fl.2.2.1.mem hf
     obtain⟨oe,vs,hoe,_,rM,_⟩:=fl.first
     rw[aw]at hoe;cases hoe
     exact hd vs rM
    ·obtain ⟨u,hu⟩:=hB a o z hf
     rw[fl.2.1]at hu;cases hu
  obtain⟨ob,gB,mr⟩:=fl₅.there
  have LT:PySem.W.Looks (model X.prog X.w) h₅ (typeOf (.ref a)) cls:=mr▸(PySem.W.Looks.ld gB).andThen .now
  have he:PySem.W.exmOne X.K cls c=some true:=by
   subst mr
   exact(h2 σ' H' a ob (by rw[J.len,I.len]) q na).1
  refine wpAny_handleBy_cons (codeAny_handlers_test (ze2 (J₅.suite a) hg hm ?_ dv)) (by intro z;cases z)
  refine(PySem.W.exm_one J₅.kIn LT he).here ?_
  refine codeAny_handlers_suite_as ?_
  refine landR (s:={s' with heap:=h₅}) fl₅.1 fl₅.2.1 fl₅.2.2.1 fl₅.2.2.2.at ln₅ λh₆ ln₆ fl₆ us₆=>?_
  have J₆:Inv X a6 σ' H' {s' with heap:=h₆}:=J.fly os bare un hok hB hT fl.1 fl₆.1 (by rw[ap];exact fl.2.2.1) ((us₄.trans us₅).trans us₆)
  obtain⟨o6,ho6,L6⟩:=ln₆
  have gr:o6.cls=cls:=by obtain⟨o,z,hc⟩:=fl₆.there;rw[ho6]at z;cases z;exact hc
  obtain⟨_,hsu⟩:=h2 σ' H' a o6 (by rw[J.len,I.len]) (by rw[gr];exact q) na
  have J₇:Inv X (a6++[(a,o6)]) σ' H' {s' with heap:=h₆}:=by
   refine J₆.pins_of λp hp=>?_
   rcases Qd.mp hp with z | z
   ·exact J₆.pin p (Qk _ z)
   ·cases Qb.mp z
    refine⟨ho6,na,?_,?_,λv z=>by obtain⟨vs,hd,_⟩:=L6;rw[hd]at z;cases z⟩
    ·rintro rfl
     obtain⟨m,⟨o,_,_,ho,_⟩,_⟩:=J.loc
     rw[n1]at ho;cases ho
    ·intro z
     obtain⟨_,o,ho,_⟩:=J.funs.mem z
     rw[n1]at ho;cases ho
  refine zhq (v:=.ref a) J₇ hN hi (.inl hk) rfl (λs₈ I₈=>?_) (.inr hk)
  refine wpAny_mono (hs a o6 L6 a6 s₈ _ _ (D.off i) I₈.held hsu) (λf s₉ hq=>?_) λ_ _ z=>z.elim
  exact SP.offH I.ok hN hi hk hq
 ·have hq:=SP.untried I.ok hq
  cases fl with
  |next=>exact wpAny_pure hq
  |brk=>exact hq
  |cont=>exact hq
  |ret u=>exact hq
def zca{K:Nb}{ob:Obj}(hK:X.K=K)(hp:(a,ob)∈X.pn):zb2 X (.builtin "isinstance") (λxs H Q=>Ex4 λ(C:Nd) (c:V) (u:Value) (b:Bool)=>Aj6 (xs=[.ref a,c]) (ob.cls=.ref C) (ExI K C) (∀u',RelV c u'→u'=u) (PySem.W.kitOne K (.ref C) u=some b) (Q (.bl b) H)):=by
 subst hK
 intro a6 s σ H xs us Q I r h
 obtain⟨C,c,u,b,rfl,ha,ci,hc,e,q⟩:=h
 obtain⟨u1,u2,rfl,r1,r2⟩:=vals2 r
 cases r1
 rw[hc _ r2]
 exact PySem.W.kia_one (ex_kit ci) I.kIn ⟨ob,(I.pin (a,ob) (Qn _ hp)).1,ha⟩ e (λz=>nomatch z) λtk=>⟨.bl b,H,I.tok tk,rfl,q⟩
end
def zid:entryFor table "proto.unchain" = some Builtin.«proto.unchain»:=entryFor_of_tree (by kernel_rfl)
section
variable{prog:Nj}{w:Nk}{A:No}{E:Na}{s:Nh}
structure Lone(h:Nm)(a:Nd):Prop where
 ex:∃o vs,h.get? a=some o∧o.data=.fields vs∧vs[2]?=some .none
def raise_under{α:Type}{Q:α→Shared→Prop}{e a:Nd}{oe:Obj}{ves:Array Value}(hh:A.handled=some (.ref a))(L:Lone s.heap a)(he:s.heap.get? e=some oe)(hde:oe.data=.fields ves)(hs:2<ves.size)(aJ:a≠e)(hE:E (.ref e) {s with heap:=s.heap.update e (Obj.mapFields λvs=>vs.setIfInBounds 2 (.ref a))}):wpAny (model prog w) A (raiseNew (.ref e)) Q E s:=by
 obtain⟨o,vs,ho,hd,h2⟩:=L
 have hb:(Value.ref a != Value.ref e)=true:=by
  show(!(Value.ref a==Value.ref e))=true
  rw[beq_eq_false_iff_ne.mpr λz=>aJ (by injection z)];rfl
 unfold raiseNew
 refine wpAny_bind (wpAny_handled ?_)
 rw[hh]
 dsimp only
 rw[if_pos hb]
 refine wpAny_bind (wpAny_holding (wpAny_runValue (codeAny_builtin zid ?_)))
 unfold Builtin.«proto.unchain»
 dsimp only
 refine wpAny_bind (wpAny_field ho hd h2 ?_)
 rw[if_pos (by rfl)]
 refine wpAny_pure ?_
 refine wpAny_bind ?_
 unfold updateField
 refine wpAny_bind (wpAny_load he ?_)
 rw[hde]
 dsimp only
 rw[if_pos hs]
 exact wpAny_update he (wpAny_throw hE)
def zgh{h:Nm}{a:Nd}(L:Lone h a)(o:Obj):Lone (h.push o) a:=let⟨o',vs,e,x⟩:=L.ex;⟨o',vs,Qf _ e,x⟩
def zh8{h h':Nm}{a it:Nd}(L:Lone h a)(hn:a≠it)(k:Heap.ExtBut it h h'):Lone h' a:=let⟨o',vs,e,x⟩:=L.ex;⟨o',vs,k a _ hn e,x⟩
def zg4{α:Type}{a:Nd}{Q:α→Shared→Prop}(hh:A.handled=some (.ref a))(L:Lone s.heap a)(hE:∀(x:Nd) (h':Nm),(∀b o,s.heap.get? b=some o→h'.get? b=some o)→(∃o,h'.get? x=some o∧o.cls=.type "StopIteration")→E (.ref x) {s with heap:=h'}) :
  wpAny (model prog w) A (newExc (.type "StopIteration") [] >>= λx=>(raiseNew x:Sem α)) Q E s:=by
 have la:a<s.heap.objs.size:=let⟨_,_,e,_⟩:=L.ex;Qr e
 refine wpAny_bind ?_
 simp only[newExc,newTuple]
 refine wpAny_bind (wpAny_newObj_type ?_ (by size_fits))
 refine wpAny_bind (m:=firstArgMember _ _) (wpAny_of_eq (a:=Value.none) (by simp only[firstArgMember];rfl) ?_)
 refine wpAny_newObj_type ?_ (by size_fits)
 have hz:(s.heap.push {cls:=.type "tuple",data:=.seq #[]}).objs.size=s.heap.objs.size+1:=by
  simp[Heap.push]
 refine raise_under (oe:=_) (ves:=_) hh (zgh (zgh L _) _) (Qw _ rfl) rfl ?_ ?_ (hE _ _ (λb o e=>?_) ⟨_,Uo _ (Qw _ rfl) (Jc (Wf rfl _)),Xd ..⟩)
 ·simp;omega
 ·exact Zj (by rw[hz];exact Ul la)
 ·have lb:=Qr e
  refine(Yd _ _ ?_).trans (Qf _ (Qf _ e))
  exact Yq (by rw[hz];exact Ul lb)
def zhe{it a x:Nd}{Q:Option Value→Shared→Prop}{h':Nm}(c:∃o,h'.get? x=some o∧o.cls=.type "StopIteration")(hQ:Q none {s with heap:=h'}) :
  wpAny (model prog w) A (do if ←isInstance (.ref x) (.type "StopIteration") then pure (none:Option Value) else throw (.ref x)) Q E {s with heap:=h'} :=
 wpAny_bind (wpAny_isInstance (T := "StopIteration") (b:=true) c isSubtype_stop (wpAny_pure hQ))
def zgw{it l a:Nd}{i:Nat}{items:Array Value}{Q:Option Value→Shared→Prop}(hh:A.handled=some (.ref a))(L:Lone s.heap a)(cu:a≠it)(gd:s.heap.IsListIter it l i)(hl:s.heap.IsList l items)(hx:items[i]?=none)(hQ:∀h',Heap.ExtBut it s.heap h'→Q none {s with heap:=h'}):wpAny (model prog w) A (pyNext (.ref it)) Q E s:=by
 have hV:=gd.typeIs
 obtain⟨ob,gB,cA,ke⟩:=gd
 obtain⟨ol,jL,_,nl,gG⟩:=hl
 unfold pyNext
 refine wpAny_bind (wpAny_attempt (wpAny_callSpecial?_slot (name:=Str.ofString "__next__") hV slot_listiter_next (wpAny_call_entry slot_listiter_next hV entry_listiter_next ?_ (args_listiter_next _))))
 refine(wpAny_bind (wpAny_field gB ke (x:=.ref l) rfl ?_):wpAny _ _ (field (.ref it) 0 >>= _) _ _ s)
 refine(wpAny_bind (wpAny_field gB ke (x:=.int i 0) rfl ?_):wpAny _ _ (field (.ref it) 1 >>= _) _ _ s)
 refine(wpAny_bind (wpAny_seqItems jL gG ?_):wpAny _ _ (seqItems? (.ref l) >>= _) _ _ s)
 rw[Ws]
 dsimp only
 rw[hx]
 refine wpAny_bind (wpAny_rule (wpAny_bind (wpAny_setField gB ke (by simp) ?_)))
 exact zg4 hh (zh8 L cu (Kt (Wn ..))) λx h' k c=>zhe (it:=it) (a:=a) c (hQ h' λb o hb e=>k b o (Kt (Wn ..) b o hb e))
def zfy{it l a:Nd}{i:Nat}{items:Array Value}{Q:Option Value→Shared→Prop}(hh:A.handled=some (.ref a))(L:Lone s.heap a)(cu:a≠it)(gd:IsTupIter s.heap it l i)(hl:IsTup s.heap l items)(hx:items[i]?=none)(hQ:∀h',Heap.ExtBut it s.heap h'→Q none {s with heap:=h'}):wpAny (model prog w) A (pyNext (.ref it)) Q E s:=by
 obtain⟨ob,gB,cA,ke⟩:=gd
 have hV:s.TypeIs (.ref it) "tuple_iterator" := ⟨ob,gB,cA⟩
 obtain⟨ol,jL,_,nl,gG⟩:=hl
 unfold pyNext
 refine wpAny_bind (wpAny_attempt (wpAny_callSpecial?_slot (name:=Str.ofString "__next__") hV Wm (wpAny_call_entry Wm hV Kw ?_ (Kl _))))
 refine(wpAny_bind (wpAny_field gB ke (x:=.ref l) rfl ?_):wpAny _ _ (field (.ref it) 0 >>= _) _ _ s)
 refine(wpAny_bind (wpAny_field gB ke (x:=.int i 0) rfl ?_):wpAny _ _ (field (.ref it) 1 >>= _) _ _ s)
 refine(wpAny_bind (wpAny_seqItems jL gG ?_):wpAny _ _ (seqItems? (.ref l) >>= _) _ _ s)
 rw[Ws]
 dsimp only
 rw[hx]
 refine wpAny_bind (wpAny_rule (wpAny_bind (wpAny_setField gB ke (by simp) ?_)))
 exact zg4 hh (zh8 L cu (Kt (Wn ..))) λx h' k c=>zhe (it:=it) (a:=a) c (hQ h' λb o hb e=>k b o (Kt (Wn ..) b o hb e))
def apart_under{t a:Nd}{items:Array Value}{Q:List Value→Shared→Prop}(hh:A.handled=some (.ref a))(L:Lone s.heap a)(ht:IsTup s.heap t items)(hQ:∀h',Heap.ExtBut s.heap.objs.size s.heap h'→Q items.toList {s with heap:=h'}):wpAny (model prog w) A (unpackItems (.ref t) items.size none) Q E s:=by
 have nt:t≠s.heap.objs.size:=by obtain⟨o,ho,_⟩:=ht;exact Zj (Qr ho)
 have na:a≠s.heap.objs.size:=by obtain⟨⟨o,_,ho,_⟩⟩:=L;exact Zj (Qr ho)
 unfold unpackItems notIterableAtAll
 refine wpAny_bind (wpAny_bind (wpAny_specialOf ht.typeIs slot_tuple_iter.lookup (wpAny_pure ?_)))
 rw[if_neg (by simp)]
 refine wpAny_bind (wpAny_holding (iter_tuple ht ?_))
 refine wpAny_bind (wpAny_holding (draw_tuple nt items.size 0 _ _ ⟨_,Qw _ rfl,rfl,rfl⟩ (ht.push _) (by omega) λh1 it1 k1=>?_))
 rw[List.drop_zero,Qz (by simp),if_neg (by simp)]
 refine wpAny_bind (wpAny_holding (zfy hh (zh8 (zgh L _) na k1.extBut) na it1 ((ht.push _).extBut k1.extBut nt) (by simp) λh2 k2=>?_))
 rw[if_neg (by simp)]
 exact wpAny_pure (hQ h2 λb o hb e=>k2 b o hb (k1.extBut b o hb (Qf _ e)))
def assign_under{env:Env}{elts:Np}{x1}{pos:Pos}{t a:Nd}{items:Array Value}{Q:Unit→Shared→Prop}(hh:A.handled=some (.ref a))(L:Lone s.heap a)(ht:IsTup s.heap t items)(hn:(assignEach elts env).length=items.size)(ap:(assignEach elts env).findIdx? (·.1)=none)(h:∀h',Heap.ExtBut s.heap.objs.size s.heap h'→wpAny (model prog w) A (assignInOrder ((assignEach elts env).map (·.2)) items.toList) Q E {s with heap:=h'}) :
  wpAny (model prog w) A (assign (.Tuple elts x1 pos) env (.ref t)) Q E s:=by
 rw[assign_Tuple]
 refine wpAny_bind (wpAny_standAt ?_)
 unfold unpack
 rw[hn,ap]
 exact wpAny_bind (wpAny_holding (apart_under hh L ht h))
end
structure TurnU(P:Nj)(w:Nk)(K:Nb)(tg:Expr)(J:It)(fp:Nl)(it:Nd)(tn:Nat→Heap→Prop):Prop where
 obj:∀i h,tn i h→∀b∈fp,∃o,h.get? b=some o∧∀v,o.data≠.cell v
 keep:∀i h h',tn i h→(∀b∈fp,∀o,h.get? b=some o→h'.get? b=some o)→tn i h'
 item:∀(X:Cx),X.prog=P→X.w=w→X.K=K→Under X→∀(i:Nat) (a6:Nc) (s:Nh) (σ:St) (H:Hp) (E:Na),Inv X a6 σ H s→(∀b∈fp,FpOk X a6 H b)→tn i s.heap→J.go i H →
  wpAny (model P w) X.A (pyNext (.ref it)) (λr s1=>∃u,r=some u ∧
   wpAny (model P w) X.A (letOwnedTupleGo tg (.ref it) u) (λ_ s2=>∃x H',Inv X a6 σ H' s2∧RelV x u∧J.yld i H x H'∧tn (i+1) s2.heap∧∀b∈fp,H' b=none) E s1) E s
 done:∀(X:Cx),X.prog=P→X.w=w→X.K=K→Under X→∀(i:Nat) (a6:Nc) (s:Nh) (σ:St) (H:Hp) (E:Na),Inv X a6 σ H s→(∀b∈fp,FpOk X a6 H b)→tn i s.heap→J.stop i H →
  wpAny (model P w) X.A (pyNext (.ref it)) (λr s1=>r=none∧Inv X a6 σ H s1) E s
 self:∀(A:No) (i:Nat) (s:Nh) (Q:Na) (E:Na),tn i s.heap→Q (.ref it) s→wpAny (model P w) A (pyIter (.ref it)) Q E s
inductive PIEU(X:Cx)(a6:Nc)(σ:St)(tg:Expr)(R:It→Hp→Prop)(itv:Value)(s2:Nh):Prop
 |mk (it:Nd) (fp:Nl) (tn:Nat→Heap→Prop) (J:It) (H':Hp) (h0:itv=.ref it) (h1:Inv X a6 σ H' s2) (h2:TurnU X.prog X.w X.K tg J fp it tn) (h3:tn 0 s2.heap) (h4:(∀b∈fp,FpOk X a6 H' b)) (h5:R J H'):PIEU X a6 σ tg R itv s2
def PIU(X:Cx)(tg iter:Expr)(wi:TI):Prop :=
 ∀(a6:Nc) (s:Nh) (σ:St) (H:Hp) (R:It→Hp→Prop),Inv X a6 σ H s→wi σ H R →
  wpAny (model X.prog X.w) X.A (eval iter X.env) (λv s1=>wpAny (model X.prog X.w) X.A (pyIter v) (PIEU X a6 σ tg R) X.xe s1) X.xe s
def lone_of{X:Cx}{a6:Nc}{σ:St}{H:Hp}{s:Nh}{a:Nd}{o:Obj}(I:Inv X a6 σ H s)(hp:(a,o)∈X.pn)(L:LoneO o):Lone s.heap a :=
 let⟨vs,hd,h2⟩:=L
 ⟨o,vs,(I.pin (a,o) (Qn _ hp)).1,hd,h2⟩
theorem turn_listU{P:Nj}{w:Nk}{K:Nb}{tg:Expr}(a it:Nd):TurnU P w K tg (Itl K a) [it] it (λi h=>h.IsListIter it a i) where
 obj:=(zd9 (P:=P) (w:=w) (K:=K) (tg:=tg) a it).obj
 keep:=(zd9 (P:=P) (w:=w) (K:=K) (tg:=tg) a it).keep
 self:=(zd9 (P:=P) (w:=w) (K:=K) (tg:=tg) a it).self
 item:=by
  intro X hP hw hK hc i a6 s σ H E I hf st hg
  subst hP hw hK
  obtain⟨xs,x,hq,hx⟩:=hg
  obtain⟨a7,rv,p,hz⟩:=I.list hq
  obtain⟨u,hu,ru⟩:=rv.get hx
  obtain⟨f0,f1,f2,f3,f4,f5⟩:=hf it (by simp)
  refine wpAny_pyNext_list_item st p.isList (x:=u) (by simpa using hu) λh' a9 sb=>?_
  have I1:Inv X a6 σ H {s with heap:=h'}:=I.turned (t':=s.toks) (λb o hb e=>(sb.2 b hb).trans e) f0 f1 f3 f4 f5
  obtain⟨o,e,c,d⟩:=id a9
  exact⟨u,rfl,go_of (s:={s with heap:=h'}) e c d (by decide) ⟨x,H,I1,ru,⟨rfl,λys hy=>by rw[I.list_inj hy hq];exact hx⟩,a9,λb hb=>(hf b hb).1⟩⟩
 done:=by
  intro X hP hw hK hc i a6 s σ H E I hf st hg
  subst hP hw hK
  obtain⟨xs,hq,hx⟩:=hg
  obtain⟨a7,rv,p,hz⟩:=I.list hq
  obtain⟨f0,f1,f2,f3,f4,f5⟩:=hf it (by simp)
  have hl:=rv.length
  obtain⟨e,o,hh,hp,L⟩:=hc
  exact zgw hh (lone_of I hp L) (λz=>f5 (e,o) (Qn _ hp) z) st p.isList (by simp;lia) λh' eb=>⟨rfl,I.turned (t':=s.toks) (λb o hb e=>eb b o hb e) f0 f1 f3 f4 f5⟩
section
variable{X:Cx}{tg:Expr}{pos:Pos}
def pi_listU{K:Nb}{l:Expr}{tl:TE}(hK:X.K=K)(hl:PE X l tl):PIU X tg l (iList K tl):=by
 subst hK
 intro a6 s σ H R I h
 refine thn (hl a6 s σ H _ I h) λv s1 ⟨x,H1,I1,r1,q1⟩=>?_
 obtain⟨a,e,⟨xs,hq⟩,q⟩:=q1
 subst e
 cases r1
 obtain⟨a7,rv,p,hz⟩:=I1.list hq
 refine wpAny_pyIter_list p.isList ?_
 refine⟨s1.heap.objs.size,[s1.heap.objs.size],_,_,H1,rfl,I1.kept (t':=s1.toks) λb o e=>Qf _ e,turn_listU a _,⟨_,Qw _ rfl,rfl,rfl⟩,λb hb=>?_,q⟩
 have e:b=s1.heap.objs.size:=by simpa using hb
 subst e
 exact I1.fpOk (Qg _) (I1.hok.fresh (Qg _))
def pg_tupU{K:Nb}{es:Np}{k:Nat}{t:TGs}{n:Nat}(hK:X.K=K)(hc:Under X)(h:PGs X es t)(hn:(assignEach es X.env).length=n:=by rfl)(ap:(assignEach es X.env).findIdx? (·.1)=none:=by rfl):PG X (.Tuple es k pos) (gTup K n t):=by
 subst hK
 intro a6 s σ H v u Q I r hw
 obtain⟨a,xs,e1,hq,hl,hw⟩:=hw
 subst e1
 cases r
 obtain⟨a7,rv,ht,hz⟩:=I.tuple hq
 obtain⟨e,o,hh,hp,L⟩:=hc
 refine assign_under hh (lone_of I hp L) (ht:IsTup _ _ _) (by simp[hn,←hl,rv.length]) ap λh' hx=>?_
 have I1:Inv X a6 σ H {s with heap:=h'}:=I.kept (t':=s.toks) λb o e=>hx b o (Zj (Qr e)) e
 exact h a6 _ σ H xs _ Q I1 (by simpa using rv) hw
end
section
variable{X:Cx}{sc:Scope}{oz:Option Str}{M:Nf}{ix:Nr}{a6:Nc}{σ:St}{H:Hp}{s:Nh}{tg elt iter:Expr}{ifs:Np}{pos:Pos}{g:TG}{tc:TT}{te:TE}{wi:TI}
def under_blk{C:Nd}{ex:Nl}(hc:Under X):Under (zcw X sc oz M C a6 ex s H) :=
 let⟨a,o,hh,hp,L⟩:=hc
 ⟨a,o,hh,Qn _ hp,L⟩
def lc_blockU{fp:Nl}{it:Nd}{tn:Nat→Heap→Prop}{J:It}{Q:VK}{RR:Value→Addr→Result→Shared→Prop}{E:Na}(B:BlkG X sc oz M ix)(hc:Under X)(hg:∀C ex s H,PG (zcw X sc oz M C a6 ex s H) tg g)(ht:∀C ex s H,PTs (zcw X sc oz M C a6 ex s H) ifs tc)(he:∀C ex s H,PE (zcw X sc oz M C a6 ex s H) elt te)(I:Inv X a6 σ H s)(T:TurnU X.prog X.w X.K tg J fp it tn)(h0:tn 0 s.heap)(hf:∀b∈fp,FpOk X a6 H b)(q:rLC g tc te Q J (inner ix σ) H)(kG:∀D C m ys H' s',Inv X a6 σ (upd H' D (.lst ys)) s'→Q (.ref D) (upd H' D (.lst ys))→s'.heap.Ns C m→upd H' D (.lst ys) C=none→s.heap.objs.size<C→RR (.ref D) C (.ok .next) s') :
  wpAny (model X.prog X.w) X.A (newList []) (λae s₃=>wpAny (model X.prog X.w) X.A (newFunctionEnv sc X.env.globals (clOf sc X.env) [] X.env.qual none .none (some X.env)) (λcenv s₄ =>
   codeAny (model X.prog X.w) X.A (.compStart (.ListComp elt [⟨tg,iter,ifs,0⟩] sc pos) 0 (.ref it) ae {cenv with scope:=relabel sc X.env}) (RR ae cenv.locals) s₄) E s₃) E s:=by
 refine wpAny_newObj_type (zha B.one B.psh ?_)
 dsimp only
 generalize hD:s.heap.objs.size=D
 generalize eT:s.heap.push {cls:=.type "list",dict:=none,data:=.seq ([]:List Value).toArray}=g2
 generalize jX:och oz (g2.push {cls:=.type "dict",data:=.dict #[]})=h₁
 have kp:∀(q:Nm) (b:Nd) (o:Obj),q.get? b=some o→(och oz q).get? b=some o:=λq b o e=>by
  cases oz with
  |none=>exact e
  |some _=>exact Qf _ e
 have hns₁:h₁.Ns g2.objs.size (λ_=>none):=jX▸(Heap.Ns.new g2 (.type "dict")).keeps λb o e=>kp _ b o e
 have hz₁:∀z,oz=some z→h₁.IsCell (g2.objs.size+1) none:=λz ez=>by
  have e:(g2.push {cls:=.type "dict",data:=.dict #[]}).objs.size=g2.objs.size+1:=Wl ..
  rw[←jX,←e,ez]
  exact⟨_,Qw _ rfl,rfl⟩
 have hC:g2.objs.size=D+1:=by rw[←eT,Wl,hD]
 have k2:∀b o,s.heap.get? b=some o→g2.get? b=some o:=λb o e=>by rw[←eT];exact Qf _ e
 have I3:Inv X a6 σ H {s with heap:=g2}:=I.kept (t':=s.toks) k2
 have HD:H D=none:=I.hok.fresh (by rw[hD];exact Qg _)
 have fD:FpOk X a6 H D:=I.fpOk (by rw[hD];exact Qg _) HD
 have D2:g2.get? D=some {cls:=.type "list",dict:=none,data:=.seq ([]:List Value).toArray}:=by rw[←eT,←hD];exact Qw _ rfl
 have k1:∀b o,g2.get? b=some o→h₁.get? b=some o:=λb o e=>jX▸kp _ b o (Qf _ e)
 have fpx:∀b∈D::fp,FpOk X a6 H b:=λb hb=>by
  rcases Qh.mp hb with e | e
  ·rw[e];exact fD
  ·exact hf b e
 have fplt:∀b∈D::fp,b<g2.objs.size:=λb hb=>by
  rcases Qh.mp hb with e | e
  ·rw[e,hC];exact Ya _
  ·obtain ⟨o,q,_⟩:=T.obj _ _ h0 b e
   exact Qr (k2 b o q)
 have fpD:D∉fp:=λhm=>by
  obtain⟨o,q,_⟩:=T.obj _ _ h0 D hm
  have:=Qr q
  rw[hD]at this
  exact Ym _ this
 generalize ak:zcw X sc oz M g2.objs.size a6 (D::fp) {s with heap:=g2} H=Y
 have IY:Inv Y [] (inner ix σ) H {s with heap:=h₁,toks:=s.toks+([]:List (Str×Value)).length}:=by
  rw[←ak]
  exact zic B I3 fpx fplt rfl hns₁ hz₁ k1 rfl rfl
 have Yg:=ak▸hg g2.objs.size (D::fp) {s with heap:=g2} H
 have Yt:=ak▸ht g2.objs.size (D::fp) {s with heap:=g2} H
 have Ye:=ak▸he g2.objs.size (D::fp) {s with heap:=g2} H
 have eP:Y.prog=X.prog:=by rw[←ak];rfl
 have eW:Y.w=X.w:=by rw[←ak];rfl
 have eK:Y.K=X.K:=by rw[←ak];rfl
 have eA:Y.A=X.A:=by rw[←ak];rfl
 have eC:Under Y:=by rw[←ak];exact under_blk hc
 have eE:Y.env=compEnvC sc (ocl oz g2.objs.size (clOf sc X.env)) g2.objs.size X.env:=by rw[←ak];rfl
 have eX:Y.xe=λ_ _=>False:=by rw[←ak];rfl
 have eEx:Y.ex=D::fp:=by rw[←ak];rfl
 have eFs:Y.fs=frs X.stack:=by rw[←ak];rfl
 have ePn:Y.pn=X.pn++a6:=by rw[←ak];rfl
 have eL:Y.env.locals=g2.objs.size:=by rw[eE];rfl
 have om:Y.H₀=H:=by rw[←ak];rfl
 have j8:Y.s₀={s with heap:=g2}:=by rw[←ak];rfl
 have fY:∀{H':Hp} {pl:Nc} {b:Nd},b∈D::fp→H' b=none→(∀p∈pl,p.1≠b)→FpOk Y pl H' b:=λ{H' pl b} hb hn hp=>by
  obtain⟨f0,f1,f2,f3,f4,f5⟩:=fpx b hb
  refine⟨hn,?_,?_,.inl (by rw[eEx];exact hb),IY.ok.exf b (by rw[eEx];exact hb) |>.2,λp aH=>?_⟩
  ·rw[eL];exact Zj (fplt b hb)
  ·rw [eFs]
   intro z
   rcases Qh.mp (I3.stkSub b z) with q | q
   ·exact f1 q
   ·exact f2 q
  ·rw [ePn] at aH
   rcases Qd.mp aH with z | z
   ·exact f5 p z
   ·exact hp p z
 obtain⟨W,⟨m0,w0⟩,turn⟩:=q
 have loop:∀ sN:Shared,sN={ s with heap:=h₁,toks:=s.toks+([]:List (Str×Value)).length } →
   codeAny (model X.prog X.w) X.A (.compLoop (.ListComp elt [⟨tg,iter,ifs,0⟩] sc pos) 0 (.ref it) (.ref D) (compEnvC sc (ocl oz g2.objs.size (clOf sc X.env)) g2.objs.size X.env)) (RR (.ref D) g2.objs.size) sN:=by
  rintro sN rfl
  refine zfj (λn s'=>Ex6 λi τ H' ys a7 k=>Aj7 (Inv Y [] τ H' s') (tn i s'.heap) (∀b∈D::fp,H' b=none) (s'.heap.get? D=some {cls:=.type "list",data:=.seq (a7:Ni).toArray k}) (Vals ys a7) (ys.length≤sizeLine) (W i n ys τ H')) ?_ m0
   ⟨0,inner ix σ,H,[],[],0,IY,T.keep _ _ _ h0 λb _ o e=>k1 b o (k2 b o e),λb hb=>(fpx b hb).1,k1 _ _ D2,.nil,Zp _,w0⟩
  rintro n s5 ⟨i,τ,H5,ys,a7,k,I5,t5,n5,d5,v5,z5,w5⟩
  have oD:∀{s':Nh} {its':Ni} {k':Nat},s'.heap.get? D=some {cls:=.type "list",data:=.seq its'.toArray k'}→∀b∈[D],∃o,s'.heap.get? b=some o∧∀v,o.data≠.cell v:=λ{s' its' k'} e b hb=>by
   rw[Qb.mp hb]
   exact⟨_,e,λv z=>by cases z⟩
  have gT:Inv Y ([]++zb3 [D] s5.heap) τ H5 s5:=I5.pinned (λb hb=>fY (by rw[Qb.mp hb];exact Qe) (n5 b (by rw[Qb.mp hb];exact Qe)) (by simp)) (oD d5)
  have pD:∀p∈zb3 [D] s5.heap,p.1=D∧p.2={cls:=.type "list",data:=.seq a7.toArray k}:=λp hp=>by
   obtain⟨e1,e2⟩:=zel hp
   have cv:p.1=D:=Qb.mp e1
   rw[cv,d5]at e2
   exact⟨cv,(Qv e2).symm⟩
  have fN:∀{H':Hp},(∀b∈fp,H' b=none)→∀b∈fp,FpOk Y ([]++zb3 [D] s5.heap) H' b:=λhn b hb=>fY (Qi _ hb) (hn b hb) λp hp z=>by
   rw[Wu]at hp
   rw[(pD p hp).1]at z
   exact fpD (z▸hb)
  rcases turn i n ys τ H5 w5 with⟨stop,qn⟩ | ⟨go,zl,step⟩
  ·have h6:=T.done Y eP eW eK eC i _ s5 τ H5 (fun _ _=>False) gT (fN fun b hb=>n5 b (Qi _ hb)) t5 stop
   rw[eA]at h6
   refine thn h6 λr s6 ⟨hr,I6⟩=>?_
   subst hr
   have d6:s6.heap.get? D=some {cls:=.type "list",data:=.seq a7.toArray k}:=by
    have hp:=zbi (fp:=[D]) (Qb.mpr rfl) d5
    exact(I6.pin (D,_) (Qk _ hp)).1
   have H5D:H5 D=none:=n5 D Qe
   obtain⟨mL,nL,_⟩:=I6.loc
   rw[eL]at nL
   have CD:g2.objs.size≠D:=by rw[hC];exact Kx _
   refine kG D _ mL ys H5 s6 ?_ (qn D H5D) nL ?_ (by rw[hC,hD];exact Ya _)
   ·have u6:=I6.base
    rw[eFs,eEx,om,j8]at u6
    refine I3.call' (ch:=D::fp) (I6.os.trans (by rw[j8])) ⟨u6.keep,u6.slot,λb o e n hx=>?_,u6.there,λb xs e=>?_,λb o u e=>?_,λb ps e=>?_⟩ ?_ I6.bare λb hb=>?_
    ·rw[zad (λz=>hx (by rw[z];exact Qe))];exact u6.free b o e n hx
    ·rw[zad (zab e HD)];exact u6.tups b xs e
    ·rw[zad (zab e HD)];exact u6.frzs b o u e
    ·rw[zad (zab e HD)];exact u6.tbls b ps e
    ·have iF:=I6.hok
     rw[eP,eW]at iF
     intro b u e
     by_cases hb:b=D
     ·subst hb
      rw[zac]at e
      cases e
      exact⟨z5,a7,k,v5,d6⟩
     ·rw [zad hb] at e
      exact(iF b u e).stay (λc v _ q=>q) (λc q=>by rw[zad (zab q H5D)];exact q) λc xs q=>by rw[zad (zab q H5D)];exact q
    ·obtain ⟨f0,f1,f2,f3,f4,f5⟩:=fpx b hb
     exact⟨f3,f1,f4,f5⟩
   ·rw [zad CD]
    have:=I6.free
    rw[eL]at this
    exact this
  ·have h6:=T.item Y eP eW eK eC i _ s5 τ H5 (fun _ _=>False) gT (fN fun b hb=>n5 b (Qi _ hb)) t5 go
   rw[eA]at h6
   refine thn h6 λr s6 ⟨u,hr,h7⟩=>?_
   subst hr
   refine thn h7 λ_ s7 ⟨x,H7,I7,r7,y7,t7,n7⟩=>?_
   have oy:=I7.pinned (fN n7) (T.obj _ _ t7)
   have h8:=Yg _ s7 τ H7 x u _ oy r7 (step x H7 y7)
   rw[eP,eW,eA,eX,eE]at h8
   refine thn h8 λ_ s8 ⟨τ8,H8,I8,q8⟩=>?_
   have h9:=Yt _ s8 τ8 H8 _ I8 q8
   rw[eP,eW,eA,eX,eE]at h9
   refine thn h9 λok s9 ⟨H9,I9,q9⟩=>?_
   have again:∀{τ':St} {H':Hp} {s':Nh},Inv Y (([]++zb3 [D] s5.heap)++zb3 fp s7.heap) τ' H' s'→s'.heap.get? D=some {cls:=.type "list",data:=.seq a7.toArray k}∧H' D=none∧tn (i+1) s'.heap∧∀b∈fp,H' b=none:=λ{τ' H' s'} I'=>by
    have pp:∀{b:Nd} {o:Obj},b∈fp→s7.heap.get? b=some o→s'.heap.get? b=some o∧H' b=none:=λ{b o} hb e =>
     let z:=I'.pin (b,o) (Qk _ (Qk _ (zbi hb e)))
     ⟨z.1,z.2.1⟩
    have hp:=zbi (fp:=[D]) (Qb.mpr rfl) d5
    have z:=I'.pin (D,_) (Qk _ (Qn _ hp))
    refine⟨z.1,z.2.1,T.keep _ _ _ t7 λb hb o e=>(pp hb e).1,λb hb=>?_⟩
    obtain⟨o,e,_⟩:=T.obj _ _ t7 b hb
    exact(pp hb e).2
   have drop:∀{pl:Nc} {τ':St} {H':Hp} {s':Nh},Inv Y pl τ' H' s'→Inv Y [] τ' H' s':=λI'=>I'.pins_of (by simp)
   cases ok with
   |false =>
    rw[if_neg (by decide)]at q9 ⊢
    obtain⟨m',hm,w9⟩:=q9
    obtain⟨d9,H9D,t9,n9⟩:=again I9
    exact⟨m',hm,i+1,τ8,H9,ys,a7,k,drop I9,t9,λb hb=>(Qh.mp hb).elim (λe=>e▸H9D) (n9 b),d9,v5,z5,w9⟩
   | true =>
    rw[if_pos rfl]at q9 ⊢
    have gN:=Ye _ s9 τ8 H9 _ I9 q9
    rw[eP,eW,eA,eX,eE]at gN
    refine thn gN λy dG ⟨yv,cC,kN,kR,m',hm,pW⟩=>?_
    obtain⟨kK,H10D,pY,qk⟩:=again kN
    refine call_meets F.slot_list_append ⟨_,kK,rfl⟩ F.entry_list_append (F.args_list_append_2 _ _) (PySem.list_append D a7.toArray k y (by rw[Qq,←v5.length];assumption)) ⟨kK,?_⟩
    have q:=PySem.IsL.update kK (λa=>a.push y)
    have tY:(a7.toArray.push y)=(a7++[y]).toArray:=by simp
    rw[tY]at q
    have kk:∀b o,b≠D→dG.heap.get? b=some o→(dG.heap.update D (Obj.mapSeq λa=>a.push y)).get? b=some o:=λb o hb e=>(Yd dG.heap (Obj.mapSeq λa=>a.push y) (Zi hb)).trans e
    obtain⟨g0,g1,g2',g3,g4,g5⟩:=fY (pl:=[]) (H':=cC) (b:=D) Qe H10D (by simp)
    have lA:=(drop kN).turned (h':=dG.heap.update D (Obj.mapSeq λa=>a.push y)) (t':=dG.toks) (it:=D) kk H10D g1 g3 g4 g5
    exact⟨m',hm,i+1,τ8,cC,ys++[yv],a7++[y],_,lA,T.keep _ _ _ pY λb hb o e=>kk b o (λz=>fpD (z▸hb)) e,λb hb=>(Qh.mp hb).elim (λe=>e▸H10D) (qk b),q,v5.append (.cons kR .nil),
     by rw[Qj,Zx];assumption,pW⟩
 exact codeAny_compStart_list (loop _ rfl) (T.self _ 0 _ _ _ (T.keep _ _ _ h0 λb _ o e=>k1 b o (k2 b o e)) (loop _ rfl))
def pe_lcU(B:Blk X sc M ix)(hc:Under X)(hi:PIU X tg iter wi)(hg:∀C a6 ex s H,PG (zcq X sc M C a6 ex s H) tg g)(ht:∀C a6 ex s H,PTs (zcq X sc M C a6 ex s H) ifs tc)(he:∀C a6 ex s H,PE (zcq X sc M C a6 ex s H) elt te)(hs:∀x,foldedSetIterable iter X.env x=pure x:=by intro _;rfl):PE X (.ListComp elt [⟨tg,iter,ifs,0⟩] sc pos) (tLC ix wi g tc te):=by
 intro a6 s σ H Q I h
 rw[eval_ListComp]
 refine wpAny_comprehension_free (use:=none) rfl hs (zb5 (B.g.clos I)) B.g.kind B.g.names (thn (hi a6 s σ H _ I h) λv s1 h1=>thn h1 λitv s2 h2=>?_)
 obtain⟨it,fp,tn,J,H2,e,I2,T,bu,f2,q⟩:=h2
 subst e
 refine lc_blockU (oz:=none) (RR:=λae C=>compPost (model X.prog X.w) X.A X.xe none (EP X a6 σ Q) ae C) B.g hc (hg · a6) (ht · a6) (he · a6) I2 T bu f2 q ?_
 intro D C m ys H' s' I' q' hn hC ad
 refine⟨m,hn,λh' cw=>⟨.ref D,_,I'.letgo hn hC I2.lt I2.cl_lt I2.pin_lt I2.sz ad cw,rfl,q'⟩⟩
end
section
variable{X:Cx}
def zes:zb2 X (.builtin "isinstance") (λxs H Q=>Ex2 λ(a:Nd) (ys:List V)=>Aj3 (xs=[.ref a,.ty "list"]) (SqL X.K H a ys) (Q (.bl true) H)):=by
 intro a6 s σ H xs us Q I r h
 obtain⟨a,ys,rfl,hq,q⟩:=h
 obtain⟨u,w',rfl,e1,e⟩:=vals2 r
 have e':w'=Value.type "list" := e
 subst e'
 cases e1
 obtain⟨a7,rv,pl,_⟩:=I.list hq
 obtain⟨o,ho,hc,_⟩:=pl.isList
 exact IsiPair.list_list ho hc ⟨.bl true,H,I,rfl,q⟩
def call_isi_tl:zb2 X (.builtin "isinstance") (λxs H Q=>Ex2 λ(a:Nd) (ys:List V)=>Aj3 (xs=[.ref a,.ty "list"]) (H a=some (.tup ys)) (Q (.bl false) H)):=by
 intro a6 s σ H xs us Q I r h
 obtain⟨a,ys,rfl,hq,q⟩:=h
 obtain⟨u,w',rfl,e1,e⟩:=vals2 r
 have e':w'=Value.type "list" := e
 subst e'
 cases e1
 obtain⟨_,a7,rv,o,ho,hc,_⟩:=I.hok a _ hq
 exact IsiPair.tuple_list ho hc ⟨.bl false,H,I.tok _,rfl,q⟩
def call_isi_tt:zb2 X (.builtin "isinstance") (λxs H Q=>Ex2 λ(a:Nd) (ys:List V)=>Aj3 (xs=[.ref a,.ty "tuple"]) (H a=some (.tup ys)) (Q (.bl true) H)):=by
 intro a6 s σ H xs us Q I r h
 obtain⟨a,ys,rfl,hq,q⟩:=h
 obtain⟨u,w',rfl,e1,e⟩:=vals2 r
 have e':w'=Value.type "tuple" := e
 subst e'
 cases e1
 obtain⟨_,a7,rv,o,ho,hc,_⟩:=I.hok a _ hq
 exact IsiPair.tuple_tuple ho hc ⟨.bl true,H,I,rfl,q⟩
def op_eq_lists(hu:X.A.units<cLine):OpR X (compareOp .Eq) (λx y H Q=>Ex3 λl b zs=>Aj5 (x=.ref l) (y=.ref b) (SqL X.K H l (List.map V.str zs)) (SqL X.K H b (List.map V.str zs)) (Q (.bl true) H)):=by
 intro a6 s σ H x y v u Q I rx ry h
 obtain⟨l,b,zs,rfl,rfl,h1,h2,q⟩:=h
 cases rx;cases ry
 obtain⟨a7,r,pl,_⟩:=I.list h1
 obtain⟨aP,r2,gU,_⟩:=I.list h2
 have l1:=r.length
 have l2:=r2.length
 refine SeqAt.eq_listAt (e:=λ_=>true) pl.isList gU.isList (by rw[Qq,Qq];omega) hu (λj j1 j2=>?_) ⟨.bl true,H,I,?_,q⟩
 ·have a1:j < (List.map V.str zs).length:=by rw [l1];simpa using j1
  have a2:j<zs.length:=by simpa using a1
  have g:(List.map V.str zs)[j]?=some (.str zs[j]):=by simp[a2]
  obtain⟨u1,e1,t1,rfl⟩:=r.get g
  obtain⟨u2,e2,t2,rfl⟩:=r2.get g
  rw[Um,Um,(Ze.mp e1).2,(Ze.mp e2).2]
  have:=SeqAt.EqAt.str_str (A:=X.A.in1) (s:=s) zs[j] t1 zs[j] t2
  rw[beq_self_eq_true]at this
  exact this
 ·show Value.bool _=Value.bool true
  simp
end
section
variable{X:Cx}{K:Nb}{o e tg l:Expr}{es:Np}{to tl:TE}{t:TA}{name:Str}{apos cpos:Pos}{T id:String}{r:V→List V→Hp→VK→Prop}
end
section
variable{X:Cx}{CX:CXT}{k:Nat}{f C:Nd}{fd:Nq}{ps:Nf}{sp:Sp}{dvs:List V}{ds:Ni}{E:St→XK}{m:Str}{pos apos:Pos}{e o:Expr}{es:Np}{ta:TE}{t:TA}
end
def lc_words{K:Nb}{g:TG}{tc:TT}{te:TE}{Q:VK}{a:Nd}{τ:St}{H:Hp}{as:Nl}{ps:List (Str×Bool)}(T:St→Prop)(ha:SqL K H a (as.map V.ref))(hp:Paired (λa p=>H a=some (.tup [.str p.1,.bl p.2])) as ps)(hn:as.length≤sizeLine)(h0:T τ)(hs:∀b w t,H b=some (.tup [.str w,.bl t])→∀τ,T τ→∀(k1:V→St→Hp→Prop) (k0:St→Hp→Prop),(t=true→∀τ2,T τ2→k1 (.str w) τ2 H)→(t=false→∀τ2,T τ2→k0 τ2 H)→g (.ref b) τ H λ τ2 H2=>tc τ2 H2 λb H3=>if b=true then te τ2 H3 λy H4=>k1 y τ2 H4 else k0 τ2 H3)(q:∀D,H D=none→Q (.ref D) (upd H D (.lst ((ps.filter (·.2)).map λp=>V.str p.1)))):rLC g tc te Q (Itl K a) τ H:=by
 have hl:=Yf hp
 have at_:∀{as:Nl} {ps:List (Str×Bool)} (i:Nat),Paired (λa p=>H a=some (.tup [.str p.1,.bl p.2])) as ps→∀(h1:i<as.length) (h2:i<ps.length),H as[i]=some (.tup [.str ps[i].1,.bl ps[i].2]):=by
  intro as ps i r
  induction r generalizing i with
  |nil=>intro h1;cases h1
  |cons h t ih =>
   intro h1 h2
   cases i with
   |zero=>exact h
   |succ i=>exact ih i (Nat.lt_of_succ_lt_succ h1) (Nat.lt_of_succ_lt_succ h2)
 have gD:(as.map V.ref).length=as.length:=Qa ..
 refine⟨λi m ys τ H1=>Aj5 (H1=H) (T τ) (m=as.length-i) (i≤as.length) (ys=((ps.take i).filter (·.2)).map λp=>V.str p.1),⟨_,rfl,h0,rfl,Zp _,rfl⟩,?_⟩
 rintro i m ys τ H1 ⟨rfl,ht,rfl,hi,rfl⟩
 by_cases ad:i<as.length
 ·have hlp:i < ps.length:=by omega
  refine .inr ⟨⟨as.map V.ref,.ref as[i],ha,by rw[Qt,Qc ad];rfl⟩,?_,?_⟩
  ·rw [Qa]
   exact Ke (Xl ..) (by rw[Zn];omega)
  rintro x H' ⟨rfl,hx⟩
  have bE:=hx _ ha
  rw[Qt,Qc ad]at bE
  have eV:V.ref as[i]=x:=Qv bE
  subst eV
  have tk:ps.take (i+1)=ps.take i++[ps[i]]:=Qo hlp
  have cu:=at_ i hp ad hlp
  generalize ps[i]=p at tk cu
  refine hs as[i] p.1 p.2 cu τ ht _ _ (λht τ2 h2=>?_) (λht τ2 h2=>?_)
  ·exact⟨_,by exact zar1 ‹_›,rfl,h2,rfl,ad,by rw[tk,Wq,Qs,Yj (by exact ht)];rfl⟩
  ·exact⟨_,by exact zar1 ‹_›,rfl,h2,rfl,ad,by rw[tk,Wq,Qs,Yl (by rw[ht];decide)];simp⟩
 ·have e:i=as.length:=by omega
  subst e
  refine .inl ⟨⟨as.map V.ref,ha,by rw[gD];exact Qg _⟩,λD hD=>?_⟩
  rw[Qz (by omega)]
  exact q D hD
section
variable{X:Cx}
inductive RrDUp(x:V)(vs:List V)(H:Hp)(Q:VK):Prop
 |mk (a b:Nd) (kvs more:List (Key×V)) (h0:x=.ref a) (h1:vs=[.ref b]) (h2:H a=some (.dK kvs)) (h3:H b=some (.dK more)) (h4:a≠b) (h5:kvs.length+more.length≤sizeLine) (h6:Q .non (upd H a (.dK (zdb kvs more)))):RrDUp x vs H Q
def rDUp:V→List V→Hp→VK→Prop:=λx vs H Q=>RrDUp x vs H Q
def mt_dupdate:MtM X "dict.update" rDUp:=by
 intro a6 s σ H x vs v us Q I rx rv h
 obtain⟨a,b,kvs,more,rfl,rfl,e,e2,ne,hz,q⟩:=h
 cases rx
 obtain⟨u,rfl,ru⟩:=rv.one
 cases ru
 obtain⟨z,hd,ks,rel,dd⟩:=dk_of I.hok e
 obtain⟨z2,pi,ks2,lF,dd2⟩:=dk_of I.hok e2
 refine call_meetsIn PySem.F.slot_dict_update dd.typeIs PySem.F.entry_dict_update (PySem.F.args_dict_update_2 _ _) (meets_dict_update (zaq X.prog X.w) a b ne pi) ⟨ks,ks2,dd,dd2,by rw[←rel.length,←lF.length];exact hz,λh' gP _ hs=>?_⟩
 have he:∃q,h'.get? a=some q:=let⟨q,_,_,hq,_⟩:=gP;⟨q,hq⟩
 exact⟨.non,_,zif (t':=s.toks) I (by rw[e];exact True.intro) hs he (dk_new (kvs:=zdb kvs more) (Zk (zc5 ..) hz) hd (KV.merge lF rel) gP),rfl,q⟩
end
end L2
end
section
namespace K21
open PySem L2 Wb
abbrev sPot:Stmt:=top 30
abbrev zdu:Stmt:=top 31
abbrev qG:Str := "_law_digit"
inductive IspPot(K:Nb)(vs:List V)(H:Hp)(Q:VK):Prop
 |mk (a:Nd) (ns:List Int) (j:Nat) (h0:vs=[.ref a,.int j]) (h1:SqL K H a (ns.map V.int)) (h2:j≤1000) (h2':ns.length≤1000) (h3:∀(l:Nd) (b m:Int) (H':Hp),H l=none→Pot H' l b m→Keep [] H H'→Q (.ref l) H'):IspPot K vs H Q
def spPot(K:Nb):Sp:=λvs H Q _=>IspPot K vs H Q
def sq_keep(h:SqL K H a xs)(k:Keep [] H H'):SqL K H' a xs:=h.imp (λr=>r.imp (λe=>k _ _ e (by simp)) λ⟨o,e⟩=>⟨o,k _ _ e (by simp)⟩) id
section
variable{P:Nj}{w:Nk}{K:Nb}{mg:Ng}{base:Nm}
def scDigit:zan [qP,qM, "_law_digit_here"] [qP,qM] (zah zdu):=fsk
def ok_digit(F:Fun K qG qG zdu f fd):FnOk P w K mg base CX0 1 f fd [qP,qM] zfd:=by
 refine F.okL scDigit (λcdv A outer s H vs Q E hr h=>?_)
 obtain⟨p,b,m,n,rfl,⟨hp,hb,hm,bJ⟩,hn,cz,k⟩:=h
 have i0:atI [V.int b,V.int m] ((0:Nat):Int)=some (.int b):=zav rfl
 have i1:atI [V.int b,V.int m] ((1:Nat):Int)=some (.int m):=zav rfl
 refine⟨_,zae (zb1 (za2 op_gt (za0 zao (pv 0) zai (λ_ _=>rfl)) zai (zbt _))
  (zae (zar 2 scDigit.nd (zas zcu (za0 zao (pv 0) zai (λ_ _=>rfl)) (pv 1)))
  (zae (ps_asg (zas zga (za0 zao (pv 0) zai (fun _ _=>rfl)) (pv 1)) (pg_sub (pv 0) zai set_list))
   (zag (za3 (pv 2))))) zax)
  (zae (ps_asg (zas zcu (zas zb0 (zas zf9 (za0 zao (pv 0) zai (λ_ _=>rfl)) zai) zai) zai) (pg_sub (pv 0) zai set_list))
  (zag (za3 (zas zcu (zas zga (zas zcu (zas zf9 (za0 zao (pv 0) zai (λ_ _=>rfl)) (za0 zao (pv 0) zai (λ_ _=>rfl))) zai) zai) (pv 1))))),?_⟩
 refine⟨_,rfl,p,_,_,_,rfl,rfl,SqL.of hp,i0,_,_,rfl,rfl,_,rfl,?_⟩
 refine ite2 (λcG=>?_) (λhneg=>?_)
 ·have lr:0 < b:=of_decide_eq_true cG
  refine⟨_,rfl,p,_,_,_,rfl,rfl,SqL.of hp,i0,_,rfl,_,_,rfl,rfl,hn,?_⟩
  refine⟨_,rfl,p,_,_,_,rfl,rfl,SqL.of hp,i0,_,rfl,_,_,rfl,rfl,⟨hn,cz⟩,_,rfl,p,_,0,0,rfl,rfl,hp,rfl,_,rfl,?_⟩
  refine k (b%n) (b/n) m _ (Jw _ (by lia)) (Jj _ hn) ⟨zac,Int.ediv_nonneg hb (by lia),hm,bJ⟩ λc o e hc=>?_
  rw[zad hc]
  exact e
 ·have i1':∀ x:Int,atI [V.int b,V.int x] ((1:Nat):Int)=some (.int x):=fun x=>zav rfl
  have r0:0≤(m*48271+12289)%2147483629:=Jw _ (by decide)
  have r1:(m*48271+12289)%2147483629<2147483629:=Jj _ (by decide)
  refine⟨_,rfl,p,_,_,_,rfl,rfl,SqL.of hp,i1,_,_,rfl,rfl,.inl ⟨by lia,by lia⟩,_,_,rfl,rfl,_,_,rfl,rfl,(by show(0:Int)<2147483629;decide),_,rfl,p,_,1,1,rfl,rfl,hp,rfl,?_⟩
  refine⟨_,rfl,p,_,_,_,rfl,rfl,SqL.of zac,i1' _,_,rfl,p,_,_,_,rfl,rfl,SqL.of zac,i1' _,_,_,rfl,rfl,.inl ⟨by lia,by lia⟩,_,_,rfl,rfl,(by show(0:Int)<2147483587;decide),_,_,rfl,rfl,⟨by decide,by decide⟩,_,rfl,_,_,rfl,rfl,hn,?_⟩
  refine k _ b ((m*48271+12289)%2147483629) _ (Jw _ (by lia)) (Jj _ hn) ⟨zac,hb,r0,by lia⟩ λc o e hc=>?_
  rw[zad hc]
  exact e
def scPot:zan [qS, "_law_k", "_law_cell"] [qS, "_law_k"] (zah sPot):=fsk
def ok_pot(F:Fun K "_law_pot" "_law_pot" sPot f fd)(aa:mg "len" = none)(fS:mg "min" = none)(jP:mg "max" = none)(aV:mg "list" = none):FnOk P w K mg base CX0 1 f fd [qS, "_law_k"] (spPot K):=by
 refine F.okL scPot (λcdv A outer s H vs Q E hr h=>?_)
 obtain⟨a,ns,j,rfl,hS,hj,oZ,k⟩:=h
 have aE  := sizeLine_eq
 refine⟨_,zae (zar 2 scPot.nd (za0 zao (zas zda (zco zfl (by rfl) aV Uw (zaa (pv 0) zaf)) (za7 (zaa zai zaf)))
   (zaj (call_min2 rfl) (by rfl) fS Xi (zaa (pv 1) (zaa (zaj zal (by rfl) aa Zo (zaa (pv 0) zaf)) zaf))) (λ_ _=>rfl)))
  (zag (za3 (za7 (zaa (zaj (call_max2 rfl) (by rfl) jP PyProof.Rows.boot_max (zaa zai (zaa (zas op_sub (pv 2) (zas op_pow zai zai)) zaf)))
   (zaa (zas zcu (zas zb0 (zas zb0 (zas zf9 (zas zcu (pv 2) zai) zai) (zas zf9 zai (pv 1))) zai) zai) zaf))))),?_⟩
 refine⟨_,rfl,a,_,rfl,.inl hS,λp1 h1=>?_⟩
 refine⟨(by show 1≤sizeLine;decide),λp2 h2=>?_⟩
 have cT:p1≠p2:=zab (o:=_) zac h2
 refine⟨p1,p2,_,_,rfl,rfl,(by rw[zad cT];exact zac),zac,by rw[Qa];show _+1≤_;omega,λp3 h3=>?_⟩
 have k3:Keep [] H (upd (upd (upd H p1 (.lst (ns.map V.int))) p2 (.lst [.int 0])) p3 (.lst (ns.map V.int++[.int 0]))):=((Keep.new h1).trans (Keep.new h2)).trans (Keep.new h3)
 have S3:=sq_keep hS k3
 have l3:(upd (upd (upd H p1 (.lst (ns.map V.int))) p2 (.lst [.int 0])) p3 (.lst (ns.map V.int++[.int 0]))) p3=some (.lst ((ns++[0]).map V.int)):=by rw[zac,Qs];rfl
 refine⟨_,rfl,_,rfl,a,_,rfl,.inl S3,j,ns.length,by rw[Qa],?_⟩
 generalize upd (upd (upd H p1 (.lst (ns.map V.int))) p2 (.lst [.int 0])) p3 (.lst (ns.map V.int++[.int 0]))=H3 at S3 k3 l3
 obtain⟨i,hi,e⟩:∃i:Nat,i<(ns++[0]).length∧(if(ns.length:Int)<(j:Int) then(ns.length:Int) else(j:Int))=(i:Int):=by
  rw[Qj]
  split
  ·exact⟨ns.length,Ya _,rfl⟩
  ·exact⟨j,by show j<ns.length+1;omega,rfl⟩
 rw[e]
 have g:((ns++[0]).map V.int)[i]?=some (.int (ns++[0])[i]):=by rw[Qt,Qc hi];rfl
 refine⟨p3,_,_,_,rfl,rfl,SqL.of l3,zav g,?_⟩
 generalize(ns++[0])[i]=c
 have q0:0≤c%2147483629:=Jw _ (by decide)
 have q1:c%2147483629<2147483629:=Jj _ (by decide)
 refine⟨_,rfl,_,_,rfl,rfl,⟨by decide,by decide,by decide⟩,_,_,rfl,rfl,_,_,rfl,?_⟩
 refine⟨_,rfl,_,_,rfl,rfl,(by show(0:Int)<2147483629;decide),_,_,rfl,rfl,.inl ⟨by lia,by lia⟩,_,rfl,_,_,rfl,rfl,.inl ⟨by decide,by decide⟩,_,_,rfl,rfl,_,_,rfl,rfl,_,_,rfl,rfl,(by show(0:Int)<2147483629;decide),(by show 2≤sizeLine;decide),λl hl=>?_⟩
 refine k l _ _ _ (zap k3 hl (by simp)) ⟨zac,?_,Jw _ (by decide),Int.lt_trans (Jj _ (by decide)) (by decide)⟩ (k3.trans (Keep.new hl))
 split
 ·omega
 ·decide
end
end K21
end
section
namespace L2
open PySem PySem.Spec PyProof.Rows
abbrev iV(n:Nat):V:=.int (n:Int)
section
variable{X:Cx}
def op_ne_pairsN(hu:X.A.units<cLine):OpR X (compareOp .NotEq) (λx y H Q=>Ex4 λ(a b:Nd) (q r:Nat×Nat)=>Aj5 (x=.ref a) (y=.ref b) (H a=some (.tup [iV q.1,iV q.2])) (H b=some (.tup [iV r.1,iV r.2])) (Q (.bl (!decide (q=r))) H)):=by
 intro a6 s σ H x y v u Q I rx ry h
 obtain⟨a,b,q,r,rfl,rfl,ha,hb,k⟩:=h
 cases rx;cases ry
 obtain⟨_,a7,r1,p⟩:=I.hok a _ ha
 obtain⟨_,aP,r2,p2⟩:=I.hok b _ hb
 obtain⟨u1,u2,rfl,⟨t1,rfl⟩,⟨t2,rfl⟩⟩:=vals2 r1
 obtain⟨w1,w2,rfl,⟨t3,rfl⟩,⟨t4,rfl⟩⟩:=vals2 r2
 refine SeqAt.RcNeAt.tuples (e:=λj=>if j=0 then(q.1:Int)==(r.1:Int) else(q.2:Int)==(r.2:Int)) p p2 hu (λj j1 j2=>?_) _ _ _ _ ⟨.bl (!decide (q=r)),H,I,?_,k⟩
 ·have j1':j < 2:=by simpa using j1
  match j,j1' with
  |0,_=>exact SeqAt.EqAt.int_int (q.1:Int) t1 (r.1:Int) t3
  |1,_=>exact SeqAt.EqAt.int_int (q.2:Int) t2 (r.2:Int) t4
 ·show Value.bool _=Value.bool _
  congr 1
  have:decide (q=r)=(((q.1:Int)==(r.1:Int))&&((q.2:Int)==(r.2:Int))):=by
   rw[Yu]
   simp[Prod.ext_iff]
   omega
  rw[this]
  show(!((List.range 2).all (λj=>if j=0 then(q.1:Int)==(r.1:Int) else(q.2:Int)==(r.2:Int))&&true))=_
  rw[show List.range 2=[0,1] from rfl]
  simp
end
end L2
namespace Wb
section
variable{α:Type}[DecidableEq α]
theorem zgl(rs:Rs α)(s:α×α):∀n,itr rs s (n+1)=itr rs (stp rs s) n
 |0=>rfl
 |n+1=>congrArg (stp rs) (zgl rs s n)
theorem lk_itr:∀{t:List (α×α)} {s:α×α},Lk (st (row rs)) s t e→run rs s (t.length+1)=s::t∧itr rs s (t.length+1)=e
 |[],s,k=>⟨rfl,k⟩
 |y::t,s,k=>by
  obtain⟨h1,h2⟩:=lk_itr k.2
  have hs:stp rs s=y:=k.1
  refine⟨?_,by rw[Zf,zgl,hs];exact h2⟩
  unfold run at h1 ⊢
  rw[Zf,List.range_succ_eq_map,Ql,Zr,←h1]
  refine congrArg (s::·) (Wa λn _=>?_)
  show itr rs s (n+1)=_
  rw[zgl,hs]
def good_round{rs:Rs α}(h:Good rs){s:α×α}(hs:IsSt rs s):∃L,itr rs s (L+1)=s∧(run rs s (L+1)).Nodup:=by
 obtain⟨cs,a8,C⟩:=h
 obtain⟨c,hc,h⟩:=Yr.mp ((C.cm s).mpr ((zc6 C.nd).mp hs))
 obtain⟨A,B,e⟩:=Wr h
 have k:=C.cy c hc
 rw[e]at k
 obtain⟨h1,h2⟩:=lk_itr (ze6 k)
 refine⟨_,h2,?_⟩
 rw[h1]
 have hn:c.Nodup:=(List.pairwise_flatten.mp C.cf).1 c hc
 rw[e]at hn
 have:=(Wc (l₁:=A) (l₂:=s::B)).nodup_iff.mp hn
 exact this
def round_ne{rs:Rs α}{s:α×α}{L n:Nat}(nd:(run rs s (L+1)).Nodup)(h0:0<n)(h:n≤L):itr rs s n≠s:=λe=>by
 unfold run at nd
 have:=(We (i:=n) (j:=0) (h₀:=by rw[Qa,Yy];omega) (h₁:=by rw[Qa,Yy];omega) nd).mp (by
  rw[Zu,Zu,Ji,Ji];exact e)
 omega
end
def rsN(rr:List (List Nat)):Rs Nat:=(List.range rr.length).map λk=>(k,rr.getD k [])
def zdh(rr:List (List Nat)):(rsN rr).map (·.1)=List.range rr.length:=by
 unfold rsN
 rw[Zr]
 exact(Wa λ_ _=>rfl).trans (List.map_id _)
def nd_N(rr:List (List Nat)):((rsN rr).map (·.1)).Nodup:=by rw[zdh];exact Ky
def zgv{rr:List (List Nat)}{k:Nat}(h:k<rr.length):(k,rr[k])∈rsN rr:=by
 unfold rsN
 exact Qm.mpr ⟨k,Yh.mpr h,by rw[Qy,Qc h];rfl⟩
def row_N{rr:List (List Nat)}{k:Nat}(h:k<rr.length):row (rsN rr) k=rr[k]:=zfi (nd_N rr) (zgv h)
def row_No{rr:List (List Nat)}{k:Nat}(h:¬k<rr.length):row (rsN rr) k=[]:=zex (by rw[zdh];exact λz=>h (Yh.mp z))
def set_N(rr:List (List Nat))(k:Nat)(r:List Nat):zbf (rsN rr) k r=rsN (rr.set k r):=by
 unfold zbf rsN
 rw[Zr,Uj]
 refine Wa λj hj=>?_
 have lm:=Yh.mp hj
 show(if j=k then(j,r) else(j,rr.getD j []))=(j,(rr.set k r).getD j [])
 rw[Qy,Qy,List.getElem?_set]
 by_cases e:j=k
 ·subst e
  rw[if_pos rfl,if_pos rfl,if_pos lm];rfl
 ·rw[if_neg e,if_neg (Zi e)]
def snoc_N(rr:List (List Nat)):rsN (rr++[[]])=rsN rr++[(rr.length,[])]:=by
 unfold rsN
 rw[Qj,Zf,Uk,Xe,Qs]
 congr 1
 ·refine Wa fun j hj=>?_
  rw[Qy,Qy,List.getElem?_append_left (Yh.mp hj)]
 ·show [(rr.length,(rr++[[]]).getD rr.length [])]=_
  rw[Qy,Ja (Qg _),Nat.sub_self];rfl
end Wb
namespace K21
open PySem L2 Wb
abbrev zhy:Stmt:=top 34
abbrev zht:Stmt:=top 35
structure NAt(H:Hp)(l:Nd)(as:Nl)(rr:List (List Nat)):Prop where
 ls:H l=some (.lst (as.map V.ref))
 ro:Paired (λa r=>H a=some (.lst (r.map iV))) as rr
 nd:as.Nodup
def NAt.len(R:NAt H l as rr):as.length=rr.length:=Yf R.ro
def NAt.row(R:NAt H l as rr){k:Nat}(h:k<as.length)(h':k<rr.length):H as[k]=some (.lst (rr[k].map iV)):=let⟨_,z⟩:=zbh R.ro h;z
def NAt.keep(R:NAt H l as rr)(k:Keep xs H H')(hl:l∉xs)(ha:∀a∈as,a∉xs):NAt H' l as rr:=by
 refine⟨k _ _ R.ls hl,?_,R.nd⟩
 have:=R.ro
 clear R
 induction this with
 |nil=>exact .nil
 |cons r t ih=>exact .cons (k _ _ r (ha _ Qe)) (ih λa h=>ha a (Qi _ h))
def NAt.k0(R:NAt H l as rr)(k:Keep [] H H'):NAt H' l as rr:=R.keep k (by simp) λ_ _=>by simp
def NAt.apart(R:NAt H l as rr):l∉as:=λh=>by
 obtain⟨k,hk,e⟩:=Zq h
 have h1:=R.row hk (by rw[←R.len];exact hk)
 rw[e,R.ls]at h1
 have h2:as.map V.ref=(rr[k]'(by rw[←R.len];exact hk)).map iV:=by injection h1 with z;injection z
 cases as with
 |nil=>simp at hk
 |cons a t =>
  generalize(rr[k]'(by rw[←R.len];exact hk))=r at h2
  cases r with
  |nil=>cases h2
  |cons y s=>rw[Ql,Ql]at h2;injection h2 with z1 _;cases z1
def zgn{zs:List Nat}{x:Nat}(h:x∈zs):(∃ z,(zs.map iV)[zs.idxOf x]?=some z∧eqV z (iV x)=true)∧∀ m z,m < zs.idxOf x→(zs.map iV)[m]?=some z→eqV z (iV x)=false:=by
 have ad:zs.idxOf x<zs.length:=Ur.mpr h
 refine⟨⟨iV x,?_,beq_self_eq_true (x:Int)⟩,λm z hm e=>?_⟩
 ·rw[Qt,Qc ad,Kf];rfl
 ·rw [Qt] at e
  have bJ:m<zs.length:=Wg hm ad
  rw[Qc bJ]at e
  cases e
  show((zs[m]:Int)==(x:Int))=false
  refine beq_eq_false_iff_ne.mpr λq=>?_
  have q:zs[m]=x:=Int.ofNat.inj q
  have aJ:∀(l:List Nat) (j:Nat) (hj:j<l.length),l[j]=x→l.idxOf x≤j:=by
   intro l
   induction l with
   |nil=>intro j hj;simp at hj
   | cons a t ih =>
    intro j hj e
    rw[Jt]
    cases j with
    |zero =>
     have e':a=x:=e
     rw[e'];simp
    | succ i =>
     have:=ih i (by simpa using hj) (by simpa using e)
     by_cases h:a=x
     ·rw[h];simp
     ·have hb:(a == x)=false:=beq_eq_false_iff_ne.mpr h
      rw[hb];simp;assumption
  have:=aJ zs m bJ q
  omega
def zep(zs:List Nat):(zs.map iV).all ze4=true:=by
 rw[Jd];intro v hv;obtain⟨x,_,rfl⟩:=Qm.mp hv;rfl
inductive IspBehind(vs:List V)(H:Hp)(Q:VK):Prop
 |mk (a:Nd) (zs:List Nat) (x:Nat) (h0:vs=[.ref a,iV x]) (h1:H a=some (.lst (zs.map iV))) (h2:x∈zs) (h3:zs.length≤900) (h4:Q (iV (nxt zs x)) H):IspBehind vs H Q
def spBehind:Sp:=λvs H Q _=>IspBehind vs H Q
abbrev zb9(H:Hp)(as:Nl)(qs:List (Nat×Nat)):Prop:=Paired (λa q=>H a=some (.tup [iV q.1,iV q.2])) as qs
def zb9.keep(r:zb9 H as qs)(k:∀b x y,H b=some (.tup [x,y])→H' b=some (.tup [x,y])):zb9 H' as qs:=Paired.imp' (λa q h=>k _ _ _ h) r
def zb9.snoc(r:zb9 H as qs)(h:H a=some (.tup [iV q.1,iV q.2])):zb9 H (as++[a]) (qs++[q]):=by
 induction r with
 |nil=>exact .cons h .nil
 |cons r t ih=>exact .cons r ih
inductive IspSteps0(vs:List V)(H:Hp)(Q:VK):Prop
 |mk (l:Nd) (as:Nl) (rr:List (List Nat)) (s:Nat×Nat) (h0:vs=[.ref l,iV s.1,iV s.2]) (h1:NAt H l as rr) (h2:IsSt (rsN rr) s) (h3:Good (rsN rr)) (h4:rr.length≤40)
  (h6:∀(t:Nd) (ps:Nl) (n:Nat) (H':Hp),H t=none→H' t=some (.lst (ps.map V.ref))→zb9 H' ps (run (rsN rr) s (n+1))→(run (rsN rr) s (n+1)).Nodup→n+1≤1600→Keep [] H H'→Q (.ref t) H'):IspSteps0 vs H Q
def spSteps0:Sp:=λvs H Q _=>IspSteps0 vs H Q
section
variable{P:Nj}{w:Nk}{K:Nb}{mg:Ng}{base:Nm}
def scBehind:zan ["_law_around", "_law_one"] ["_law_around", "_law_one"] (zah zhy):=fsk
def ok_behind(F:Fun K "_law_behind" "_law_behind" zhy f fd)(aa:mg "len" = none):FnOk P w K mg base CX0 1 f fd ["_law_around", "_law_one"] spBehind:=by
 refine F.okL scBehind (λcdv A outer s H vs Q E hr h=>?_)
 obtain⟨a,zs,x,rfl,ha,hx,hz,k⟩:=h
 have hu:=zb4 hr
 refine⟨_,zag (za3 (za0 zao (pv 0) (zas zcu (zas zb0 (zb7 Qx Uu Ut zen (pv 0) (zaa (pv 1) zaf)) zai)
  (zaj zal (by rfl) aa Zo (zaa (pv 0) zaf))) (λ_ _=>rfl))),?_⟩
 obtain⟨i1,i2⟩:=zgn hx
 have cG:0<zs.length:=Jm hx
 have hm:(zs.idxOf x+1)%zs.length<zs.length:=Ud _ cG
 have g:(zs.map iV)[(zs.idxOf x+1)%zs.length]?=some (iV (nxt zs x)):=by
  rw[Qt,Qc hm]
  unfold nxt
  simp[List.getD,hm]
 have e1:((zs.idxOf x:Nat):Int)+1=((zs.idxOf x+1:Nat):Int):=by lia
 have g2:atI (zs.map iV) ((((zs.idxOf x:Nat):Int)+1)%((zs.map iV).length:Int))=some (iV (nxt zs x)):=by
  rw[e1,Qa,←Int.natCast_emod]
  exact zav g
 refine⟨_,rfl,_,rfl,.inl ⟨rfl,_,SqL.of ha⟩,_,rfl,a,_,_,_,rfl,rfl,ha,rfl,zep zs,i1,i2,_,_,rfl,rfl,_,rfl,a,_,rfl,.inl (SqL.of ha),_,_,rfl,rfl,?_,a,_,_,_,rfl,rfl,SqL.of ha,g2,k⟩
 rw[Qa];exact zar9 ‹_›
def zfq:zan [qR, "_law_p", "_law_q", "_law_found", "_law_here"] [qR, "_law_p", "_law_q"] (zah zht):=fsk
def ok_steps0(F:Fun K "_law_steps" "_law_steps" zht f fd)(FB:Fun K "_law_behind" "_law_behind" zhy fb fdb)(bB:Binds K fdb ["_law_around", "_law_one"] [])(mB:mg "_law_behind" = some (.ref fb))(GB:FnOk P w K mg base CX0 1 fb fdb ["_law_around", "_law_one"] spBehind) :
  FnOk P w K mg base CX0 2 f fd [qR, "_law_p", "_law_q"] spSteps0:=by
 refine F.okL zfq (λcdv A outer s H vs Q E hr h=>?_)
 obtain⟨d,ra,rr,st,rfl,R,ap,hG,cN,k⟩:=h
 have hu:=zb4 hr
 refine⟨_,zae (zar 3 zfq.nd (za7 (zaa (zce (zaa (pv 1) (zaa (pv 2) zaf))) zaf)))
  (zae (zar 4 zfq.nd (zce (zaa (pv 2) (zaa (zak GB hr rfl mB FB.kp bB .nil zau (zaa (za0 zao (pv 0) (pv 2) (λ_ _=>rfl)) (zaa (pv 1) zaf))) zaf))))
  (zae (zcj Zd (za2 (op_ne_pairsN (Wg (Ya _) hu)) (pv 4) (za0 zao (pv 3) zai (fun _ _=>rfl)) rfl)
   (zae (zay (zb7 Qx Zm Zl za4 (pv 3) (zaa (pv 4) zaf)))
   (zag (zar 4 zfq.nd (zce (zaa (za0 zdj (pv 4) zai (λ_ _=>rfl)) (zaa (zak GB hr rfl mB FB.kp bB .nil zau (zaa (za0 zao (pv 0) (za0 zdj (pv 4) zai (λ_ _=>rfl)) (λ_ _=>rfl)) (zaa (za0 zdj (pv 4) zai (λ_ _=>rfl)) zaf))) zaf)))))))
  (zag (za3 (pv 3))))),?_⟩
 obtain⟨L,hL,nd⟩:=good_round hG ap
 have iw:=zbp.clo _ hG
 have jR:(rsN rr).length=rr.length:=by unfold rsN;rw[List.length_map,List.length_range]
 have hLb:L+1≤1600:=by
  have:=nodup_len nd (m:=allSt (rsN rr)) λx hx=>by
   obtain⟨i,_,rfl⟩:=Qm.mp hx
   exact mem_allSt.mpr (itr_st iw ap i)
  unfold Wb.run at this
  rw[Qa,Yy]at this
  exact Zk this (zbp.steps hG (by rw[jR];exact cN))
 have at':∀q:Nat×Nat,IsSt (rsN rr) q→∃(h:q.2<rr.length) (h':q.2<ra.length),q.1∈rr[q.2]∧rr[q.2].length≤900∧stp (rsN rr) q=(q.2,nxt rr[q.2] q.1):=λq hq=>by
  have h1:=(zc6 (nd_N rr)).mp hq
  by_cases h:q.2<rr.length
  ·rw [row_N h] at h1
   refine⟨h,by rw[R.len];exact h,h1,?_,by unfold stp;rw[row_N h]⟩
   have:=zbp.rows hG _ (zgv h)
   rw[jR]at this
   exact Zk this (by omega)
  ·rw[row_No h]at h1;cases h1
 have i0:∀x y:V,atI [x,y] ((0:Nat):Int)=some x:=λx y=>zav rfl
 have i1:∀x y:V,atI [x,y] ((1:Nat):Int)=some y:=λx y=>zav rfl
 have aE  := sizeLine_eq
 refine⟨_,rfl,_,rfl,(by show 2≤sizeLine;decide),λt0 ht0=>⟨(by show 1≤sizeLine;decide),λl hl=>?_⟩⟩
 have k1:Keep [] H (upd (upd H t0 (.tup [iV st.1,iV st.2])) l (.lst [.ref t0])):=(Keep.new ht0).trans (Keep.new hl)
 have ntl:t0≠l:=zab (o:=_) zac hl
 have jz:(upd (upd H t0 (.tup [iV st.1,iV st.2])) l (.lst [.ref t0])) t0=some (.tup [iV st.1,iV st.2]):=by rw[zad ntl];exact zac
 have bp:(upd (upd H t0 (.tup [iV st.1,iV st.2])) l (.lst [.ref t0])) l=some (.lst [.ref t0]):=zac
 have fl:H l=none:=zap (xs:=[]) (Keep.new ht0) hl (by simp)
 generalize upd (upd H t0 (.tup [iV st.1,iV st.2])) l (.lst [.ref t0])=H1 at k1 jz bp
 have R1:=R.k0 k1
 obtain⟨g1,g2,g3,g4,g5⟩:=at' st ap
 refine⟨_,rfl,_,rfl,_,rfl,d,_,_,_,rfl,rfl,SqL.of R1.ls,zav (by rw[Qt,Qc g2];rfl),_,rfl,_,rr[st.2],st.1,rfl,R1.row g2 g1,g3,g4,(by show 2≤sizeLine;decide),λt ht=>?_⟩
 have e5:[iV st.2,iV (nxt rr[st.2] st.1)]=[iV (itr (rsN rr) st 1).1,iV (itr (rsN rr) st 1).2]:=by show _=[iV (stp (rsN rr) st).1,iV (stp (rsN rr) st).2];rw[g5]
 rw[e5]
 have nlt:l≠t:=zab bp ht
 refine⟨λm σ H2=>Ex3 λ(n:Nat) (t:Nd) (as:Nl)=>Aj8 (m=L-n) (n≤L) (σ=[some (.ref d),some (iV st.1),some (iV st.2),some (.ref l),some (.ref t)]) (Keep [l] H1 H2) (H2 l=some (.lst ((t0::as).map V.ref))) (zb9 H2 (t0::as) (run (rsN rr) st (n+1))) (H2 t=some (.tup [iV (itr (rsN rr) st (n+1)).1,iV (itr (rsN rr) st (n+1)).2])) (as.length=n),
  ⟨_,0,t,[],rfl,Zp _,rfl,Keep.new ht,by rw[zad nlt];exact bp,.cons (by rw[zad (zab jz ht)];exact jz) .nil,zac,rfl⟩,?_⟩
 rintro m σ H2 ⟨n,t,as,rfl,hn,rfl,k2,aq,pa,fk,e7⟩
 have qK:=k2 _ _ jz (by simpa using ntl)
 refine⟨_,rfl,_,rfl,l,_,_,_,rfl,rfl,SqL.of aq,(show atI ((t0::as).map V.ref) ((0:Nat):Int)=some (.ref t0) from zav rfl),t,t0,itr (rsN rr) st (n+1),st,rfl,rfl,fk,qK,_,rfl,?_⟩
 by_cases he:n=L
 ·subst he
  refine za9 (by rw[decide_eq_true hL];rfl) ?_
  exact⟨_,rfl,k l (t0::as) n H2 fl aq pa nd hLb λc o ec _=>k2 c o (k1 _ _ ec (by simp)) (by simpa using zab ec fl)⟩
 ·refine zbk (by rw [decide_eq_false (round_ne nd (Nat.succ_pos n) (by omega))];rfl) ?_
  have qd:t≠l:=zbc fk aq (by intro z;cases z)
  refine⟨_,λ σ' H' z=>z,?_⟩
  refine⟨_,rfl,.inl ⟨rfl,_,SqL.of aq⟩,_,rfl,l,_,_,rfl,rfl,aq,by rw[Qa,Zf];omega,?_⟩
  have k3:Keep [l] H1 (upd H2 l (.lst ((t0::as).map V.ref++[V.ref t]))):=k2.trans (Keep.wr Qe)
  have fj:(upd H2 l (.lst ((t0::as).map V.ref++[V.ref t]))) t=some (.tup [iV (itr (rsN rr) st (n+1)).1,iV (itr (rsN rr) st (n+1)).2]):=by rw[zad qd];exact fk
  have il:(upd H2 l (.lst ((t0::as).map V.ref++[V.ref t]))) l=some (.lst ((t0::(as++[t])).map V.ref)):=by rw[zac,←Yc,Qs];rfl
  have pa3:zb9 (upd H2 l (.lst ((t0::as).map V.ref++[V.ref t]))) (t0::(as++[t])) (run (rsN rr) st (n+1+1)):=by
   rw[run_succ,←Yc]
   refine zb9.snoc (zb9.keep pa λb x y eb=>?_) fj
   rw[zad (zbc eb aq (by intro z;cases z))];exact eb
  generalize upd H2 l (.lst ((t0::as).map V.ref++[V.ref t]))=H3 at k3 fj il pa3
  have nra:∀a∈ra,a≠l:=λa ha=>by
   obtain⟨j,hj,rfl⟩:=Zq ha
   exact zab (R.row hj (by rw[←R.len];exact hj)) fl
  have R3:NAt H3 d ra rr:=R1.keep k3 (by simpa using zab R.ls fl) λa ha=>by simpa using nra a ha
  obtain⟨g1,g2,g3,g4,g5⟩:=at' (itr (rsN rr) st (n+1)) (itr_st iw ap _)
  refine⟨_,rfl,t,_,_,_,rfl,rfl,SqT.of fj,i1 _ _,_,rfl,_,rfl,t,_,_,_,rfl,rfl,SqT.of fj,i1 _ _,d,_,_,_,rfl,rfl,SqL.of R3.ls,zav (by rw[Qt,Qc g2];rfl),_,rfl,t,_,_,_,rfl,rfl,SqT.of fj,i0 _ _,_,rr[(itr (rsN rr) st (n+1)).2],(itr (rsN rr) st (n+1)).1,rfl,R3.row g2 g1,g3,g4,(by show 2≤sizeLine;decide),λt' qL=>?_⟩
  have e6:[iV (itr (rsN rr) st (n+1)).2,iV (nxt rr[(itr (rsN rr) st (n+1)).2] (itr (rsN rr) st (n+1)).1)]=[iV (itr (rsN rr) st (n+1+1)).1,iV (itr (rsN rr) st (n+1+1)).2]:=by show _=[iV (stp (rsN rr) (itr (rsN rr) st (n+1))).1,iV (stp (rsN rr) (itr (rsN rr) st (n+1))).2];rw[g5]
  rw[e6]
  have nl':l≠t':=zab il qL
  exact⟨L-(n+1),by omega,n+1,t',as++[t],rfl,by omega,rfl,k3.trans (Keep.new qL),by rw[zad nl'];exact il,zb9.keep pa3 λb x y eb=>by rw[zad (zab eb qL)];exact eb,zac,by rw[Qj,e7];rfl⟩
end
end K21
end
section
namespace K21
open PySem L2 Wb
abbrev sTie:Stmt:=top 36
def inV_nat{x:Nat}{zs:List Nat}:inV (iV x) (zs.map iV)=decide (x∈zs):=by
 unfold inV
 rw[Yu,Yw,decide_eq_true_iff]
 constructor
 ·rintro ⟨v,hv,e⟩
  obtain⟨z,hz,rfl⟩:=Qm.mp hv
  have e:((z:Int)==(x:Int))=true:=e
  have:z=x:=Int.ofNat.inj (eq_of_beq e)
  rw[←this];exact hz
 ·intro h
  exact⟨_,Qm.mpr ⟨x,h,rfl⟩,beq_self_eq_true (x:Int)⟩
def NAt.mem(R:NAt H l as rr)(ha:a∈as):∃r:List Nat,H a=some (.lst (r.map iV)):=by
 obtain⟨j,hj,rfl⟩:=Zq ha
 exact⟨_,R.row hj (by rw[←R.len];exact hj)⟩
def NAt.set(R:NAt H l as rr){k:Nat}(h:k < as.length)(r:List Nat):NAt (upd H as[k] (.lst (r.map iV))) l as (rr.set k r):=by
 have hl:l≠as[k]:=λz=>R.apart (z▸Qp h)
 refine⟨by rw[zad hl];exact R.ls,?_,R.nd⟩
 have aA:=R.nd
 have hr:=R.ro
 clear R hl
 induction hr generalizing k with
 |nil=>simp at h
 | cons r1 t ih =>
  rename_i a r0 c8 dI
  rw[Zb]at aA
  cases k with
  | zero =>
   refine .cons zac ?_
   show Paired _ c8 dI
   refine Paired.imp' (λb r' hb=>hb) ?_
   clear ih
   have key:∀{xs:Nl} {ys:List (List Nat)},Paired (λa r=>H a=some (.lst (r.map iV))) xs ys→a∉xs→Paired (λb r'=>(upd H a (.lst (r.map iV))) b=some (.lst (r'.map iV))) xs ys:=by
    intro xs ys hp
    induction hp with
    |nil=>intro _;exact .nil
    |cons q t' ih' =>
     intro hn
     rw[Qh,not_or]at hn
     exact .cons (by rw[zad (Zi hn.1)];exact q) (ih' hn.2)
   exact key t aA.1
  |succ j =>
   have hj:j<c8.length:=by simpa using h
   refine .cons ?_ (ih (k:=j) hj aA.2)
   show(upd H c8[j] _) a=_
   rw[zad (λz=>aA.1 (by rw[z];exact Qp hj))];exact r1
def pot_l(h:Pot H p b m)(R:NAt H l as rr):l≠p:=zbc R.ls h.1 (by
 intro z
 have z':as.map V.ref=[.int b,.int m]:=by injection z
 cases as with
 |nil=>cases z'
 |cons x t=>rw[Ql]at z';injection z' with z1 _;cases z1)
def zb9.mem(r:zb9 H as qs)(ha:a∈as):∃q∈qs,H a=some (.tup [iV q.1,iV q.2]):=by
 induction r with
 |nil=>cases ha
 | cons r t ih =>
  rcases Qh.mp ha with e | e
  ·exact⟨_,Qe,e▸r⟩
  ·obtain ⟨q,h1,h2⟩:=ih e
   exact⟨q,Qi _ h1,h2⟩
inductive IspTieD(vs:List V)(H:Hp)(Q:VK):Prop
 |mk (p l:Nd) (b m:Int) (as:Nl) (rr:List (List Nat)) (h0:vs=[.ref p,.ref l]) (h1:Pot H p b m) (h2:NAt H l as rr) (h3:Good (rsN rr)) (h4:0<rr.length) (h5:rr.length≤40) (aL:p∉as)
  (h6:∀(b' m':Int) (dI:List (List Nat)) (H':Hp),dI.length=rr.length→Good (rsN dI)→Pot H' p b' m'→NAt H' l as dI→Keep (p::as) H H'→Q .non H'):IspTieD vs H Q
def spTieD:Sp:=λvs H Q _=>IspTieD vs H Q
section
variable{P:Nj}{w:Nk}{K:Nb}{mg:Ng}{base:Nm}
def scTie:zan [qP,qR, "_law_one", "_law_ahead", "_law_steps_here", "_law_first", "_law_p", "_law_q"] [qP,qR] (zah sTie):=fsk
def ok_tie(F:Fun K "_law_tie" "_law_tie" sTie f fd)(FT:Fun K qG qG zdu ft fdt)(bT:Binds K fdt [qP,qM] [])(mT:mg qG=some (.ref ft))(GT:FnOk P w K mg base CX0 1 ft fdt [qP,qM] zfd)(FS:Fun K "_law_steps" "_law_steps" zht fs fds)(bS:Binds K fds [qR, "_law_p", "_law_q"] [])(mS:mg "_law_steps" = some (.ref fs))(GS:FnOk P w K mg base CX0 2 fs fds [qR, "_law_p", "_law_q"] spSteps0)(aa:mg "len" = none):FnOk P w K mg base CX0 3 f fd [qP,qR] spTieD:=by
 refine F.okL scTie (λcdv A outer s H vs Q E hr h=>?_)
 obtain⟨p,l,b,m,as,rr,rfl,hp,R,hG,cG,bH,aL,k⟩:=h
 have hu:=zb4 hr
 have bV:=Ko hu
 have aT:Room 1 _:=hr.mono (by decide)
 have aE  := sizeLine_eq
 refine⟨_,zae (zar 2 scTie.nd (zak GT aT rfl mT FT.kp bT .nil zau (zaa (pv 0) (zaa (zaj zal (by rfl) aa Zo (zaa (pv 1) zaf)) zaf))))
  (zae (zb1 (za2 (op_eq_nil bV) (za0 zao (pv 1) (pv 2) (λ_ _=>rfl)) (za7 zaf) (zbt _)) (zag ps_retN) zax)
  (zae (zar 3 scTie.nd (za0 zao (za0 zao (pv 1) (pv 2) (λ_ _=>rfl)) (zak GT aT rfl mT FT.kp bT .nil zau (zaa (pv 0) (zaa (zaj zal (by rfl) aa Zo (zaa (za0 zao (pv 1) (pv 2) (λ_ _=>rfl)) zaf)) zaf))) (λ_ _=>rfl)))
  (zae (zar 4 scTie.nd (zak GS hr rfl mS FS.kp bS .nil zau (zaa (pv 1) (zaa (pv 3) (zaa (pv 2) zaf)))))
  (zae (zar 5 scTie.nd (zak GT aT rfl mT FT.kp bT .nil zau (zaa (pv 0) (zaa (zaj zal (by rfl) aa Zo (zaa (pv 4) zaf)) zaf))))
  (zag (zbg Zd rfl (za6 (zas zda (zbb zby (pv 4) (zbn (pv 5)) zbl) (zbb zby (pv 4) zbl (zbn (pv 5))))) (zg6 rfl (zba (zbe 6 scTie.nd) (zba (zbe 7 scTie.nd) zc4)))
   (zag (zb1 (PW.pt (pw_and (za2 op_ne (pv 7) (pv 2) (zbt _)) (zh0 (za2 zct (pv 7) (za0 zao (pv 1) (pv 2) (fun _ _=>rfl)) rfl))))
    (zae (zay (zb7 Qx Jf Je zem (za0 zao (pv 1) (pv 2) (λ_ _=>rfl)) (zaa (zas zb0 (zb7 Qx Uu Ut zen (za0 zao (pv 1) (pv 2) (λ_ _=>rfl)) (zaa (pv 3) zaf)) zai) (zaa (pv 7) zaf))))
    (zae (zay (zb7 Qx Jf Je zem (za0 zao (pv 1) (pv 7) (λ_ _=>rfl)) (zaa (zas zb0 (zb7 Qx Uu Ut zen (za0 zao (pv 1) (pv 7) (λ_ _=>rfl)) (zaa (pv 6) zaf)) zai) (zaa (pv 2) zaf))))
    (zag ps_retN))) zax)))))))),?_⟩
 have jR:(rsN rr).length=rr.length:=by unfold rsN;rw[List.length_map,List.length_range]
 have e7:=R.len
 have nlp:=pot_l hp R
 have nap:∀a∈as,a≠p:=λa ha z=>aL (z▸ha)
 have gD:(as.map V.ref).length=rr.length:=by rw[Qa];exact e7
 refine⟨_,rfl,_,rfl,l,_,rfl,.inl (SqL.of R.ls),p,b,m,_,rfl,hp,by omega,by omega,λj1 b1 m1 H1 sm hj1 bX qq=>?_⟩
 have k1:Keep [p] H H1:=za5 qq
 have R1:NAt H1 l as rr:=R.keep k1 (by simpa using nlp) λa ha=>by simpa using nap a ha
 obtain⟨one,rfl⟩:=Zh sm
 have ho:one<rr.length:=by omega
 have aw:one<as.length:=by omega
 have a1:∀{c:Nat} (h:c<as.length),atI (as.map V.ref) (c:Int)=some (.ref as[c]):=λh=>zav (by rw[Qt,Qc h];rfl)
 refine⟨_,rfl,_,rfl,l,_,_,_,rfl,rfl,SqL.of R1.ls,a1 aw,(by show 0≤sizeLine;decide),λq hq=>?_⟩
 have k2:Keep [p] H (upd H1 q (.lst [])):=k1.trans (Keep.new hq)
 have aG:Pot (upd H1 q (.lst [])) p b1 m1:=bX.keep (xs:=[]) (Keep.new hq) (by simp)
 have R2:NAt (upd H1 q (.lst [])) l as rr:=R1.k0 (Keep.new hq)
 refine⟨as[one],q,_,rfl,rfl,SqL.of (R2.row aw ho),SqL.of zac,_,rfl,?_⟩
 generalize upd H1 q (.lst [])=H2 at k2 aG R2
 have ai:=R2.row aw ho
 have oh:∀(b' m':Int) (H':Hp),Pot H' p b' m'→Keep [p] H H'→Q .non H':=λb' m' H' aH k'=>k b' m' rr H' rfl hG aH (R.keep k' (by simpa using nlp) λa ha=>by simpa using nap a ha) (k'.sub (by simp))
 by_cases he:rr[one]=[]
 ·exact zbk (by rw[he];rfl) (oh b1 m1 H2 aG k2)
 refine za9 (by cases z:rr[one] with | nil=>exact absurd z he | cons _ _=>rfl) ?_
 have eG:rr[one].length≤900:=by
  have:=zbp.rows hG _ (zgv ho)
  rw[jR]at this
  exact Zk this (by omega)
 have hzp:0<rr[one].length:=Wv.mpr he
 have hml1:(rr[one].map iV).length=rr[one].length:=Qa ..
 refine⟨_,rfl,_,rfl,l,_,_,_,rfl,rfl,SqL.of R2.ls,a1 aw,_,rfl,_,rfl,_,rfl,l,_,_,_,rfl,rfl,SqL.of R2.ls,a1 aw,as[one],_,rfl,.inl (SqL.of ai),p,b1,m1,_,rfl,aG,by omega,by omega,λj2 b3 m3 H3 jW sk aF oJ=>?_⟩
 obtain⟨jn,rfl⟩:=Zh jW
 have pe:jn<rr[one].length:=by omega
 have k3:Keep [p] H H3:=k2.trans (za5 oJ)
 have R3:NAt H3 l as rr:=R.keep k3 (by simpa using nlp) λa ha=>by simpa using nap a ha
 refine⟨as[one],_,_,iV rr[one][jn],rfl,rfl,SqL.of (R3.row aw ho),zav (by rw[Qt,Qc pe];rfl),?_⟩
 have o4:rr[one][jn]∈rr[one]:=Qp pe
 generalize rr[one][jn]=ah at o4
 have ap:IsSt (rsN rr) (ah,one):=(zc6 (nd_N rr)).mpr (by show ah∈row (rsN rr) one;rw[row_N ho];exact o4)
 refine⟨_,rfl,_,rfl,_,rfl,l,as,rr,(ah,one),rfl,R3,ap,hG,bH,λt ps n H4 ft ht pa nd hn k4=>?_⟩
 have dL:Keep [p] H H4:=k3.trans (k4.sub (by simp))
 have aU:=aF.keep k4 (by simp)
 have cg:ps.length=n+1:=by
  have:=Yf pa
  unfold Wb.run at this
  rwa[Qa,Yy]at this
 have hml2:(ps.map V.ref).length=n+1:=by rw[Qa];exact cg
 have ntp:t≠p:=λz=>by rw[z,aF.1]at ft;cases ft
 refine⟨_,rfl,_,rfl,t,_,rfl,.inl (SqL.of ht),p,b3,m3,_,rfl,aU,by omega,by omega,λj5 b5 m5 H5 jV si aD iG=>?_⟩
 obtain⟨jf,rfl⟩:=Zh jV
 have hjf:jf≤(ps.map V.ref).length:=by omega
 have k5:Keep [p] H H5:=dL.trans (za5 iG)
 have hX:=iG _ _ ht ntp
 have lH:zb9 H5 ps (run (rsN rr) (ah,one) (n+1)):=zb9.keep pa λb' x' y' eb=>iG _ _ eb (zbc eb aU.1 (by intro z;cases z))
 refine⟨_,rfl,_,rfl,_,rfl,t,_,rfl,SqL.of hX,λs1 cb=>?_⟩
 rw[zcb hjf]
 have ht6:(upd H5 s1 (.lst ((ps.map V.ref).drop jf))) t=some (.lst (ps.map V.ref)):=by rw[zad (zab hX cb)];exact hX
 refine⟨_,rfl,_,rfl,_,rfl,t,_,rfl,SqL.of ht6,λs2 df=>?_⟩
 rw[cut_to hjf]
 have qe:s1≠s2:=zab (o:=_) zac df
 refine⟨s1,s2,_,_,rfl,rfl,by rw[zad qe];exact zac,zac,by rw[Yv,Zn];omega,λs3 hs3=>?_⟩
 have k6:Keep [] H5 (upd (upd (upd H5 s1 (.lst ((ps.map V.ref).drop jf))) s2 (.lst ((ps.map V.ref).take jf))) s3 (.lst ((ps.map V.ref).drop jf++(ps.map V.ref).take jf))):=((Keep.new cb).trans (Keep.new df)).trans (Keep.new hs3)
 have hZ:(upd (upd (upd H5 s1 (.lst ((ps.map V.ref).drop jf))) s2 (.lst ((ps.map V.ref).take jf))) s3 (.lst ((ps.map V.ref).drop jf++(ps.map V.ref).take jf))) s3=some (.lst ((ps.map V.ref).drop jf++(ps.map V.ref).take jf)):=zac
 have hvs:∀v∈(ps.map V.ref).drop jf++(ps.map V.ref).take jf,∃a∈ps,v=.ref a:=λv hv=>by
  rcases Qd.mp hv with z | z
  ·obtain⟨a,ha,rfl⟩:=Qm.mp (Wd z);exact⟨a,ha,rfl⟩
  ·obtain⟨a,ha,rfl⟩:=Qm.mp (Ys z);exact⟨a,ha,rfl⟩
 generalize(ps.map V.ref).drop jf++(ps.map V.ref).take jf=vs at hZ hvs k6
 generalize upd (upd (upd H5 s1 (.lst ((ps.map V.ref).drop jf))) s2 (.lst ((ps.map V.ref).take jf))) s3 (.lst vs)=H6 at k6 hZ
 have lK:Keep [p] H H6:=k5.trans (k6.sub (by simp))
 have aN:=aD.keep k6 (by simp)
 have R6:NAt H6 l as rr:=R.keep lK (by simpa using nlp) λa ha=>by simpa using nap a ha
 have pa6:zb9 H6 ps (run (rsN rr) (ah,one) (n+1)):=zb9.keep lH λb' x' y' eb=>k6 _ _ eb (by simp)
 have cD:=R6.row aw ho
 refine⟨s3,rfl,⟨_,SqL.of hZ⟩,zbw (xs:=vs) (λi σ H'=>Aj2 (Ex2 λx6 x7=>σ=[some (.ref p),some (.ref l),some (iV one),some (iV ah),some (.ref t),some (iV jf),x6,x7]) (H'=H6)) ⟨⟨_,_,rfl⟩,rfl⟩ (λi σ H' _ hh=>hh.2▸SqL.of hZ) ?_ ?_⟩
 ·rintro i v σ H' hv ⟨⟨x6,x7,rfl⟩,rfl⟩
  obtain⟨a,ha,rfl⟩:=hvs v (Yo hv)
  obtain⟨⟨x,y⟩,hxy,hta⟩:=pa6.mem ha
  obtain⟨n',_,e'⟩:=Qm.mp hxy
  refine⟨a,_,rfl,SqT.of hta,rfl,_,_,rfl,_,_,rfl,rfl,?_⟩
  refine⟨_,rfl,_,rfl,rfl,_,rfl,?_⟩
  by_cases cX:y=one
  ·subst cX
   exact za9 (by simp) (iteF ⟨⟨_,_,rfl⟩,rfl⟩)
  refine zbk (by simpa using λz=>cX (by omega)) ?_
  refine⟨_,rfl,_,rfl,_,rfl,l,_,_,_,rfl,rfl,SqL.of R6.ls,a1 aw,as[one],_,rfl,.inl (SqL.of cD),rfl,zep _,_,rfl,?_⟩
  rw[inV_nat]
  by_cases gW:y∈rr[one]
  ·exact za9 (by rw[decide_eq_true gW];rfl) ⟨⟨_,_,rfl⟩,rfl⟩
  refine zbk (by rw[decide_eq_false gW];rfl) ?_
  obtain⟨i1,i2⟩:=zgn o4
  have hi1:rr[one].idxOf ah<rr[one].length:=Ur.mpr o4
  refine⟨_,rfl,_,rfl,l,_,_,_,rfl,rfl,SqL.of R6.ls,a1 aw,.inl ⟨rfl,_,SqL.of cD⟩,_,rfl,_,rfl,l,_,_,_,rfl,rfl,SqL.of R6.ls,a1 aw,.inl ⟨rfl,_,SqL.of cD⟩,_,rfl,as[one],_,_,_,rfl,rfl,cD,rfl,zep _,i1,i2,_,_,rfl,rfl,_,rfl,as[one],_,_,rr[one].idxOf ah+1,rfl,by rw[show((rr[one].idxOf ah+1:Nat):Int)=(rr[one].idxOf ah:Int)+1 by lia],cD,by rw[Qa];omega,by rw[Qa];omega,?_⟩
  have jB:IsSt (rsN rr) (x,y):=e'▸itr_st (zbp.clo _ hG) ap n'
  have lQ:=(zc6 (nd_N rr)).mp jB
  have hy:y<rr.length:=Km λz=>by
   have gX:x∈row (rsN rr) y:=lQ
   rw[row_No z]at gX;cases gX
  have c9:y<as.length:=by omega
  have lQ:x∈rr[y]:=by
   have gX:x∈row (rsN rr) y:=lQ
   rwa[row_N hy]at gX
  have qx:rr[y].length≤900:=by
   have:=zbp.rows hG _ (zgv hy)
   rw[jR]at this
   exact Zk this (by omega)
  have e1:(rr[one].map iV).take (rr[one].idxOf ah+1)++iV y::(rr[one].map iV).drop (rr[one].idxOf ah+1)=(ins rr[one] (some ah) y).map iV:=by
   rw[←Uq,←Ua,←Ql,←Qs];rfl
  rw[e1]
  have R7:=R6.set aw (ins rr[one] (some ah) y)
  have k7:Keep (p::as) H (upd H' as[one] (.lst ((ins rr[one] (some ah) y).map iV))):=(lK.sub (by simp)).trans (Keep.wr (Qi _ (Qp aw)))
  have az:Pot (upd H' as[one] (.lst ((ins rr[one] (some ah) y).map iV))) p b5 m5:=aN.keep (xs:=[as[one]]) (Keep.wr (by simp)) (by simpa using Zi (nap _ (Qp aw)))
  generalize upd H' as[one] (.lst ((ins rr[one] (some ah) y).map iV))=H7 at R7 k7 az
  have hy7:y<(rr.set one (ins rr[one] (some ah) y)).length:=by rw[Uj];exact hy
  have aK:=R7.row c9 hy7
  rw[Jy (Zi cX)]at aK
  obtain⟨i3,i4⟩:=zgn lQ
  have ay:rr[y].idxOf x<rr[y].length:=Ur.mpr lQ
  refine⟨_,rfl,_,rfl,l,_,_,_,rfl,rfl,SqL.of R7.ls,a1 c9,.inl ⟨rfl,_,SqL.of aK⟩,_,rfl,_,rfl,l,_,_,_,rfl,rfl,SqL.of R7.ls,a1 c9,.inl ⟨rfl,_,SqL.of aK⟩,_,rfl,as[y],_,_,_,rfl,rfl,aK,rfl,zep _,i3,i4,_,_,rfl,rfl,_,rfl,as[y],_,_,rr[y].idxOf x+1,rfl,by rw[show((rr[y].idxOf x+1:Nat):Int)=(rr[y].idxOf x:Int)+1 by lia],aK,by rw[Qa];omega,by rw[Qa];omega,?_⟩
  have e2:(rr[y].map iV).take (rr[y].idxOf x+1)++iV one::(rr[y].map iV).drop (rr[y].idxOf x+1)=(ins rr[y] (some x) one).map iV:=by
   rw[←Uq,←Ua,←Ql,←Qs];rfl
  rw[e2]
  have hg:=zbp.tie (rsN rr) ah (one,rr[one]) n' hG (zgv ho) o4 (by rw[e'];exact cX) (by rw[e'];exact gW)
  rw[e']at hg
  have hg:Good (zbf (zbf (rsN rr) one (ins rr[one] (some ah) y)) y (ins (row (rsN rr) y) (some x) one)):=hg
  rw[row_N hy,set_N,set_N]at hg
  exact k b5 m5 _ _ (by rw[Uj,Uj]) hg (az.keep (xs:=[as[y]]) (Keep.wr (by simp)) (by simpa using Zi (nap _ (Qp c9)))) (R7.set c9 _) (k7.trans (Keep.wr (Qi _ (Qp c9))))
 ·rintro σ H' ⟨⟨x6,x7,rfl⟩,rfl⟩
  exact oh b5 m5 H' aN lK
end
end K21
end
section
namespace Wb
def good_turn{α:Type}[DecidableEq α]{rs q5:Rs α}(h:Good rs)(hn:q5.map (·.1)=rs.map (·.1))(hr:∀x,∃k,row q5 x=(row rs x).drop k++(row rs x).take k):Good q5:=by
 obtain⟨cs,a8,C⟩:=h
 exact⟨cs,a8,zer C (by rw[hn]) hr⟩
def idx_at{zs:List Nat}(nd:zs.Nodup){i:Nat}(h:i<zs.length):zs.idxOf zs[i]=i :=
 (We (h₀:=Ur.mpr (Qp h)) (h₁:=h) nd).mp (Kf _)
def leaf_N{rr:List (List Nat)}(hG:Good (rsN rr)){o j:Nat}(ho:o < rr.length)(hj:j≤rr[o].length) :
  Good (rsN (((rr++[[]]).set rr.length [o]).set o (rr[o].take j++rr.length::rr[o].drop j))):=by
 have hx:rr.length∉(rsN rr).map (·.1):=by rw[zdh];exact λz=>Ym _ (Yh.mp z)
 have cY:rr.length≠o:=Yq ho
 have base:∀c,(∀y,c=some y→y∈rr[o])→(c=none→rr[o]=[])→Good (rsN (((rr++[[]]).set rr.length [o]).set o (ins rr[o] c rr.length))):=λc h1 h2=>by
  have:=zbp.leaf (rsN rr) rr.length (o,rr[o]) c hG hx (zgv ho) h1 h2
  have this:Good (zbf (zbf (rsN rr++[(rr.length,[])]) o (ins rr[o] c rr.length)) rr.length [o]):=this
  rw[←snoc_N,set_N,set_N,List.set_comm _ _ (Zi cY)]at this
  exact this
 by_cases hz:rr[o]=[]
 ·have:=base none (fun y z=>by cases z) fun _=>hz
  have e:rr[o].take j++rr.length::rr[o].drop j=ins rr[o] none rr.length:=by
   rw[hz];simp[ins]
  rw[e];exact this
 ·have nd:rr[o].Nodup:=(zbp.sub _ hG _ (zgv ho)).1
  cases j with
  | succ i =>
   have hi:i<rr[o].length:=hj
   have:=base (some rr[o][i]) (λy z=>by cases z;exact Qp hi) λz=>by cases z
   have e:ins rr[o] (some rr[o][i]) rr.length=rr[o].take (i+1)++rr.length::rr[o].drop (i+1):=by
    show rr[o].take (rr[o].idxOf rr[o][i]+1)++rr.length::rr[o].drop (rr[o].idxOf rr[o][i]+1)=_
    rw[idx_at nd hi]
   rw[e]at this;exact this
  | zero =>
   have hp:0<rr[o].length:=Wv.mpr hz
   have hi:rr[o].length-1<rr[o].length:=by omega
   have hg:=base (some rr[o][rr[o].length-1]) (λy z=>by cases z;exact Qp hi) λz=>by cases z
   have e:ins rr[o] (some rr[o][rr[o].length-1]) rr.length=rr[o]++[rr.length]:=by
    show rr[o].take (rr[o].idxOf rr[o][rr[o].length-1]+1)++rr.length::rr[o].drop (rr[o].idxOf rr[o][rr[o].length-1]+1)=_
    rw[idx_at nd hi,show rr[o].length-1+1=rr[o].length by omega,List.take_length,List.drop_length]
   rw[e]at hg
   refine good_turn hg (by rw[zdh,zdh];simp) λx=>?_
   have bp:(((rr++[[]]).set rr.length [o]).set o (rr[o]++[rr.length])).length=rr.length+1:=by simp
   have aq:(((rr++[[]]).set rr.length [o]).set o (rr[o].take 0++rr.length::rr[o].drop 0)).length=rr.length+1:=by simp
   by_cases lR:x<rr.length+1
   ·rw [row_N (by rw [aq];exact lR),row_N (by rw [bp];exact lR)]
    by_cases l5:x=o
    ·subst l5
     rw[List.getElem_set_self,List.getElem_set_self]
     exact⟨rr[x].length,by rw[List.drop_left,List.take_left];rfl⟩
    ·rw [Jy (Zi l5),Jy (Zi l5)]
     exact⟨0,by simp⟩
   ·rw [row_No (by rw [aq];exact lR),row_No (by rw [bp];exact lR)]
    exact⟨0,rfl⟩
def new_N{rr:List (List Nat)}(hG:Good (rsN rr)):Good (rsN (rr++[[]])):=by
 rw[snoc_N]
 exact zbp.new _ _ hG (by rw[zdh];exact λz=>Ym _ (Yh.mp z))
def nil_N:Good (rsN []):=zbp.nil
end Wb
namespace K21
open PySem L2 Wb
abbrev zhu:Stmt:=top 37
def NAt.snoc(R:NAt H l as rr)(he:H e=some (.lst []))(aJ:e∉as)(dm:l≠e):NAt (upd H l (.lst (as.map V.ref++[.ref e]))) l (as++[e]) (rr++[[]]):=by
 refine⟨by rw[zac,Qs];rfl,?_,?_⟩
 ·have tJ:=R.apart
  have hr:=R.ro
  clear R
  induction hr with
  |nil=>exact .cons (by rw[zad (Zi dm)];exact he) .nil
  | cons r t ih =>
   rw[Qh,not_or]at tJ aJ
   refine .cons (by rw[zad (Zi tJ.1)];exact r) ?_
   have key:∀{zs:List V} {xs:Nl} {ys:List (List Nat)},Paired (λa r=>H a=some (.lst (r.map iV))) xs ys→l∉xs→Paired (λa r=>(upd H l (.lst zs)) a=some (.lst (r.map iV))) (xs++[e]) (ys++[[]]):=by
    intro zs xs ys hp
    induction hp with
    |nil=>intro _;exact .cons (by rw[zad (Zi dm)];exact he) .nil
    |cons q t' ih' =>
     intro hn
     rw[Qh,not_or]at hn
     exact .cons (by rw[zad (Zi hn.1)];exact q) (ih' hn.2)
   exact key t tJ.2
 ·rw [Za]
  exact⟨R.nd,Zb.mpr ⟨by simp,Zt⟩,λa ha b hb z=>aJ (by rw[←Qb.mp hb,←z];exact ha)⟩
inductive zhi(vs:List V)(H:Hp)(Q:VK):Prop
 |mk (p:Nd) (b m:Int) (n:Nat) (h0:vs=[.ref p,iV n]) (h1:Pot H p b m) (h2:n≤40)
  (h3:∀(l:Nd) (as:Nl) (rr:List (List Nat)) (b' m':Int) (H':Hp),NAt H' l as rr→Good (rsN rr)→rr.length≤40→Pot H' p b' m'→p∉as→H l=none→(∀a∈as,H a=none)→Keep [p] H H'→Q (.ref l) H'):zhi vs H Q
def spRoundsD:Sp:=λvs H Q _=>zhi vs H Q
section
variable{P:Nj}{w:Nk}{K:Nb}{mg:Ng}{base:Nm}
def zec:zan [qP, "_law_most",qR, "_law_k",qO] [qP, "_law_most"] (zah zhu):=fsk
def ok_rounds(F:Fun K "_law_rounds" "_law_rounds" zhu f fd)(FT:Fun K qG qG zdu ft fdt)(bT:Binds K fdt [qP,qM] [])(mT:mg qG=some (.ref ft))(GT:FnOk P w K mg base CX0 1 ft fdt [qP,qM] zfd)(FI:Fun K "_law_tie" "_law_tie" sTie fi fdi)(bI:Binds K fdi [qP,qR] [])(mI:mg "_law_tie" = some (.ref fi))(GI:FnOk P w K mg base CX0 3 fi fdi [qP,qR] spTieD)(aa:mg "len" = none)(aQ:mg "range" = none):FnOk P w K mg base CX0 4 f fd [qP, "_law_most"] spRoundsD:=by
 refine F.okL zec (λcdv A outer s H vs Q E hr h=>?_)
 obtain⟨p,b,m,n,rfl,hp,hn,k⟩:=h
 have hu:=zb4 hr
 have aT:Room 1 _:=hr.mono (by decide)
 have aE  := sizeLine_eq
 refine⟨_,zae (zar 2 zec.nd (za7 zaf))
  (zae (zbg Zd rfl (zcd rfl aQ (zaa (zak GT aT rfl mT FT.kp bT .nil zau (zaa (pv 0) (zaa (zas zb0 (pv 1) zai) zaf))) zaf)) (zbe 3 zec.nd)
   (zae (zay (zb7 Qx Zm Zl za4 (pv 2) (zaa (za7 zaf) zaf)))
   (zag (zb1 (PW.pt (pw_and (za2 op_gt (pv 3) zai (zbt _)) (zh0 (za2 op_gt (zak GT aT rfl mT FT.kp bT .nil zau (zaa (pv 0) (zaa zai zaf))) zai (zbt _)))))
    (zae (zar 4 zec.nd (zak GT aT rfl mT FT.kp bT .nil zau (zaa (pv 0) (zaa (pv 3) zaf))))
    (zae (zay (zb7 Qx Zm Zl za4 (za0 zao (pv 2) (pv 3) (λ_ _=>rfl)) (zaa (pv 4) zaf)))
    (zag (zay (zb7 Qx Jf Je zem (za0 zao (pv 2) (pv 4) (λ_ _=>rfl)) (zaa (zak GT aT rfl mT FT.kp bT .nil zau (zaa (pv 0) (zaa (zas zb0 (zaj zal (by rfl) aa Zo (zaa (za0 zao (pv 2) (pv 4) (λ_ _=>rfl)) zaf)) zai) zaf))) (zaa (pv 3) zaf))))))) zax))))
  (zae (zbg Zd rfl (zcd rfl aQ (zaa (zak GT aT rfl mT FT.kp bT .nil zau (zaa (pv 0) (zaa (za0 zao (za7 (zaa zai (zaa (zas zb0 (zaj zal (by rfl) aa Zo (zaa (pv 2) zaf)) zai) (zaa (zas zb0 (zas zf9 zai (zaj zal (by rfl) aa Zo (zaa (pv 2) zaf))) zai) zaf))))
     (zak GT aT rfl mT FT.kp bT .nil zau (zaa (pv 0) (zaa zai zaf))) (λ_ _=>rfl)) zaf))) zaf)) (zbe 3 zec.nd)
   (zag (zay (zak GI hr rfl mI FI.kp bI .nil zau (zaa (pv 0) (zaa (pv 2) zaf))))))
  (zag (za3 (pv 2))))),?_⟩
 refine⟨(by show 0≤sizeLine;decide),λl hl=>?_⟩
 have k1:Keep [p] H (upd H l (.lst [])):=Keep.new hl
 have bX:Pot (upd H l (.lst [])) p b m:=hp.keep (xs:=[]) (Keep.new hl) (by simp)
 have nlp:l≠p:=Zi (zab hp.1 hl)
 have R1:NAt (upd H l (.lst [])) l [] []:=⟨zac,.nil,Zt⟩
 generalize upd H l (.lst [])=H1 at k1 bX R1
 refine⟨_,rfl,_,rfl,_,_,rfl,rfl,p,b,m,_,rfl,bX,by omega,by omega,λj2 b2 m2 H2 jW sk aG lJ=>?_⟩
 have k2:Keep [p] H H2:=k1.trans (za5 lJ)
 have R2:NAt H2 l [] []:=R1.keep (za5 lJ) (by simpa using nlp) λa ha=>by cases ha
 obtain⟨many,rfl⟩:=Zh jW
 have hmany:many≤40:=by omega
 refine⟨_,rfl,by omega,by omega,?_⟩
 refine zcf (lo:=0) (λi σ H'=>Aj3 (Ex2 λx3 x4=>σ=[some (.ref p),some (iV n),some (.ref l),x3,x4]) (Keep [p] H H') (Ex4 λ(as:Nl) (rr:List (List Nat)) (b' m':Int)=>Aj6 (NAt H' l as rr) (Good (rsN rr)) (rr.length=i) (Pot H' p b' m') (p∉as) (∀a∈as,H a=none)))
  ⟨⟨_,_,rfl⟩,k2,[],[],b2,m2,R2,nil_N,rfl,aG,by simp,λa ha=>by cases ha⟩ ?_ ?_
 ·rintro i σ H3 hi ⟨⟨x3,x4,rfl⟩,k3,as,rr,b3,m3,R3,o9,bH,aF,aL,iu⟩
  have hi40:rr.length<40:=by omega
  refine⟨_,rfl,.inl ⟨rfl,_,SqL.of R3.ls⟩,(by show 0≤sizeLine;decide),λe he=>?_⟩
  have R4:NAt (upd H3 e (.lst [])) l as rr:=R3.k0 (Keep.new he)
  have he4:(upd H3 e (.lst [])) e=some (.lst []):=zac
  have dm:l≠e:=zab R3.ls he
  have aJ:e∉as:=λz=>by
   obtain⟨r,hr⟩:=R3.mem z
   rw[he]at hr;cases hr
  have nep:e≠p:=Zi (zab aF.1 he)
  have feH:H e=none:=zap k3 he (by simpa using nep)
  have gD:(as.map V.ref).length=rr.length:=by rw[Qa];exact R3.len
  refine⟨l,_,_,rfl,rfl,R4.ls,by omega,?_⟩
  have R5:=R4.snoc he4 aJ dm
  have k5:Keep [p] H (upd (upd H3 e (.lst [])) l (.lst (as.map V.ref++[.ref e]))):=λc u ec hc=>by
   have h1:=k3 c u ec hc
   rw[zad (λz=>by rw[z,hl]at ec;cases ec),zad (zab h1 he)];exact h1
  have aD:Pot (upd (upd H3 e (.lst [])) l (.lst (as.map V.ref++[.ref e]))) p b3 m3:=(aF.keep (xs:=[]) (Keep.new he) (by simp)).keep (xs:=[l]) (Keep.wr (by simp)) (by simpa using Zi nlp)
  generalize upd (upd H3 e (.lst [])) l (.lst (as.map V.ref++[.ref e]))=H5 at R5 k5 aD
  have cH:p∉as++[e]:=λz=>by
   rcases Qd.mp z with y | y
   ·exact aL y
   ·exact nep (Qb.mp y).symm
  have iq:∀a∈as++[e],H a=none:=λa ha=>by
   rcases Qd.mp ha with y | y
   ·exact iu a y
   ·rw[Qb.mp y];exact feH
  have fX:(rr++[[]]).length=i+1:=by rw[Qj,bH];rfl
  have stop:∀(x3 x4:Option V) (b' m':Int) (H':Hp),Pot H' p b' m'→NAt H' l (as++[e]) (rr++[[]])→Keep [p] H H'→Aj3 (Ex2 λy3 y4=>[some (V.ref p),some (iV n),some (.ref l),x3,x4]=[some (V.ref p),some (iV n),some (.ref l),y3,y4]) (Keep [p] H H') (Ex4 λ(as:Nl) (rr:List (List Nat)) (b' m':Int)=>Aj6 (NAt H' l as rr) (Good (rsN rr)) (rr.length=i+1) (Pot H' p b' m') (p∉as) (∀a∈as,H a=none)):=λx3 x4 b' m' H' aH R' k' =>
   ⟨⟨_,_,rfl⟩,k',_,_,b',m',R',new_N o9,fX,aH,cH,iq⟩
  refine⟨_,rfl,_,_,rfl,rfl,_,rfl,?_⟩
  by_cases hi0:i=0
  ·exact za9 (decide_eq_false (by omega)) (iteF (stop _ _ b3 m3 H5 aD R5 k5))
  refine zbk (decide_eq_true (by omega)) ?_
  refine⟨_,rfl,p,b3,m3,6,rfl,aD,by decide,by decide,λj6 b6 m6 H6 _ _ aN oI=>⟨_,_,rfl,rfl,_,rfl,?_⟩⟩
  have k6:Keep [p] H H6:=k5.trans (za5 oI)
  have dJ:∀a∈as++[e],a≠p:=λa ha z=>cH (z▸ha)
  have R6:NAt H6 l (as++[e]) (rr++[[]]):=R5.keep (za5 oI) (by simpa using nlp) λa ha=>by simpa using dJ a ha
  cases decide (j6>0) with
  |false=>exact iteF (stop _ _ b6 m6 H6 aN R6 k6)
  | true =>
   refine iteT ?_
   refine⟨_,rfl,_,rfl,p,b6,m6,_,rfl,aN,by omega,by omega,λj7 b7 m7 H7 jU sf az kW=>?_⟩
   obtain⟨ot,rfl⟩:=Zh jU
   have rJ:ot<rr.length:=by omega
   have k7:Keep [p] H H7:=k6.trans (za5 kW)
   have R7:NAt H7 l (as++[e]) (rr++[[]]):=R6.keep (za5 kW) (by simpa using nlp) λa ha=>by simpa using dJ a ha
   have e7:as.length=rr.length:=R3.len
   have n8:rr.length<(as++[e]).length:=by rw[Qj,e7];exact Ya _
   have hkR:rr.length<(rr++[[]]).length:=by rw[Qj];exact Ya _
   have a1:∀{c:Nat} (h:c<(as++[e]).length),atI ((as++[e]).map V.ref) (c:Int)=some (.ref (as++[e])[c]):=λh=>zav (by rw[Qt,Qc h];rfl)
   have ei:(0:Int)+(i:Int)=((rr.length:Nat):Int):=by omega
   have aK:=R7.row n8 hkR
   have e0:(rr++[[]])[rr.length]'hkR=[]:=by simp
   rw[e0]at aK
   refine⟨_,rfl,_,rfl,l,_,_,.ref (as++[e])[rr.length],rfl,rfl,SqL.of R7.ls,(by rw[ei];exact a1 n8),.inl ⟨rfl,_,SqL.of aK⟩,_,rfl,_,_,_,rfl,rfl,aK,by decide,?_⟩
   have k8:Keep [p] H (upd H7 (as++[e])[rr.length] (.lst ([ot].map iV))):=λc u ec hc=>by
    rw[zad (λz=>by rw[z,iq _ (Qp n8)]at ec;cases ec)];exact k7 c u ec hc
   have R8:=R7.set n8 [ot]
   have fP:Pot (upd H7 (as++[e])[rr.length] (.lst ([ot].map iV))) p b7 m7:=az.keep (xs:=[(as++[e])[rr.length]]) (Keep.wr (by simp)) (by simpa using Zi (dJ _ (Qp n8)))
   rw[show List.map iV ([]:List Nat)++[V.int (ot:Int)]=[ot].map iV from rfl]
   generalize upd H7 (as++[e])[rr.length] (.lst ([ot].map iV))=H8 at k8 R8 fP
   have di:ot<(as++[e]).length:=by omega
   have mo:ot<((rr++[[]]).set rr.length [ot]).length:=by rw[Uj];omega
   have dA:=R8.row di mo
   have e8:((rr++[[]]).set rr.length [ot])[ot]'(mo)=rr[ot]:=by
    rw[Jy (by omega),List.getElem_append_left rJ]
   rw[e8]at dA
   have jL:rr[ot].length≤900:=by
    have:=zbp.rows o9 _ (zgv rJ)
    rw[show(rsN rr).length=rr.length by unfold rsN;rw[List.length_map,List.length_range]]at this
    exact Zk this (by omega)
   have hml8:(rr[ot].map iV).length=rr[ot].length:=Qa ..
   refine⟨_,rfl,_,rfl,l,_,_,_,rfl,rfl,SqL.of R8.ls,a1 di,.inl ⟨rfl,_,SqL.of dA⟩,_,rfl,_,rfl,_,rfl,l,_,_,_,rfl,rfl,SqL.of R8.ls,a1 di,_,_,rfl,.inl (SqL.of dA),_,_,rfl,rfl,p,b7,m7,_,rfl,fP,by omega,by omega,λj9 b9 m9 H9 jT ni eR lI=>?_⟩
   obtain⟨jn,rfl⟩:=Zh jT
   have pe:jn≤rr[ot].length:=by omega
   have me:=lI _ _ dA (dJ _ (Qp di))
   refine⟨_,rfl,_,_,_,jn,rfl,rfl,me,by omega,by omega,?_⟩
   have R9:NAt H9 l (as++[e]) ((rr++[[]]).set rr.length [ot]):=R8.keep (za5 lI) (by simpa using nlp) λa ha=>by simpa using dJ a ha
   have e9:(rr[ot].map iV).take jn++V.int (0+(i:Int))::(rr[ot].map iV).drop jn=(rr[ot].take jn++rr.length::rr[ot].drop jn).map iV:=by
    rw[ei,Qs,Ql,Uq,Ua]
   rw[e9]
   refine⟨⟨_,_,rfl⟩,λc u ec hc=>?_,as++[e],_,b9,m9,R9.set di _,leaf_N o9 rJ pe,by rw[Uj,Uj];exact fX,eR.keep (xs:=[(as++[e])[ot]]) (Keep.wr (by simp)) (by simpa using Zi (dJ _ (Qp di))),cH,iq⟩
   rw[zad (λz=>by rw[z,iq _ (Qp di)]at ec;cases ec)]
   exact(k8.trans (za5 lI)) c u ec hc
 ·rintro σ H3 ⟨⟨x3,x4,rfl⟩,k3,as,rr,b3,m3,R3,o9,bH,aF,aL,iu⟩
  have gD:(as.map V.ref).length=rr.length:=by rw[Qa];exact R3.len
  refine⟨_,rfl,_,rfl,l,_,rfl,.inl (SqL.of R3.ls),_,_,rfl,rfl,_,rfl,l,_,rfl,.inl (SqL.of R3.ls),_,_,rfl,rfl,.inl ⟨by decide,by decide⟩,_,_,rfl,rfl,(by show 3≤sizeLine;decide),λq hq=>?_⟩
  have k4:Keep [] H3 (upd H3 q (.lst [.int 1,.int (((as.map V.ref).length:Int)+1),.int (3*((as.map V.ref).length:Int)+1)])):=Keep.new hq
  have oU:(upd H3 q (.lst [.int 1,.int (((as.map V.ref).length:Int)+1),.int (3*((as.map V.ref).length:Int)+1)])) q=some (.lst [.int 1,.int (((as.map V.ref).length:Int)+1),.int (3*((as.map V.ref).length:Int)+1)]):=zac
  have nqp:q≠p:=Zi (zab aF.1 hq)
  generalize upd H3 q (.lst [.int 1,.int (((as.map V.ref).length:Int)+1),.int (3*((as.map V.ref).length:Int)+1)])=H4 at k4 oU
  have aU:=aF.keep k4 (by simp)
  refine⟨_,rfl,p,b3,m3,3,rfl,aU,by decide,by decide,λj5 b5 m5 H5 jV si aD iG=>?_⟩
  have dQ:=iG _ _ oU nqp
  obtain⟨v,hv,hv1,hv2,hv3⟩:∃v:Int,atI [V.int 1,V.int (((as.map V.ref).length:Int)+1),V.int (3*((as.map V.ref).length:Int)+1)] j5=some (.int v)∧0<v∧v≤121∧(rr.length=0→v=1):=by
   obtain⟨jn,rfl⟩:=Zh jV
   have:jn=0∨jn=1∨jn=2:=by omega
   rcases this with rfl | rfl | rfl
   ·exact⟨_,zav rfl,by decide,by decide,λ_=>rfl⟩
   ·exact⟨_,zav rfl,by omega,by omega,λz=>by omega⟩
   ·exact⟨_,zav rfl,by omega,by omega,λz=>by omega⟩
  refine⟨q,_,_,.int v,rfl,rfl,SqL.of dQ,hv,p,b5,m5,v,rfl,aD,hv1,by omega,λj6 b6 m6 H6 sh hj61 aN oI=>?_⟩
  have k6:Keep [p] H3 H6:=(k4.sub (by simp)).trans ((za5 iG).trans (za5 oI))
  have nap:∀a∈as,a≠p:=λa ha z=>aL (z▸ha)
  have R6:NAt H6 l as rr:=R3.keep k6 (by simpa using nlp) λa ha=>by simpa using nap a ha
  obtain⟨jn,rfl⟩:=Zh sh
  refine⟨_,rfl,by omega,by omega,?_⟩
  refine zcf (lo:=0) (λi σ H'=>Aj3 (Ex2 λx3 x4=>σ=[some (.ref p),some (iV n),some (.ref l),x3,x4]) (Keep [p] H H') (Ex3 λ(dI:List (List Nat)) (b' m':Int)=>Aj4 (NAt H' l as dI) (Good (rsN dI)) (dI.length=rr.length) (Pot H' p b' m')))
   ⟨⟨_,_,rfl⟩,k3.trans k6,rr,b6,m6,R6,o9,rfl,aN⟩ ?_ ?_
  ·rintro i σ H7 hi ⟨⟨y3,y4,rfl⟩,k7,dI,b7,m7,R7,tP,cL,az⟩
   refine⟨_,rfl,_,rfl,p,l,b7,m7,as,dI,rfl,az,R7,tP,by omega,by omega,aL,λb8 m8 rr8 H8 mY hG8 fP R8 k8=>?_⟩
   refine⟨⟨_,_,rfl⟩,λc u ec hc=>k8 c u (k7 c u ec hc) λz=>?_,rr8,b8,m8,R8,hG8,mY.trans cL,fP⟩
   rcases Qh.mp z with y | y
   ·exact hc (by rw[y];exact Qb.mpr rfl)
   ·rw[iu c y]at ec;cases ec
  ·rintro σ H7 ⟨⟨y3,y4,rfl⟩,k7,dI,b7,m7,R7,tP,cL,az⟩
   exact⟨_,rfl,k l as dI b7 m7 H7 R7 tP (by omega) az aL hl iu k7⟩
end
end K21
end
section
namespace L2
open PySem PySem.Spec PyProof.Rows
theorem picks_to(cs:List Nat):∀b:Nat,b≤cs.length→(List.range b).filterMap (cs[·]?)=cs.take b
 |0,_=>by simp
 |b+1,h=>by
  rw[Xe,List.filterMap_append,picks_to cs b (by omega),Qo (by omega)]
  simp[Qc (show b<cs.length by omega)]
def indices_to{b n:Nat}(h:b≤n):PySem.Builtin.Str.strSliceIndices none (some (b:Int)) 1 n=List.range b:=by
 have:=PySem.StrLaws.strSliceIndices_plain (a:=0) (b:=b) (len:=n) (Zp _) h
 have e:PySem.Builtin.Str.strSliceIndices none (some (b:Int)) 1 n=PySem.Builtin.Str.strSliceIndices (some ((0:Nat):Int)) (some (b:Int)) 1 n:=by
  unfold PySem.Builtin.Str.strSliceIndices
  simp
  rw[show max (0:Int) (min 0 (n:Int))=0 by omega]
 rw[e,this]
 simp
section
variable{X:Cx}
def sl_strP:SlR X (λx lo hi H Q=>Ex2 λ(z:Str) (j:Nat)=>Aj6 (x=.str z) (lo=none) (hi=some (j:Int)) (j≤z.length) (z.length≤sizeLine) (∀y:Str,y.cps.toList=z.cps.toList.take j→Q (.str y) H)):=by
 intro a6 s σ H x v vl vu lo hi sl Q I rx hs pl pu h
 obtain⟨z,j,rfl,rfl,rfl,hj,hz,q⟩:=h
 obtain⟨t,rfl⟩:=rx
 cases pl
 cases pu
 rename_i tj
 have hi:=indices_to hj
 have aa:z.cps.toList.length=z.length:=by simp[Str.length]
 refine⟨"str",_,PySem.F.slot_str_getitem.lookup,typeIs_str s z t,wpAny_getItem_str_slice (l:=none) (u:=some ((j:Int),tj)) (st:=none) hs rfl ?_⟩
 have e1:slicePicked z none (some ((j:Int),tj)) none=List.range j:=hi
 unfold sliceMade
 rw[e1]
 split
 ·rename_i hc
  have cq:j=z.length:=by simpa using hc
  exact⟨.str z,H,I,⟨t,rfl⟩,q z (by rw[cq,←aa,List.take_length])⟩
 ·refine ⟨?_,⟨.str _,H,I.tok _,⟨_,rfl⟩,q _ ?_⟩⟩
  ·show ((List.range j).filterMap (z.cps[·]?)).toArray.size≤sizeLine
   rw[Qq]
   exact Zk (List.length_filterMap_le ..) (by rw[Yy];exact Zk hj hz)
  ·show ((List.range j).filterMap (z.cps[·]?)).toArray.toList=_
   rw[List.toList_toArray]
   have:=picks_to z.cps.toList j (by rw[aa];exact hj)
   rw[←this]
   simp
end
end L2
end
section
namespace K21
open PySem L2 Wb
abbrev sCount:Stmt:=top 32
abbrev sNames:Stmt:=top 33
def cntF(ls:List Nat):Nat→Nat→List Nat
 |0,_=>[]
 |f+1,n=>if n=0 then[] else cntF ls f ((n-1)/ls.length)++[ls.getD ((n-1)%ls.length) 0]
theorem cntF_zero(ls:List Nat):∀f,cntF ls f 0=[]
 |0=>rfl
 |_+1=>rfl
inductive IspCount(vs:List V)(H:Hp)(Q:VK):Prop
 |mk (n:Nat) (ls:Str) (h0:vs=[iV n,.str ls]) (h1:n≤1000) (h2:2≤ls.length) (h3:ls.length≤1000) (h4:∀z:Str,z.cps.toList=cntF ls.cps.toList n n→Q (.str z) H):IspCount vs H Q
def spCount:Sp:=λvs H Q _=>IspCount vs H Q
def str_len(z:Str):z.cps.toList.length=z.length:=by simp[Str.length]
def zig(a b:Str):(a++b).cps.toList=a.cps.toList++b.cps.toList:=by
 show(a.cps++b.cps).toList=_
 simp
def app_len(a b:Str):(a++b).length=a.length+b.length:=by
 rw[←str_len,←str_len,←str_len,zig,Qj]
section
variable{P:Nj}{w:Nk}{K:Nb}{mg:Ng}{base:Nm}
def zhs:zan ["_law_number", "_law_letters", "_law_name"] ["_law_number", "_law_letters"] (zah sCount):=fsk
def ok_count(F:Fun K "_law_counted" "_law_counted" sCount f fd)(aa:mg "len" = none):FnOk P w K mg base CX0 1 f fd ["_law_number", "_law_letters"] spCount:=by
 refine F.okL zhs (λcdv A outer s H vs Q E hr h=>?_)
 obtain⟨n,ls,rfl,hn,aq,il,k⟩:=h
 have aE:=sizeLine_eq
 refine⟨_,zae (zar 2 zhs.nd zbu)
  (zae (zcj Zd (za2 op_gt (pv 0) zai (zbt _))
   (zae (zar 2 zhs.nd (zas ze1 (za0 ix_str (pv 1) (zas zcu (zas op_sub (pv 0) zai) (zaj zch (by rfl) aa Zo (zaa (pv 1) zaf))) (λ_ _=>rfl)) (pv 2)))
   (zag (zar 0 zhs.nd (zas zga (zas op_sub (pv 0) zai) (zaj zch (by rfl) aa Zo (zaa (pv 1) zaf)))))))
  (zag (za3 (pv 2)))),?_⟩
 have fT:=str_len ls
 refine⟨λm σ H'=>Ex3 λ(c f:Nat) (z:Str)=>Aj6 (m=c) (σ=[some (iV c),some (.str ls),some (.str z)]) (H'=H) (c≤f) (cntF ls.cps.toList f c++z.cps.toList=cntF ls.cps.toList n n) (z.length+c≤n),
  ⟨n,n,n, "",rfl,rfl,rfl,Qg _,by simp;rfl,by show 0+n≤n;omega⟩,?_⟩
 rintro m σ H' ⟨c,f,z,rfl,rfl,rfl,hcf,he,eG⟩
 refine⟨_,rfl,_,_,rfl,rfl,_,rfl,?_⟩
 by_cases h0:m=0
 ·subst h0
  refine za9 (decide_eq_false (by omega)) ?_
  rw[cntF_zero]at he
  exact⟨_,rfl,k z he⟩
 ·refine zbk (decide_eq_true (by omega)) ?_
  cases f with
  |zero=>omega
  | succ f =>
   have e1:(m:Int)-1=((m-1:Nat):Int):=by omega
   have rR:(m-1)%ls.length<ls.length:=Ud _ (by omega)
   have d7:atI ls.cps.toList (((m:Int)-1)%(ls.length:Int))=some (ls.cps.toList.getD ((m-1)%ls.length) 0):=by
    rw[e1,←Int.natCast_emod]
    refine zav ?_
    rw[Qy,Qc (by rw[fT];exact rR)];rfl
   refine⟨_,λ σ' H' z=>z,?_⟩
   refine⟨_,rfl,_,rfl,_,_,rfl,rfl,_,rfl,_,rfl,by omega,_,_,rfl,rfl,by show(0:Int)<(ls.length:Int);omega,_,_,_,rfl,rfl,by omega,d7,_,rfl,_,_,rfl,rfl,by show 1+z.length≤sizeLine;omega,?_⟩
   refine⟨_,rfl,_,_,rfl,rfl,_,rfl,_,rfl,by omega,_,_,rfl,rfl,⟨by omega,by omega⟩,?_⟩
   have e2:((m:Int)-1)/(ls.length:Int)=(((m-1)/ls.length:Nat):Int):=by rw[e1];exact(Int.natCast_ediv ..).symm
   have dm:(m-1)/ls.length≤m-1:=Nat.div_le_self _ _
   rw[e2]
   refine⟨(m-1)/ls.length,by omega,(m-1)/ls.length,f,_,rfl,rfl,rfl,by omega,?_,?_⟩
   ·rw [← he,zig]
    show cntF _ f _++([_]++_)=(if m=0 then[] else cntF ls.cps.toList f ((m-1)/ls.cps.toList.length)++[ls.cps.toList.getD ((m-1)%ls.cps.toList.length) 0])++_
    rw[if_neg h0,fT,Qu]
   ·rw [app_len]
    show 1+z.length+(m-1)/ls.length≤n
    omega
end
def zcv(j:Nat):Str:=[("ab" : Str), "za", "xyz", "qn"].getD j "ab"
def nmF(way many first ou:Nat)(tl:List Nat)(k:Nat):List Nat :=
 if way=0∧many≤26 then[97+(first+ou*k)%676%26]
 else if way=1 then cntF (zcv (tl.length%4)).cps.toList (1+(first+ou*k)%97) (1+(first+ou*k)%97)
 else[97+(first+ou*k)%676/26,97+(first+ou*k)%676%26]++tl.take ((first+k)%(tl.length+1))
def cnt_nd:∀j<4,((List.range 97).map λi=>cntF (zcv j).cps.toList (1+i) (1+i)).Nodup:=by decide +kernel
def cnt_ok:∀j<4,∀i<97,1≤(cntF (zcv j).cps.toList (1+i) (1+i)).length∧(cntF (zcv j).cps.toList (1+i) (1+i)).length≤8∧∀c∈cntF (zcv j).cps.toList (1+i) (1+i),97≤c∧c≤122:=by decide +kernel
def cnt_inj{j a b:Nat}(hj:j<4)(ha:a<97)(hb:b<97)(h:cntF (zcv j).cps.toList (1+a) (1+a)=cntF (zcv j).cps.toList (1+b) (1+b)):a=b:=by
 refine(We (h₀:=by rw[Qa,Yy];exact ha) (h₁:=by rw[Qa,Yy];exact hb) (cnt_nd j hj)).mp ?_
 rw[Zu,Zu,Ji,Ji]
 exact h
def byS:List Nat:=[1,3,5,7,9,25,27,675]
def by_inj{b f a c:Nat}(hb:b∈byS)(ha:a<40)(hc:c<40)(h:(f+b*a)%676=(f+b*c)%676):a=c:=by
 simp[byS]at hb
 rcases hb with rfl | rfl | rfl | rfl | rfl | rfl | rfl | rfl<;>omega
def by_inj97{b f a c:Nat}(hb:b∈byS)(ha:a<40)(hc:c<40)(h:(f+b*a)%97=(f+b*c)%97):a=c:=by
 simp[byS]at hb
 rcases hb with rfl | rfl | rfl | rfl | rfl | rfl | rfl | rfl<;>omega
def by_inj26{b f a c:Nat}(hb:b∈byS)(ha:a<26)(hc:c<26)(h:(f+b*a)%676%26=(f+b*c)%676%26):a=c:=by
 simp[byS]at hb
 rcases hb with rfl | rfl | rfl | rfl | rfl | rfl | rfl | rfl<;>omega
def nm_inj{way many f b a c:Nat}{tl:List Nat}(hb:b∈byS)(hm:many≤40)(ha:a<many)(hc:c<many)(h:nmF way many f b tl a=nmF way many f b tl c):a=c:=by
 unfold nmF at h
 split at h
 ·rename_i z
  have h:97+(f+b*a)%676%26=97+(f+b*c)%676%26:=by injection h
  exact by_inj26 (f:=f) hb (by omega) (by omega) (by omega)
 ·split at h
  ·exact by_inj97 hb (by omega) (by omega) (cnt_inj (Ud _ (by decide)) (Ud _ (by decide)) (Ud _ (by decide)) h)
  ·rw [Yc,Yc,Yc,Yc] at h
   injection h with h1 h2
   injection h2 with h2 _
   exact by_inj (f:=f) hb (by omega) (by omega) (by omega)
def nm_ok{way many f b k:Nat}{tl:List Nat}(ht:tl.length≤6)(hc:∀c∈tl,97≤c∧c≤122):1≤(nmF way many f b tl k).length∧(nmF way many f b tl k).length≤8∧∀c∈nmF way many f b tl k,97≤c∧c≤122:=by
 unfold nmF
 split
 ·refine ⟨Qg _,by show 1≤8;decide,fun c h=>?_⟩
  rw[Qb.mp h];omega
 ·split
  ·exact cnt_ok _ (Ud _ (by decide)) _ (Ud _ (by decide))
  ·refine ⟨by simp,by simp [Zn];omega,fun c h=>?_⟩
   rw[Yc,Yc,Wu,Qh,Qh]at h
   rcases h with h | h | h
   ·omega
   ·omega
   ·exact hc c (Ys h)
def cnt_not:∀j<4,∀i<97,cntF (zcv j).cps.toList (1+i) (1+i)≠("nobody" : Str).cps.toList:=by decide +kernel
def nm_not{way many f b k:Nat}{tl:List Nat}(ht:∀ c t,tl=c::t→c=110):nmF way many f b tl k≠("nobody" : Str).cps.toList:=by
 have e:("nobody" : Str).cps.toList=[110,111,98,111,100,121]:=rfl
 unfold nmF
 split
 ·rw[e];simp
 ·split
  ·exact cnt_not _ (Ud _ (by decide)) _ (Ud _ (by decide))
  ·rw [e]
   intro h
   rw[Yc,Yc,Wu]at h
   injection h with _ h
   injection h with _ h
   cases tl with
   |nil=>simp at h
   | cons c t =>
    have:=ht c t rfl
    cases hk:(f+k)%((c::t).length+1) with
    |zero=>rw[hk]at h;simp at h
    |succ n =>
     rw[hk,List.take_succ_cons]at h
     injection h with h _
     omega
inductive IspNames(vs:List V)(H:Hp)(Q:VK):Prop
 |mk (p:Nd) (b m:Int) (n:Nat) (h0:vs=[.ref p,iV n]) (h1:Pot H p b m) (h2:n≤40) (h3:∀(l:Nd) (zs:Nf) (b' m':Int) (H':Hp),H' l=some (.lst (zs.map V.str))→zs.length=n→zs.Nodup→(∀z∈zs,zdd z∧z ≠ "nobody")→Pot H' p b' m'→H l=none→Keep [p] H H'→Q (.ref l) H'):IspNames vs H Q
def spNames:Sp:=λvs H Q _=>IspNames vs H Q
section
variable{P:Nj}{w:Nk}{K:Nb}{mg:Ng}{base:Nm}
def zcx:zan [qP,qM, "_law_letters", "_law_first", "_law_by", "_law_tail", "_law_way", "_law_found", "_law_k", "_law_at", "_law_name"] [qP,qM] (zah sNames):=fsk
def ok_names(F:Fun K "_law_names" "_law_names" sNames f fd)(FT:Fun K qG qG zdu ft fdt)(bT:Binds K fdt [qP,qM] [])(mT:mg qG=some (.ref ft))(GT:FnOk P w K mg base CX0 1 ft fdt [qP,qM] zfd)(FC:Fun K "_law_counted" "_law_counted" sCount fc fdc)(bC:Binds K fdc ["_law_number", "_law_letters"] [])(mC:mg "_law_counted" = some (.ref fc))(GC:FnOk P w K mg base CX0 1 fc fdc ["_law_number", "_law_letters"] spCount)(aa:mg "len" = none)(aQ:mg "range" = none):FnOk P w K mg base CX0 2 f fd [qP,qM] spNames:=by
 refine F.okL zcx (λcdv A outer s H vs Q E hr h=>?_)
 obtain⟨p,b,m,n,rfl,hp,hn,k⟩:=h
 have aE:=sizeLine_eq
 refine⟨_,zae (zar 2 zcx.nd zbu)
  (zae (zar 3 zcx.nd (zak GT hr rfl mT FT.kp bT .nil zau (zaa (pv 0) (zaa zai zaf))))
  (zae (zar 4 zcx.nd (za0 zao (za7 (zaa zai (zaa zai (zaa zai (zaa zai (zaa zai (zaa zai (zaa zai (zaa zai zaf))))))))) (zak GT hr rfl mT FT.kp bT .nil zau (zaa (pv 0) (zaa zai zaf))) (λ_ _=>rfl)))
  (zae (zar 5 zcx.nd (zbb sl_strP zbu zbl (zbn (zak GT hr rfl mT FT.kp bT .nil zau (zaa (pv 0) (zaa zai zaf))))))
  (zae (zar 6 zcx.nd (zak GT hr rfl mT FT.kp bT .nil zau (zaa (pv 0) (zaa zai zaf))))
  (zae (zar 7 zcx.nd (za7 zaf))
  (zae (zbg Zd rfl (zcd rfl aQ (zaa (pv 1) zaf)) (zbe 8 zcx.nd)
   (zae (zar 9 zcx.nd (zas zcu (zas zb0 (pv 3) (zas zf9 (pv 4) (pv 8))) zai))
   (zag (zb1 (PW.pt (pw_and (za2 op_eq (pv 6) zai (zbt _)) (zh0 (za2 op_le (pv 1) zai (zbt _)))))
    (zag (zay (zb7 Qx Zm Zl za4 (pv 7) (zaa (za0 ix_str (pv 2) (zas zcu (pv 9) zai) (λ_ _=>rfl)) zaf))))
    (zag (zb1 (za2 op_eq (pv 6) zai (zbt _))
     (zag (zay (zb7 Qx Zm Zl za4 (pv 7) (zaa (zak GC hr rfl mC FC.kp bC .nil zau (zaa (zas zb0 zai (zas zcu (zas zb0 (pv 3) (zas zf9 (pv 4) (pv 8))) zai)) (zaa (za0 zao (za7 (zaa zbu (zaa zbu (zaa zbu (zaa zbu zaf))))) (zas zcu (zaj zch (by rfl) aa Zo (zaa (pv 5) zaf)) zai) (λ_ _=>rfl)) zaf))) zaf))))
     (zae (zar 10 zcx.nd (zas ze1 (za0 ix_str (pv 2) (zas zga (pv 9) zai) (λ_ _=>rfl)) (za0 ix_str (pv 2) (zas zcu (pv 9) zai) (λ_ _=>rfl))))
     (zag (zay (zb7 Qx Zm Zl za4 (pv 7) (zaa (zas ze1 (pv 10) (zbb sl_strP (pv 5) zbl (zbn (zas zcu (zas zb0 (pv 3) (pv 8)) (zas zb0 (zaj zch (by rfl) aa Zo (zaa (pv 5) zaf)) zai))))) zaf)))))))))))
  (zag (za3 (pv 7))))))))),?_⟩
 refine⟨_,rfl,p,b,m,676,rfl,hp,by decide,by decide,λd1 b1 m1 H1 gN tW bX qq=>?_⟩
 refine⟨(by show 8≤sizeLine;decide),λq hq=>?_⟩
 have k2:Keep [p] H (upd H1 q (.lst [.int 1,.int 3,.int 5,.int 7,.int 9,.int 25,.int 27,.int 675])):=(za5 qq).trans (Keep.new hq)
 have aG:Pot (upd H1 q (.lst [.int 1,.int 3,.int 5,.int 7,.int 9,.int 25,.int 27,.int 675])) p b1 m1:=bX.keep (xs:=[]) (Keep.new hq) (by simp)
 have cF:(upd H1 q (.lst [.int 1,.int 3,.int 5,.int 7,.int 9,.int 25,.int 27,.int 675])) q=some (.lst [.int 1,.int 3,.int 5,.int 7,.int 9,.int 25,.int 27,.int 675]):=zac
 have nqp:q≠p:=Zi (zab bX.1 hq)
 generalize upd H1 q (.lst [.int 1,.int 3,.int 5,.int 7,.int 9,.int 25,.int 27,.int 675])=H2 at k2 aG cF
 obtain⟨f,rfl⟩:=Zh gN
 refine⟨_,rfl,p,b1,m1,8,rfl,aG,by decide,by decide,λd3 b3 m3 H3 h30 h31 aF oJ=>?_⟩
 have hq3:=oJ _ _ cF nqp
 have k3:=k2.trans (za5 oJ)
 obtain⟨bb,d7,pk⟩:∃bb:Nat,atI [V.int 1,V.int 3,V.int 5,V.int 7,V.int 9,V.int 25,V.int 27,V.int 675] d3=some (iV bb)∧bb∈byS:=by
  obtain⟨jn,rfl⟩:=Zh h30
  have hj:jn<8:=by omega
  have:∀j:Fin 8,∃bb∈byS,[V.int 1,V.int 3,V.int 5,V.int 7,V.int 9,V.int 25,V.int 27,V.int 675][j.1]?=some (iV bb):=by decide
  obtain⟨bb,h1,h2⟩:=this ⟨jn,hj⟩
  exact⟨bb,zav h2,h1⟩
 have hbb2:bb≤675:=by
  have:∀x∈byS,x≤675:=by decide
  exact this bb pk
 refine⟨q,_,_,iV bb,rfl,rfl,SqL.of hq3,d7,?_⟩
 refine⟨_,rfl,p,b3,m3,7,rfl,aF,by decide,by decide,λd4 b4 m4 H4 h40 h41 aU ji=>?_⟩
 obtain⟨j4,rfl⟩:=Zh h40
 have k4:=k3.trans (za5 ji)
 refine⟨_,rfl,_,j4,rfl,rfl,rfl,by show j4≤6;omega,by decide,λtl gA=>?_⟩
 have qF:tl.cps.toList.length≤6:=by rw[gA,Zn];omega
 have qE:∀c∈tl.cps.toList,97≤c∧c≤122:=λc hc=>by
  rw[gA]at hc
  have:∀x∈("nqxbkw" : Str).cps.toList,97≤x∧x≤122:=by decide +kernel
  exact this c (Ys hc)
 have qH:∀c t,tl.cps.toList=c::t→c=110:=λc t ht=>by
  rw[gA]at ht
  cases j4 with
  |zero=>cases ht
  |succ j =>
   rw[show("nqxbkw" : Str).cps.toList=110::[113,120,98,107,119] from rfl,List.take_succ_cons]at ht
   injection ht with h _
   exact h.symm
 have lZ:=str_len tl
 refine⟨_,rfl,p,b4,m4,3,rfl,aU,by decide,by decide,λd5 b5 m5 H5 h50 h51 aD iG=>?_⟩
 obtain⟨wy,rfl⟩:=Zh h50
 have k5:=k4.trans (za5 iG)
 refine⟨(by show 0≤sizeLine;decide),λl hl=>?_⟩
 have k6:Keep [p] H (upd H5 l (.lst [])):=k5.trans (Keep.new hl)
 have nlp:l≠p:=Zi (zab aD.1 hl)
 have flH:H l=none:=zap k5 hl (by simpa using nlp)
 have aN:Pot (upd H5 l (.lst [])) p b5 m5:=aD.keep (xs:=[]) (Keep.new hl) (by simp)
 have hl6:(upd H5 l (.lst [])) l=some (.lst (([]:List Str).map V.str)):=zac
 generalize upd H5 l (.lst [])=H6 at k6 aN hl6
 refine⟨_,rfl,(n:Int),rfl,by omega,by omega,?_⟩
 rw[Ws]
 refine zcf (lo:=0) (λi σ H'=>Aj4 (Ex3 λx8 x9 eF=>σ=[some (.ref p),some (iV n),some (.str zdi),some (iV f),some (iV bb),some (.str tl),some (iV wy),some (.ref l),x8,x9,eF]) (Keep [p] H H') (Pot H' p b5 m5) (Ex1 λzs:List Str=>Aj2 (H' l=some (.lst (zs.map V.str))) (zs.map (·.cps.toList)=(List.range i).map (nmF wy n f bb tl.cps.toList))))
  ⟨⟨_,_,_,rfl⟩,k6,aN,[],hl6,rfl⟩ ?_ ?_
 ·rintro i σ H7 hi ⟨⟨x8,x9,eF,rfl⟩,k7,az,zs,cL,kZ⟩
  have eG:zs.length=i:=by
   have:=congrArg List.length kZ
   rwa[Qa,Qa,Yy]at this
  have fin:∀(y8 y9 kO:Option V) (z:Str) (H8:Hp),Keep [] H7 H8→z.cps.toList=nmF wy n f bb tl.cps.toList i→Aj4 (Ex3 λx8 x9 eF=>[some (V.ref p),some (iV n),some (.str zdi),some (iV f),some (iV bb),some (.str tl),some (iV wy),some (.ref l),y8,y9,kO]=[some (V.ref p),some (iV n),some (.str zdi),some (iV f),some (iV bb),some (.str tl),some (iV wy),some (.ref l),x8,x9,eF]) (Keep [p] H (upd H8 l (.lst (zs.map V.str++[.str z])))) (Pot (upd H8 l (.lst (zs.map V.str++[.str z]))) p b5 m5) (Ex1 λgy:List Str=>Aj2 ((upd H8 l (.lst (zs.map V.str++[.str z]))) l=some (.lst (gy.map V.str))) (gy.map (·.cps.toList)=(List.range (i+1)).map (nmF wy n f bb tl.cps.toList))):=λy8 y9 kO z H8 k8 hz =>
   ⟨⟨_,_,_,rfl⟩,λc u ec hc=>by rw[zad (zab ec flH)];exact k8 _ _ (k7 c u ec hc) (by simp),(az.keep k8 (by simp)).keep (xs:=[l]) (Keep.wr (by simp)) (by simpa using Zi nlp),zs++[z],by rw[zac,Qs];rfl,by rw[Qs,kZ,Xe,Qs,Ql,Ql,hz];rfl⟩
  have e9:((f:Int)+(bb:Int)*(0+(i:Int)))%676=(((f+bb*i)%676:Nat):Int):=by rw[Xc,←Int.natCast_mul,←Int.natCast_add];rfl
  have e97:((f:Int)+(bb:Int)*(0+(i:Int)))%97=(((f+bb*i)%97:Nat):Int):=by rw[Xc,←Int.natCast_mul,←Int.natCast_add];rfl
  refine⟨_,rfl,_,rfl,_,rfl,_,_,rfl,rfl,.inl ⟨by omega,by omega⟩,_,_,rfl,rfl,_,_,rfl,rfl,by decide,?_⟩
  rw[e9]
  have hat6:(f+bb*i)%676<676:=Ud _ (by decide)
  have rT:(((f+bb*i)%676:Nat):Int)%26=(((f+bb*i)%676%26:Nat):Int):=rfl
  have iL:atI zdi.cps.toList ((((f+bb*i)%676:Nat):Int)%26)=some (97+(f+bb*i)%676%26):=by
   rw[rT];exact letter_at (by omega) (by omega)
  refine⟨_,rfl,rfl,_,rfl,?_⟩
  have cV:(zs.map V.str).length<sizeLine:=by rw[Qa];omega
  by_cases hA:wy=0∧n≤26
  ·refine zbk (decide_eq_true (by rw [hA.1];rfl)) ⟨_,rfl,_,_,rfl,rfl,_,rfl,zbk (decide_eq_true (by omega)) ?_⟩
   refine⟨_,rfl,.inl ⟨rfl,_,SqL.of cL⟩,_,rfl,_,rfl,_,_,rfl,rfl,by decide,_,_,_,rfl,rfl,zd4,iL,l,_,_,rfl,rfl,cL,cV,?_⟩
   exact fin _ _ _ _ H7 Keep.refl (by unfold nmF;rw[if_pos hA])
  have hc:(wy=0∧¬n≤26)∨wy≠0:=by omega
  rcases hc with⟨hw,hn26⟩ | hw
  refine zbk (decide_eq_true (by rw[hw];rfl)) ⟨_,rfl,_,_,rfl,rfl,_,rfl,za9 (decide_eq_false (by omega)) ?_⟩
  rotate_left
  refine za9 (decide_eq_false (λz=>hw (by injection z;omega))) (iteF ?_)
  all_goals
   refine⟨_,rfl,rfl,_,rfl,?_⟩
   by_cases h1:wy=1
   ·refine zbk (decide_eq_true (by rw [h1];rfl)) ?_
    refine⟨_,rfl,.inl ⟨rfl,_,SqL.of cL⟩,_,rfl,_,rfl,_,rfl,_,_,rfl,rfl,.inl ⟨by omega,by omega⟩,_,_,rfl,rfl,_,_,rfl,rfl,by decide,_,_,rfl,rfl,(by show 4≤sizeLine;decide),λq8 lg=>?_⟩
    have sj:tl.length%4<4:=Ud _ (by decide)
    have tH:atI [V.str "ab",V.str "za",V.str "xyz",V.str "qn"] ((tl.length:Int)%4)=some (.str (zcv (tl.length%4))):=by
     rw[show(tl.length:Int)%4=((tl.length%4:Nat):Int) from rfl]
     have:∀j:Fin 4,[V.str "ab",V.str "za",V.str "xyz",V.str "qn"][j.1]?=some (.str (zcv j.1)):=by decide
     exact zav (this ⟨_,sj⟩)
    have iN:∀j<4,2≤(zcv j).length∧(zcv j).length≤1000:=by decide +kernel
    have k8:Keep [] H7 (upd H7 q8 (.lst [.str "ab",.str "za",.str "xyz",.str "qn"])):=Keep.new lg
    refine⟨_,rfl,tl,rfl,by omega,_,_,rfl,rfl,by decide,q8,_,_,.str (zcv (tl.length%4)),rfl,rfl,SqL.of zac,tH,1+(f+bb*i)%97,zcv (tl.length%4),by rw[e97];rfl,by have:=Ud (f+bb*i) (show 0<97 by decide);omega,(iN _ sj).1,(iN _ sj).2,λz hz=>?_⟩
    refine⟨l,_,_,rfl,rfl,k8 _ _ cL (by simp),cV,?_⟩
    exact fin _ _ _ z _ k8 (by unfold nmF;rw[if_neg hA,if_pos h1,lZ];exact hz)
   ·refine za9 (decide_eq_false (fun z=>h1 (by injection z;omega))) ?_
    have rV:atI zdi.cps.toList ((((f+bb*i)%676:Nat):Int)/26)=some (97+(f+bb*i)%676/26):=by
     rw[show(((f+bb*i)%676:Nat):Int)/26=(((f+bb*i)%676/26:Nat):Int) from rfl];exact letter_at (by omega) (by omega)
    refine⟨_,rfl,_,rfl,_,_,rfl,rfl,⟨by decide,by decide⟩,_,_,_,rfl,rfl,zd4,rV,_,rfl,_,rfl,_,_,rfl,rfl,by decide,_,_,_,rfl,rfl,zd4,iL,_,_,rfl,rfl,by show 1+1≤sizeLine;decide,?_⟩
    have hjm:(f+i)%(tl.length+1)<tl.length+1:=Ud _ (Nat.succ_pos _)
    refine⟨_,rfl,.inl ⟨rfl,_,SqL.of cL⟩,_,rfl,_,rfl,_,rfl,_,rfl,_,_,rfl,rfl,_,rfl,tl,rfl,by omega,_,_,rfl,rfl,_,_,rfl,rfl,by show(0:Int)<(tl.length:Int)+1;omega,_,rfl,tl,(f+i)%(tl.length+1),rfl,rfl,by rw[Xc];rfl,by omega,by omega,λy hy=>?_⟩
    have qx:y.length≤6:=by rw[←str_len,hy,Zn];omega
    refine⟨_,_,rfl,rfl,by rw[app_len];show 1+1+y.length≤sizeLine;omega,l,_,_,rfl,rfl,cL,cV,?_⟩
    exact fin _ _ _ _ H7 Keep.refl (by unfold nmF;rw[if_neg hA,if_neg h1,zig,zig,hy,lZ];rfl)
 ·rintro σ H7 ⟨⟨x8,x9,eF,rfl⟩,k7,az,zs,cL,kZ⟩
  have eG:zs.length=n:=by
   have:=congrArg List.length kZ
   rwa[Qa,Qa,Yy]at this
  refine⟨_,rfl,k l zs b5 m5 H7 cL eG ?_ (λz hz=>?_) az flH k7⟩
  ·refine nodup_of_map (f:=fun z:Str=>z.cps.toList) ?_
   rw[kZ]
   exact zge λa ha c hc h=>nm_inj pk hn ha hc h
  ·have:z.cps.toList∈(List.range n).map (nmF wy n f bb tl.cps.toList):=by rw [← kZ];exact Qm.mpr ⟨z,hz,rfl⟩
   obtain⟨j,_,e⟩:=Qm.mp this
   have:=nm_ok (way:=wy) (many:=n) (f:=f) (b:=bb) (k:=j) qF qE
   rw[e]at this
   have cY:=nm_not (way:=wy) (many:=n) (f:=f) (b:=bb) (k:=j) qH
   rw[e]at cY
   exact⟨⟨by rw[←str_len];exact this.1,by rw[←str_len];exact this.2.1,this.2.2⟩,λz=>cY (by rw[z])⟩
end
end K21
end
section
namespace Wb
section
variable{α β:Type}[DecidableEq α][DecidableEq β]{ns:List α}{r:α→List α}{cs:List (List (α×α))}{f:α→β}{a8:α→α}{af:β→β}
def cert_mapL(hf:∀ x y,f x=f y→x=y)(C:Cert ns r cs a8){r':β→List β}(hr:∀ x,r' (f x)=(r x).map f)(mf:∀ y,(∀ x,y≠f x)→r' y=[])(hl:∀ x∈ns,af (f x)=f (a8 x)) :
  Cert (ns.map f) r' (cs.map λc=>c.map λs=>(f s.1,f s.2)) af:=by
 have hm:∀{y z},z∈r' y→∃x w,y=f x∧z=f w∧w∈r x:=λ{y z} h=>by
  by_cases hy:∃x,y=f x
  ·obtain ⟨x,rfl⟩:=hy
   rw[hr]at h
   obtain⟨w,hw,rfl⟩:=Qm.mp h
   exact⟨x,w,rfl,rfl,hw⟩
  ·rw [mf y fun x e=>hy ⟨x,e⟩] at h
   cases h
 have hb:∀{x w},w∈r x→f w∈r' (f x):=λh=>by rw[hr];exact Qm.mpr ⟨_,h,rfl⟩
 have hg:∀s t:α×α,(f s.1,f s.2)=(f t.1,f t.2)→s=t:=λs t e=>Kd (hf _ _ (congrArg Prod.fst e)) (hf _ _ (congrArg Prod.snd e))
 have mK:∀{l:List α},l.Nodup→(l.map f).Nodup:=λnd=>Ux.mpr (nd.imp λh e=>h (hf _ _ e))
 have dE:(cs.map λc=>c.map λs=>(f s.1,f s.2)).flatten=cs.flatten.map λs=>(f s.1,f s.2):=List.map_flatten.symm
 refine⟨mK C.nd,λy hy=>?_,λy=>?_,λy h=>?_,λx y h=>?_,?_,λs=>?_,λc hc=>?_,λx hx=>?_,λx y h=>?_,λx hx y hy e=>?_,λx hx=>?_⟩
 ·cases e:r' y with
  |nil=>rfl
  |cons z t =>
   obtain⟨x,w,rfl,_,hw⟩:=hm (y:=y) (z:=z) (by rw[e];exact Qe)
   exact absurd (Qm.mpr ⟨x,C.inn hw,rfl⟩) hy
 ·by_cases hy:∃ x,y=f x
  ·obtain ⟨x,rfl⟩:=hy
   rw[hr];exact mK (C.rn x)
  ·rw[mf y λx e=>hy ⟨x,e⟩];exact Zt
 ·obtain ⟨x,w,e1,e2,hw⟩:=hm h
  have:=hf _ _ (e1.symm.trans e2)
  subst this
  exact C.ir _ hw
 ·obtain ⟨a,w,rfl,rfl,hw⟩:=hm h
  exact hb (C.sy _ _ hw)
 ·rw [dE]
  exact Ux.mpr (C.cf.imp λh e=>h (hg _ _ e))
 ·rw [dE]
  constructor
  ·intro h
   obtain⟨t,ht,rfl⟩:=Qm.mp h
   exact hb ((C.cm t).mp ht)
  ·intro h
   obtain⟨x,w,e1,e2,hw⟩:=hm h
   exact Qm.mpr ⟨(w,x),(C.cm (w,x)).mpr hw,Kd e2.symm e1.symm⟩
 ·obtain ⟨c0,iU,rfl⟩:=Qm.mp hc
  obtain⟨s,t,rfl,k⟩:=C.cy c0 iU
  refine⟨(f s.1,f s.2),_,rfl,lk_map (g:=λs:α×α=>(f s.1,f s.2)) (λy _=>?_) k⟩
  show(f y.2,nxt (r' (f y.2)) (f y.1))=(f y.2,f (nxt (r y.2) y.1))
  rw[hr,nxt_map hf]
 ·obtain ⟨x0,iJ,rfl⟩:=Qm.mp hx
  rw[hl x0 iJ]
  exact Qm.mpr ⟨_,C.ln x0 iJ,rfl⟩
 ·obtain ⟨a,w,rfl,rfl,hw⟩:=hm h
  rw[hl w (C.inn' hw),hl a (C.inn hw),C.la a w hw]
 ·obtain ⟨x0,iJ,rfl⟩:=Qm.mp hx
  obtain⟨y0,lO,rfl⟩:=Qm.mp hy
  rw[hl x0 iJ,hl y0 lO]at e
  have:=C.co x0 iJ y0 lO (hf _ _ e)
  clear hy lO e
  induction this with
  |refl=>exact .refl
  |step _ hz ih=>exact .step ih (hb hz)
 ·obtain ⟨x0,iJ,rfl⟩:=Qm.mp hx
  rw[hl x0 iJ]
  have e1:wt (ns.map f) r' af (f (a8 x0))=wt ns r a8 (a8 x0):=by
   unfold wt
   rw[Zr]
   refine zdm λx hx=>?_
   show(if af (f x)=f (a8 x0) then _ else _)=_
   rw[hl x hx,hr,Qa]
   by_cases h:a8 x=a8 x0
   ·rw [if_pos (congrArg f h),if_pos h]
    simp only[List.map_eq_nil_iff]
   ·rw[if_neg (λe=>h (hf _ _ e)),if_neg h]
  have e2:ct (cs.map λc=>c.map λs=>(f s.1,f s.2)) af (f (a8 x0))=ct cs a8 (a8 x0):=by
   unfold ct
   rw[Zr]
   refine zdm λc hc=>?_
   show(if(List.any (c.map λs=>(f s.1,f s.2)) λs=>decide (af s.1=f (a8 x0)))=true then _ else _)=_
   rw[List.any_map]
   have:(c.any ((λs:β×β=>decide (af s.1=f (a8 x0)))∘λs=>(f s.1,f s.2)))=c.any λs=>decide (a8 s.1=a8 x0):=by
    rw[Yu,Yw,Yw]
    have aB:∀s∈c,s.1∈ns:=λs hs=>C.inn' ((C.cm s).mp (Yr.mpr ⟨c,hc,hs⟩))
    constructor
    ·rintro ⟨s,hs,e⟩
     have e':=of_decide_eq_true e
     have e':af (f s.1)=f (a8 x0):=e'
     rw[hl _ (aB s hs)]at e'
     exact⟨s,hs,decide_eq_true (hf _ _ e')⟩
    ·rintro ⟨s,hs,e⟩
     have e':=of_decide_eq_true e
     exact⟨s,hs,decide_eq_true (by show af (f s.1)=_;rw[hl _ (aB s hs),e'])⟩
   rw[this]
  rw[e1,e2]
  exact C.eu x0 iJ
end
end Wb
end
section
namespace L2
open PySem PySem.Spec PyProof.Rows
section
variable{X:Cx}
theorem fm_some{β γ:Type}{f:β→Option γ}{g:β→γ}:∀{l:List β},(∀x∈l,f x=some (g x))→l.filterMap f=l.map g
 |[],_=>rfl
 |a::t,h=>by rw[List.filterMap_cons,h a Qe,Ql,fm_some λx hx=>h x (Qi _ hx)]
def pick_rev(a7:Ni):slicePick a7.toArray none none (some (-1))=a7.reverse.toArray:=by
 unfold slicePick sliceBounds
 simp only[Option.getD_some,show ¬((-1:Int)>0) by decide,if_false,Qq]
 congr 1
 unfold sliceRange
 simp only[show ¬((-1:Int)>0) by decide,if_false]
 have hc:(if((a7.length:Int)-1) > -1 then(((a7.length:Int)-1) - -1 - -1-1)/(- -1) else 0).toNat=a7.length:=by
  split
  ·rw[show(- (-1:Int))=1 from rfl,Int.ediv_one];omega
  ·omega
 rw[hc,List.filterMap_map]
 have hk:∀k∈List.range a7.length,((a7.toArray[·]?)∘λ(k:Nat)=>(((a7.length:Int)-1)+-1*(k:Int)).toNat) k=some (a7.reverse.getD k .none):=λk hk=>by
  have hk:=Yh.mp hk
  have e:(((a7.length:Int)-1)+-1*(k:Int)).toNat=a7.length-1-k:=by omega
  show a7.toArray[(((a7.length:Int)-1)+-1*(k:Int)).toNat]?=_
  rw[e,List.getElem?_toArray,Qy,List.getElem?_reverse hk]
  rw[Qc (by omega)]
  rfl
 rw[fm_some hk]
 apply List.ext_getElem
 ·simp
 ·intro i h1 h2
  have h3:i<a7.reverse.length:=h2
  rw[Zu,Ji,Qy,Qc h3]
  rfl
def pe_rev(he:PE X e te):PE X (.Subscript e (.Slice none none (some (.UnaryOp .USub (.Constant (.int 1) k p4) p3)) p2) pos) (λ σ H Q=>te σ H λx H1=>Ex2 λa xs=>Aj3 (x=.ref a) (SqL X.K H1 a xs) (∀p,H1 p=none→Q (.ref p) (upd H1 p (.lst xs.reverse)))):=by
 intro a6 s σ H Q I h
 refine Subscript_ (thn (he a6 s σ H _ I h) λv s1 ⟨x,H1,I1,r1,a,xs,ex,hx,q⟩=>?_)
 subst ex
 cases r1
 refine wpAny_Slice (thn (zbl (X:=X) a6 s1 σ H1 (λo H'=>o=none∧H'=H1) I1 ⟨rfl,rfl⟩) λvl s2 ⟨l,H2,I2,pl,el,eh⟩=>?_)
 subst el;subst eh
 refine thn (zbl (X:=X) a6 s2 σ H2 (λo H'=>o=none∧H'=H2) I2 ⟨rfl,rfl⟩) λvu s3 ⟨l,H3,I3,pu,el,eh⟩=>?_
 subst el;subst eh
 refine thn (zbn (X:=X) (pe_un un_neg (zai (X:=X))) a6 s3 σ H3 (λo H'=>o=some (-1)∧H'=H3) I3 ⟨_,rfl,_,rfl,rfl,rfl⟩) λvs s4 ⟨l,H4,I4,ps,el,eh⟩=>?_
 subst el;subst eh
 have I5:Inv X a6 σ H4 {s4 with heap:=s4.heap.push {cls:=.type "slice",data:=.fields #[vl,vu,vs]}}:=I4.kept (t':=s4.toks) λb ob q=>Qf _ q
 obtain⟨a7,r,ht,hz⟩:=I5.list hx
 have aa:=r.length
 show wpAny (model X.prog X.w) X.A (subscriptTail e (.Slice none none (some (.UnaryOp .USub (.Constant (.int 1) k p4) p3)) p2) (.ref a) (.ref s4.heap.objs.size)) (EP X a6 σ Q) X.xe {s4 with heap:=s4.heap.push {cls:=.type "slice",data:=.fields #[vl,vu,vs]}}
 refine tail_any (ops:=[.ref a,.ref s4.heap.objs.size]) ht.isList.typeIs slot_list_getitem.lookup ?_ (by with_unfolding_all rfl)
 refine wpAny_getItem_list_slice ht.isList (Heap.IsSliceOf.new ..) pl pu ps (by decide) ?_ (by rw[Qq]<;>exact zd7 ‹_› ‹_›)
 rw[pick_rev]
 refine⟨.ref _,_,I5.laid (t':=s4.toks) (o:=.lst xs.reverse) (λb ob q=>Qf _ q) (Qg _) ?_,rfl,q _ (I5.hok.fresh (Qg _))⟩
 exact⟨by rw[Us];exact hz,_,0,r.reverse,Qw _ rfl⟩
end
def lc_map{K:Nb}{g:TG}{te:TE}{Q:VK}{a:Nd}{τ:St}{H:Hp}{xs:List V}(T:St→Prop)(f:V→V)(ha:SqL K H a xs)(hn:xs.length≤sizeLine)(h0:T τ)(hs:∀x∈xs,∀τ,T τ→∀k:V→St→Hp→Prop,(∀τ2,T τ2→k (f x) τ2 H)→g x τ H λ τ2 H2=>te τ2 H2 λy H4=>k y τ2 H4)(q:∀D,H D=none→Q (.ref D) (upd H D (.lst (xs.map f)))):rLC g tAll te Q (Itl K a) τ H:=by
 refine⟨λi m ys τ H1=>Aj5 (H1=H) (T τ) (m=xs.length-i) (i≤xs.length) (ys=(xs.take i).map f),⟨_,rfl,h0,rfl,Zp _,rfl⟩,?_⟩
 rintro i m ys τ H1 ⟨rfl,ht,rfl,hi,rfl⟩
 by_cases ad:i<xs.length
 ·refine .inr ⟨⟨xs,xs[i],ha,Qc ad⟩,by rw [Qa,Zn];lia,?_⟩
  rintro x H' ⟨rfl,hx⟩
  have bE:=hx xs ha
  rw[Qc ad]at bE
  have eV:xs[i]=x:=Qv bE
  refine hs x (eV▸Qp ad) τ ht (λy τ2 H4=>∃m',m'<xs.length-i∧Aj5 (H4=H') (T τ2) (m'=xs.length-(i+1)) (i+1≤xs.length) ((xs.take i).map f++[y]=(xs.take (i+1)).map f)) λ τ2 h2=>?_
  exact⟨_,by exact zar1 ‹_›,rfl,h2,rfl,ad,by rw[Qo ad,Qs,eV];rfl⟩
 ·have e:i=xs.length:=by exact zar3 ‹_› ‹_›
  subst e
  refine .inl ⟨⟨xs,ha,Qg _⟩,λD hD=>?_⟩
  rw[Qz (Qg _)]
  exact q D hD
end L2
namespace K21
open PySem L2 Wb
def zg7{α β:Type}{R:α→β→Prop}{as:List α}{bs:List β}(h:Paired R as bs):Paired R as.reverse bs.reverse:=by
 induction h with
 |nil=>exact .nil
 |cons h t ih=>rw[Kq,Kq];exact za1 ih (.cons h .nil)
end K21
namespace Wb
def zbm(zs:List PySem.Str)(k:Nat):PySem.Str:=zs.getD k ⟨#[200+k]⟩
open K21 in
def nameN_inj{zs:List PySem.Str}(nd:zs.Nodup)(ok:∀ z∈zs,zdd z)(a b:Nat)(h:zbm zs a=zbm zs b):a=b:=by
 unfold zbm at h
 rw[Qy,Qy]at h
 have bad:∀(i j:Nat) (hi:i<zs.length),zs[i]≠(⟨#[200+j]⟩:PySem.Str):=λi j hi e=>by
  have:=(ok _ (Qp hi)).2.2 (200+j) (by rw[e];exact Qe)
  omega
 by_cases ha:a<zs.length
 ·rw [Qc ha] at h
  by_cases hb:b<zs.length
  ·rw [Qc hb] at h
   exact(We nd).mp h
  ·rw [Uf (by omega)] at h
   exact absurd h (bad a b ha)
 ·rw [Uf (by omega)] at h
  by_cases hb:b<zs.length
  ·rw [Qc hb] at h
   exact absurd h.symm (bad b a hb)
  ·rw [Uf (by omega)] at h
   have h:(⟨#[200+a]⟩:PySem.Str)=⟨#[200+b]⟩:=h
   have:200+a=200+b:=by
    have:=congrArg (λz:PySem.Str=>z.cps.toList) h
    have:[200+a]=[200+b]:=this
    injection this
   omega
def nameN_lt{zs:List PySem.Str}{k:Nat}(h:k<zs.length):zbm zs k=zs[k]:=by
 unfold zbm
 rw[Qy,Qc h];rfl
def rsZ(rr:List (List Nat))(zs:List PySem.Str):Rs PySem.Str:=(List.range rr.length).map λk=>(zbm zs k,(rr.getD k []).map (zbm zs))
open K21 in
def good_Z{rr:List (List Nat)}{zs:List PySem.Str}(hG:Good (rsN rr))(nd:zs.Nodup)(ok:∀ z∈zs,zdd z):∃ cs a8,Cert ((List.range rr.length).map (zbm zs)) (row (rsZ rr zs)) cs a8:=by
 obtain⟨cs,a8,C⟩:=hG
 rw[zdh]at C
 have inj:=nameN_inj nd ok
 have hn:(rsZ rr zs).map (·.1)=(List.range rr.length).map (zbm zs):=by unfold rsZ;rw[List.map_map];rfl
 have aA:((rsZ rr zs).map (·.1)).Nodup:=by
  rw[hn]
  exact Ux.mpr (Ky.imp λh e=>h (inj _ _ e))
 refine⟨_,λy=>zbm zs (a8 (((List.range rr.length).find? λk=>decide (zbm zs k=y)).getD 0)),cert_mapL (f:=zbm zs) inj C (λx=>?_) (λy hy=>?_) λx hx=>?_⟩
 ·by_cases hx:x < rr.length
  ·rw [row_N hx]
   refine(zfi aA (p:=(zbm zs x,(rr.getD x []).map (zbm zs))) (Qm.mpr ⟨x,Yh.mpr hx,rfl⟩)).trans ?_
   rw[Qy,Qc hx];rfl
  ·rw [row_No hx]
   refine zex ?_
   rw[hn]
   intro z
   obtain⟨y,hy,e⟩:=Qm.mp z
   rw[inj _ _ e]at hy
   exact hx (Yh.mp hy)
 ·refine zex ?_
  rw[hn]
  intro z
  obtain⟨x,_,e⟩:=Qm.mp z
  exact hy x e.symm
 ·show zbm zs (a8 _)=_
  have bE:x∈List.range rr.length:=hx
  have:((List.range rr.length).find? λk=>decide (zbm zs k=zbm zs x))=some x:=by
   cases h:(List.range rr.length).find? λk=>decide (zbm zs k=zbm zs x) with
   |none=>exact absurd (decide_eq_true rfl) (List.find?_eq_none.mp h x bE)
   |some k =>
    have:=List.find?_some h
    rw[inj _ _ (of_decide_eq_true this)]
  rw[this];rfl
end Wb
namespace K21
open PySem L2 Wb
abbrev sRows:Stmt:=top 38
abbrev sDrawn:Stmt:=top 39
inductive IspRowsD(vs:List V)(H:Hp)(Q:VK):Prop
 |mk (p l nl:Nd) (b m:Int) (as:Nl) (rr:List (List Nat)) (zs:Nf) (h0:vs=[.ref p,.ref l,.ref nl]) (h1:Pot H p b m) (h2:NAt H l as rr) (h3:Good (rsN rr)) (h4:rr.length≤40) (h5:H nl=some (.lst (zs.map V.str))) (h5':zs.length=rr.length) (h5n:zs.Nodup) (h5k:∀z∈zs,zdd z∧z ≠ "nobody") (aL:p∉as)
  (h6:∀(t:Nd) (bs:Nl) (es:List Ent) (cs:List (List (Str×Str))) (a8:Nw) (b' m':Int) (H':Hp),RwAt H' t bs es→Cert (es.map (·.1)) (row (rsOf es)) cs a8→es.length≤40→(∀e∈es,zdd e.1∧e.1 ≠ "nobody")→(∀e∈es,H e.2.2=none)→Pot H' p b' m'→Keep [p] H H'→Q (.ref t) H'):IspRowsD vs H Q
def spRowsD:Sp:=λvs H Q _=>IspRowsD vs H Q
abbrev csW:Scope:=scOf (eOf (bAt (sAt sRows 1) 0))
def csW_k:csW.kind=.function:=by rfl
def csW_c:∀y∈csW.names,y.2≠.cell:=by decide +kernel
def csW_n:∀y∈csW.names,y.2=.local→csW.names.lookup y.1=some .local:=by decide +kernel
def csW_f:∀y∈csW.names,y.2=.free→(zah sRows).names.lookup y.1=some .cell∨(zah sRows).names.lookup y.1=some .free:=by decide +kernel
def csW_l:csW.names.lookup (qN:Str)=some NameKind.free:=by decide +kernel
def ndW:([qO,qN]:List Str).Nodup:=by decide +kernel
abbrev TurnZ(rr:List (List Nat))(zs:Nf):List Ent→List Nat→Prop:=Paired λe k=>e.1=zbm zs k∧∃j,e.2.1=((rr.getD k []).map (zbm zs)).drop j++((rr.getD k []).map (zbm zs)).take j
def names_Z(h:TurnZ rr zs es ks):es.map (·.1)=ks.map (zbm zs):=by
 induction h with
 |nil=>rfl
 |cons h _ ih=>rw[Ql,Ql,ih,h.1]
def cert_Z{rr:List (List Nat)}{zs:Nf}{es:List Ent}{ks:List Nat}(hG:Good (rsN rr))(nd:zs.Nodup)(ok:∀z∈zs,zdd z)(h:TurnZ rr zs es ks)(hk:ks.Perm (List.range rr.length)):∃cs a8,Cert (es.map (·.1)) (row (rsOf es)) cs a8:=by
 obtain⟨cs,a8,C⟩:=good_Z hG nd ok
 refine⟨cs,a8,zer C (by rw[names_Z h];exact hk.map _) ?_⟩
 have e:rsZ rr zs=rsOf ((List.range rr.length).map λk=>((zbm zs k,(rr.getD k []).map (zbm zs),0):Ent)):=by unfold rsZ rsOf;rw[List.map_map];rfl
 rw[e]
 refine zet (es2:=ks.map λk=>((zbm zs k,(rr.getD k []).map (zbm zs),0):Ent)) ?_ (hk.map _) ?_
 ·clear hk e
  induction h with
  |nil=>exact .nil
  |cons h _ ih=>exact .cons h ih
 ·rw [Zr]
  exact Ux.mpr (Ky.imp λh e=>h (nameN_inj nd ok _ _ e))
section
variable{P:Nj}{w:Nk}{K:Nb}{mg:Ng}{base:Nm}
def zff:zan [qP,qR,qN, "_law_rows_here", "_law_k", "_law_around", "_law_far"] [qP,qR,qN] (zah sRows):=fsk
def ok_rows(F:Fun K "_law_rows" "_law_rows" sRows f fd)(FT:Fun K qG qG zdu ft fdt)(bT:Binds K fdt [qP,qM] [])(mT:mg qG=some (.ref ft))(GT:FnOk P w K mg base CX0 1 ft fdt [qP,qM] zfd)(aa:mg "len" = none)(aQ:mg "range" = none):FnOk P w K mg base CX0 2 f fd [qP,qR,qN] spRowsD:=by
 refine F.okL zff (λcdv A outer s H vs Q E hr h=>?_)
 obtain⟨p,l,nl,b,m,as,rr,zs,rfl,hp,R,hG,bH,fQ,eG,dy,eI,aL,k⟩:=h
 have hu:=zb4 hr
 have aE:=sizeLine_eq
 refine⟨_,zae (zar 3 zff.nd (za7 zaf))
  (zae (zbg Zd rfl (zcd rfl aQ (zaa (zaj zal (by rfl) aa Zo (zaa (pv 1) zaf)) zaf)) (zbe 4 zff.nd)
   (zae (ps_lc (i:=5) (M:=[qO,qN]) (ix:=[none,some 2]) zff.nd rfl rfl ⟨csW_k,csW_c,csW_n,csW_f,rfl,ndW,λj i x h1 h2=>by
      match j,h1,h2 with
      |0,_,h2=>cases h2
      |1,h1,h2=>cases h1;cases h2;exact⟨rfl,csW_l⟩
      |n+2,h1,_=>cases h1⟩ rfl (za6 (za0 zao (pv 1) (pv 4) (λ_ _=>rfl))) (λC a6 ex s H=>zbe 0 ndW)
      (λC a6 ex s H=>zd0) (λC a6 ex s H=>za0 (ix_listK (K:=K) rfl) (pv 1) (pv 0) (λ_ _=>rfl)) rfl)
   (zae (zar 6 zff.nd (zak GT hr rfl mT FT.kp bT .nil zau (zaa (pv 0) (zaa (zas zb0 (zaj zal (by rfl) aa Zo (zaa (pv 5) zaf)) zai) zaf))))
   (zag (zay (zb7 Qx Zm Zl za4 (pv 3) (zaa (zce (zaa (za0 zao (pv 2) (pv 4) (λ_ _=>rfl)) (zaa (zas zda (zbb zby (pv 5) (zbn (pv 6)) zbl) (zbb zby (pv 5) zbl (zbn (pv 6)))) zaf))) zaf)))))))
  (zae (zar 6 zff.nd (zak GT hr rfl mT FT.kp bT .nil zau (zaa (pv 0) (zaa (zas zb0 (zaj zal (by rfl) aa Zo (zaa (pv 3) zaf)) zai) zaf))))
  (zae (zar 3 zff.nd (zas zda (zbb zby (pv 3) (zbn (pv 6)) zbl) (zbb zby (pv 3) zbl (zbn (pv 6)))))
  (zae (zb1 (za2 op_eq (zak GT hr rfl mT FT.kp bT .nil zau (zaa (pv 0) (zaa zai zaf))) zai (zbt _)) (zag (zar 3 zff.nd (pe_rev (pv 3)))) zax)
  (zag (za3 (pv 3))))))),?_⟩
 have nlp:=pot_l hp R
 have nnp:nl≠p:=zcy hp fQ
 have nap:∀a∈as,a≠p:=λa ha z=>aL (z▸ha)
 have gD:(as.map V.ref).length=rr.length:=by rw[Qa];exact R.len
 refine⟨(by show 0≤sizeLine;decide),λt ht=>?_⟩
 have k1:Keep [p] H (upd H t (.lst [])):=Keep.new ht
 have ntp:t≠p:=Zi (zab hp.1 ht)
 have bX:Pot (upd H t (.lst [])) p b m:=hp.keep (xs:=[]) (Keep.new ht) (by simp)
 have jz:(upd H t (.lst [])) t=some (.lst (([]:List Addr).map V.ref)):=zac
 generalize upd H t (.lst [])=H1 at k1 bX jz
 have R1:∀{H':Hp},Keep [p] H H'→NAt H' l as rr:=λkk=>R.keep kk (by simpa using nlp) λa ha=>by simpa using nap a ha
 have N1:∀{H':Hp},Keep [p] H H'→H' nl=some (.lst (zs.map V.str)):=λkk=>kk _ _ fQ (by simpa using nnp)
 refine⟨_,rfl,l,_,rfl,.inl (SqL.of (R1 k1).ls),?_⟩
 refine⟨_,rfl,by omega,by omega,?_⟩
 refine zcf (lo:=0) (λi σ H'=>Aj3 (Ex3 λx4 x5 x6=>σ=[some (.ref p),some (.ref l),some (.ref nl),some (.ref t),x4,x5,x6]) (Keep [p] H H') (Ex4 λ(bs:Nl) (es:List Ent) (b' m':Int)=>Aj5 (RwAt H' t bs es) (TurnZ rr zs es (List.range i)) (Pot H' p b' m') (∀e∈es,H e.2.2=none) (∀e∈es,e.2.2≠t)))
  ⟨⟨_,_,_,rfl⟩,k1,[],[],b,m,⟨jz,.nil,λe he=>by cases he⟩,.nil,bX,(λe he=>by cases he),(λe he=>by cases he)⟩ ?_ ?_
 ·rintro i σ H2 hi ⟨⟨x4,x5,x6,rfl⟩,k2,bs,es,b2,m2,W2,T2,aG,nF,jN⟩
  have hi:i<rr.length:=by omega
  have hia:i<as.length:=by rw[R.len];exact hi
  have hR2:=R1 k2
  have hN2:=N1 k2
  have ai:=hR2.row hia hi
  have jA:∀x∈rr[i],x<rr.length:=λx hx=>by
   have:=(zbp.sub _ hG _ (zgv hi)).2 x hx
   rw[zdh]at this
   exact Yh.mp this
  have jR:(rsN rr).length=rr.length:=by unfold rsN;rw[List.length_map,List.length_range]
  have hrl2:rr[i].length≤900:=by
   have:=zbp.rows hG _ (zgv hi)
   rw[jR]at this
   exact Zk this (by omega)
  have a1:atI (as.map V.ref) (0+(i:Int))=some (.ref as[i]):=by rw[Xc];exact zav (by rw[Qt,Qc hia];rfl)
  have z1:∀{x:Nat},x<rr.length→atI (zs.map V.str) (x:Int)=some (.str (zbm zs x)):=λ{x} hx=>zav (by rw[Qt,Qc (by omega),nameN_lt (by omega)];rfl)
  have hg:rr.getD i []=rr[i]:=by rw[Qy,Qc hi];rfl
  refine⟨_,rfl,_,rfl,l,_,_,_,rfl,rfl,SqL.of hR2.ls,a1,as[i],rfl,⟨_,SqL.of ai⟩,lc_map (xs:=rr[i].map iV) (λ τ=>∃x0,τ=[x0,some (.ref nl)]) (λx=>match x with | .int n=>.str (zbm zs n.toNat) | v=>v) (SqL.of ai) (by rw[Qa];omega) ⟨none,rfl⟩ ?_ (λar har=>?_)⟩
  ·rintro x hx τ ⟨x0,rfl⟩ kk hk
   obtain⟨z,hz,rfl⟩:=Qm.mp hx
   exact⟨_,rfl,_,rfl,nl,_,_,_,rfl,rfl,SqL.of hN2,z1 (jA z hz),hk _ ⟨_,rfl⟩⟩
  have emap:(rr[i].map iV).map (λx=>match x with | .int n=>.str (zbm zs n.toNat) | v=>v)=(rr[i].map (zbm zs)).map V.str:=by rw[Zr,Zr];rfl
  rw[emap]
  have fT:(rr[i].map (zbm zs)).length=rr[i].length:=Qa ..
  generalize eu:rr[i].map (zbm zs)=ru at fT
  have k3:Keep [] H2 (upd H2 ar (.lst (ru.map V.str))):=Keep.new har
  have iz:(upd H2 ar (.lst (ru.map V.str))) ar=some (.lst (ru.map V.str)):=zac
  generalize upd H2 ar (.lst (ru.map V.str))=H3 at k3 iz
  have aF:=aG.keep k3 (by simp)
  have bz:(ru.map V.str).length=ru.length:=Qa ..
  refine⟨_,rfl,_,rfl,ar,_,rfl,.inl (SqL.of iz),_,_,rfl,rfl,p,b2,m2,_,rfl,aF,by omega,by omega,λj4 b4 m4 H4 gc nj aU ji=>?_⟩
  have k4:=za5 ji
  obtain⟨j,rfl⟩:=Zh gc
  have hj:j≤ru.length:=by omega
  have kC:=k4 _ _ iz (by simpa using zcy aF iz)
  have dL:Keep [p] H H4:=(k2.trans (k3.sub (by simp))).trans k4
  have W4:RwAt H4 t bs es:=⟨k4 _ _ (k3 _ _ W2.ls (by simp)) (by simpa using ntp),Paired.imp' (λa e h=>k4 _ _ (k3 _ _ h (by simp)) (by simpa using zbc h aG.1 (by intro z;cases z))) W2.ts,λe he=>k4 _ _ (k3 _ _ (W2.ro e he) (by simp)) (by simpa using zcy aG (W2.ro e he))⟩
  refine⟨_,rfl,.inl ⟨rfl,_,SqL.of W4.ls⟩,_,rfl,_,rfl,nl,_,_,_,rfl,rfl,SqL.of (N1 dL),by rw[Xc];exact z1 hi,_,rfl,_,rfl,_,rfl,ar,_,rfl,SqL.of kC,λq1 h1=>?_⟩
  have n1:ar≠q1:=zab kC h1
  refine⟨_,rfl,_,rfl,_,rfl,ar,_,rfl,SqL.of (by rw[zad n1];exact kC),λq2 h2=>?_⟩
  have cT:q1≠q2:=zab (o:=_) zac h2
  rw[zcb (by rw[bz];exact hj),cut_to (by rw[bz];exact hj)]at *
  refine⟨q1,q2,_,_,rfl,rfl,(by rw[zad cT];exact zac),zac,by rw[Yv,Zn];omega,λq3 h3=>?_⟩
  rw[←Ua,←Uq,←Qs]at *
  have k5:Keep [] H4 (upd (upd (upd H4 q1 (.lst ((ru.drop j).map V.str))) q2 (.lst ((ru.take j).map V.str))) q3 (.lst ((ru.drop j++ru.take j).map V.str))):=((Keep.new h1).trans (Keep.new h2)).trans (Keep.new h3)
  have dQ:(upd (upd (upd H4 q1 (.lst ((ru.drop j).map V.str))) q2 (.lst ((ru.take j).map V.str))) q3 (.lst ((ru.drop j++ru.take j).map V.str))) q3=some (.lst ((ru.drop j++ru.take j).map V.str)):=zac
  have f3:H4 q3=none:=zap ((Keep.new (xs:=[]) h1).trans (Keep.new h2)) h3 (by simp)
  generalize upd (upd (upd H4 q1 (.lst ((ru.drop j).map V.str))) q2 (.lst ((ru.take j).map V.str))) q3 (.lst ((ru.drop j++ru.take j).map V.str))=H5 at k5 dQ
  have nq3t:q3≠t:=Zi (zab W4.ls f3)
  have fq3:H q3=none:=zap dL f3 (by simpa using Zi (zab aU.1 f3))
  refine⟨(by show 2≤sizeLine;decide),λc hc=>?_⟩
  have k6:Keep [] H4 (upd H5 c (.tup [.str (zbm zs i),.ref q3])):=k5.trans (Keep.new hc)
  have gr:(upd H5 c (.tup [.str (zbm zs i),.ref q3])) c=some (.tup [.str (zbm zs i),.ref q3]):=zac
  have eQ:(upd H5 c (.tup [.str (zbm zs i),.ref q3])) q3=some (.lst ((ru.drop j++ru.take j).map V.str)):=by rw[zad (zab dQ hc)];exact dQ
  generalize upd H5 c (.tup [.str (zbm zs i),.ref q3])=H6 at k6 gr eQ
  have W6:=W4.keep k6
  have gJ:bs.length=i:=by rw[Yf W6.ts,Yf T2,Yy]
  refine⟨t,_,_,rfl,rfl,W6.ls,by rw[Qa];omega,?_⟩
  have tupt:∀{a:Nd} {xs:List V},H6 a=some (.tup xs)→a≠t:=λ{a xs} e=>zbc e W6.ls (by intro z;cases z)
  have kt:Keep [p] H (upd H6 t (.lst (bs.map V.ref++[V.ref c]))):=λa u ea ha=>by
   rw[zad (zab ea ht)];exact k6 _ _ (dL a u ea ha) (by simp)
  refine⟨⟨_,_,_,rfl⟩,kt,bs++[c],es++[(zbm zs i,ru.drop j++ru.take j,q3)],b4,m4,⟨by rw[zac,Qs];rfl,?_,λe' he=>?_⟩,?_,(aU.keep k6 (by simp)).keep (xs:=[t]) (Keep.wr (by simp)) (by simpa using Zi ntp),λe' he=>?_,λe' he=>?_⟩
  ·exact za1 (Paired.imp' (λa e h=>by rw[zad (tupt h)];exact h) W6.ts) (.cons (by rw[zad (tupt gr)];exact gr) .nil)
  ·rcases Qd.mp he with z | z
   ·rw[zad (jN e' z)];exact W6.ro e' z
   ·rw[Qb.mp z];exact(zad nq3t).trans eQ
  ·rw [Xe]
   exact za1 T2 (.cons ⟨rfl,j,by rw[hg,eu]⟩ .nil)
  ·rcases Qd.mp he with z | z
   ·exact nF e' z
   ·rw[Qb.mp z];exact fq3
  ·rcases Qd.mp he with z | z
   ·exact jN e' z
   ·rw[Qb.mp z];exact nq3t
 ·rintro σ H2 ⟨⟨x4,x5,x6,rfl⟩,k2,bs,es,b2,m2,W2,T2,aG,nF,jN⟩
  have T2:TurnZ rr zs es (List.range rr.length):=by rw[gD]at T2;exact T2
  have gn:es.length=rr.length:=by rw[Yf T2,Yy]
  have gJ:bs.length=rr.length:=by rw[Yf W2.ts,gn]
  have bz:(bs.map V.ref).length=rr.length:=by rw[Qa];exact gJ
  refine⟨_,rfl,_,rfl,t,_,rfl,.inl (SqL.of W2.ls),_,_,rfl,rfl,p,b2,m2,_,rfl,aG,by omega,by omega,λj4 b4 m4 H4 gc nj aU ji=>?_⟩
  have k4:=za5 ji
  obtain⟨j,rfl⟩:=Zh gc
  have hj:j≤rr.length:=by omega
  have dL:Keep [p] H H4:=k2.trans k4
  have W4:RwAt H4 t bs es:=⟨k4 _ _ W2.ls (by simpa using ntp),Paired.imp' (λa e h=>k4 _ _ h (by simpa using zbc h aG.1 (by intro z;cases z))) W2.ts,λe he=>k4 _ _ (W2.ro e he) (by simpa using zcy aG (W2.ro e he))⟩
  refine⟨_,rfl,_,rfl,_,rfl,t,_,rfl,SqL.of W4.ls,λq1 h1=>?_⟩
  have n1:t≠q1:=zab W4.ls h1
  refine⟨_,rfl,_,rfl,_,rfl,t,_,rfl,SqL.of (by rw[zad n1];exact W4.ls),λq2 h2=>?_⟩
  have cT:q1≠q2:=zab (o:=_) zac h2
  rw[zcb (by rw[bz];exact hj),cut_to (by rw[bz];exact hj)]at *
  refine⟨q1,q2,_,_,rfl,rfl,(by rw[zad cT];exact zac),zac,by rw[Yv,Zn];omega,λq3 h3=>?_⟩
  rw[←Ua,←Uq,←Qs]at *
  have k5:Keep [] H4 (upd (upd (upd H4 q1 (.lst ((bs.drop j).map V.ref))) q2 (.lst ((bs.take j).map V.ref))) q3 (.lst ((bs.drop j++bs.take j).map V.ref))):=((Keep.new h1).trans (Keep.new h2)).trans (Keep.new h3)
  have dQ:(upd (upd (upd H4 q1 (.lst ((bs.drop j).map V.ref))) q2 (.lst ((bs.take j).map V.ref))) q3 (.lst ((bs.drop j++bs.take j).map V.ref))) q3=some (.lst ((bs.drop j++bs.take j).map V.ref)):=zac
  generalize upd (upd (upd H4 q1 (.lst ((bs.drop j).map V.ref))) q2 (.lst ((bs.take j).map V.ref))) q3 (.lst ((bs.drop j++bs.take j).map V.ref))=H5 at k5 dQ
  have W5:RwAt H5 q3 (bs.drop j++bs.take j) (es.drop j++es.take j):=⟨dQ,by
   have:=(W4.keep k5).ts
   exact za1 (zf8 j this) (zf7 j this),λe he=>(W4.keep k5).ro e (by
    rcases Qd.mp he with z | z
    ·exact Wd z
    ·exact Ys z)⟩
  have T5:TurnZ rr zs (es.drop j++es.take j) ((List.range rr.length).drop j++(List.range rr.length).take j):=za1 (zf8 j T2) (zf7 j T2)
  have P5:((List.range rr.length).drop j++(List.range rr.length).take j).Perm (List.range rr.length):=Wc.trans (by rw[Yx])
  have f5:∀e∈es.drop j++es.take j,H e.2.2=none:=λe he=>nF e (by
    rcases Qd.mp he with z | z
    ·exact Wd z
    ·exact Ys z)
  have fX:(es.drop j++es.take j).length=rr.length:=by rw[Qj,Yv,Zn];omega
  have aD:=aU.keep k5 (by simp)
  have qr:Keep [p] H H5:=dL.trans (k5.sub (by simp))
  generalize es.drop j++es.take j=kI at W5 T5 f5 fX
  generalize bs.drop j++bs.take j=bs5 at W5 dQ
  generalize(List.range rr.length).drop j++(List.range rr.length).take j=ks at T5 P5
  have fin:∀(t':Nd) (gQ:Nl) (gu:List Ent) (de:List Nat) (b' m':Int) (H':Hp),RwAt H' t' gQ gu→TurnZ rr zs gu de→de.Perm (List.range rr.length)→gu.length=rr.length→(∀e∈gu,H e.2.2=none)→Pot H' p b' m'→Keep [p] H H'→Q (.ref t') H':=λt' gQ gu de b' m' H' W' T' P' hl' f' aH k'=>by
   obtain⟨cs,a8,C⟩:=cert_Z hG dy (λz hz=>(eI z hz).1) T' P'
   refine k t' gQ gu cs a8 b' m' H' W' C (by omega) (λe he=>?_) f' aH k'
   have:e.1∈gu.map (·.1):=Qm.mpr ⟨e,he,rfl⟩
   rw[names_Z T']at this
   obtain⟨x,hx,ex⟩:=Qm.mp this
   have hx:=Yh.mp (P'.mem_iff.mp hx)
   rw[←ex,nameN_lt (by omega)]
   exact eI _ (Qp _)
  refine⟨_,rfl,p,b4,m4,2,rfl,aD,by decide,by decide,λj7 b7 m7 H7 h70 h71 az kW=>?_⟩
  have k7:=za5 kW
  have n3p:q3≠p:=zbc dQ aD.1 (by
   intro z
   have z':bs5.map V.ref=[.int b4,.int m4]:=by injection z
   cases bs5 with
   |nil=>cases z'
   |cons a c8=>rw[Ql]at z';injection z' with z1 _;cases z1)
  have W7:RwAt H7 q3 bs5 kI:=⟨k7 _ _ W5.ls (by simpa using n3p),Paired.imp' (λa e h=>k7 _ _ h (by simpa using zbc h aD.1 (by intro z;cases z))) W5.ts,λe he=>k7 _ _ (W5.ro e he) (by simpa using zcy aD (W5.ro e he))⟩
  have kX:=qr.trans k7
  refine⟨rfl,_,rfl,?_⟩
  refine ite2 (λ_=>?_) (λ_=>?_)
  ·refine ⟨_,rfl,q3,_,rfl,SqL.of W7.ls,fun q4 h4=>?_⟩
   have kn:Keep [] H7 (upd H7 q4 (.lst (bs5.map V.ref).reverse)):=Keep.new h4
   exact⟨_,rfl,fin q4 bs5.reverse kI.reverse ks.reverse b7 m7 _ ⟨by rw[zac,List.map_reverse],zg7 (W7.keep kn).ts,λe he=>(W7.keep kn).ro e (List.mem_reverse.mp he)⟩ (zg7 T5) ((Jl ks).trans P5) (by rw[Us];exact fX) (λe he=>f5 e (List.mem_reverse.mp he)) (az.keep kn (by simp)) (kX.trans (kn.sub (by simp)))⟩
  ·exact⟨_,rfl,fin q3 bs5 kI ks b7 m7 H7 W7 T5 P5 fX f5 az kX⟩
end
end K21
end
section
namespace K21
open PySem L2 Wb
inductive IspDrawnD(vs:List V)(H:Hp)(Q:VK):Prop
 |mk (p:Nd) (b m:Int) (h0:vs=[.ref p]) (h1:Pot H p b m)
  (h2:∀(t:Nd) (bs:Nl) (es:List Ent) (cs:List (List (Str×Str))) (a8:Nw) (b' m':Int) (H':Hp),RwAt H' t bs es→Cert (es.map (·.1)) (row (rsOf es)) cs a8→es.length≤40→(∀e∈es,zdd e.1∧e.1 ≠ "nobody")→Pot H' p b' m'→Keep [p] H H'→Q (.ref t) H'):IspDrawnD vs H Q
def spDrawnD:Sp:=λvs H Q _=>IspDrawnD vs H Q
section
variable{P:Nj}{w:Nk}{K:Nb}{mg:Ng}{base:Nm}
def scDrawn:zan [qP,qR] [qP] (zah sDrawn):=fsk
def ok_drawn(F:Fun K "_law_drawn" "_law_drawn" sDrawn f fd)(FT:Fun K qG qG zdu ft fdt)(bT:Binds K fdt [qP,qM] [])(mT:mg qG=some (.ref ft))(GT:FnOk P w K mg base CX0 1 ft fdt [qP,qM] zfd)(FR:Fun K "_law_rounds" "_law_rounds" zhu fr fdr)(bR:Binds K fdr [qP, "_law_most"] [])(mR:mg "_law_rounds" = some (.ref fr))(GR:FnOk P w K mg base CX0 4 fr fdr [qP, "_law_most"] spRoundsD)(FW:Fun K "_law_rows" "_law_rows" sRows fw fdw)(bW:Binds K fdw [qP,qR,qN] [])(mW:mg "_law_rows" = some (.ref fw))(GW:FnOk P w K mg base CX0 2 fw fdw [qP,qR,qN] spRowsD)(FN:Fun K "_law_names" "_law_names" sNames fn fdn)(bN:Binds K fdn [qP,qM] [])(mN:mg "_law_names" = some (.ref fn))(GN:FnOk P w K mg base CX0 2 fn fdn [qP,qM] spNames)(aa:mg "len" = none):FnOk P w K mg base CX0 5 f fd [qP] spDrawnD:=by
 refine F.okL scDrawn (λcdv A outer s H vs Q E hr h=>?_)
 obtain⟨p,b,m,rfl,hp,k⟩:=h
 have aT:Room 1 _:=hr.mono (by decide)
 have dB:Room 2 _:=hr.mono (by decide)
 have aE:=sizeLine_eq
 refine⟨_,zae (zar 1 scDrawn.nd (zak GR hr rfl mR FR.kp bR .nil zau (zaa (pv 0) (zaa (za0 zao (za7 (zaa zai (zaa zai (zaa zai (zaa zai zaf))))) (zak GT aT rfl mT FT.kp bT .nil zau (zaa (pv 0) (zaa zai zaf))) (λ_ _=>rfl)) zaf))))
  (zag (za3 (zak GW dB rfl mW FW.kp bW .nil zau (zaa (pv 0) (zaa (pv 1) (zaa (zak GN dB rfl mN FN.kp bN .nil zau (zaa (pv 0) (zaa (zaj zal (by rfl) aa Zo (zaa (pv 1) zaf)) zaf))) zaf)))))),?_⟩
 refine⟨_,rfl,(by show 4≤sizeLine;decide),λq hq=>?_⟩
 have k1:Keep [] H (upd H q (.lst [.int 12,.int 12,.int 16,.int 40])):=Keep.new hq
 have oV:(upd H q (.lst [.int 12,.int 12,.int 16,.int 40])) q=some (.lst [.int 12,.int 12,.int 16,.int 40]):=zac
 generalize upd H q (.lst [.int 12,.int 12,.int 16,.int 40])=H1 at k1 oV
 have bX:=hp.keep k1 (by simp)
 refine⟨_,rfl,p,b,m,4,rfl,bX,by decide,by decide,λj2 b2 m2 H2 h20 h21 aG lJ=>?_⟩
 obtain⟨j,rfl⟩:=Zh h20
 have nqp:q≠p:=Zi (zab hp.1 hq)
 have cF:=lJ _ _ oV nqp
 have k2:Keep [p] H H2:=(k1.sub (by simp)).trans (za5 lJ)
 have hj:j<4:=by omega
 obtain⟨n,hn,d7⟩:∃n:Nat,n≤40∧atI [V.int 12,.int 12,.int 16,.int 40] (j:Int)=some (iV n):=by
  have:∀j:Fin 4,[V.int 12,.int 12,.int 16,.int 40][j.1]?=some (iV ([12,12,16,40].getD j.1 0))∧[12,12,16,40].getD j.1 0≤40:=by decide
  exact⟨_,(this ⟨j,hj⟩).2,zav (this ⟨j,hj⟩).1⟩
 refine⟨q,_,_,_,rfl,rfl,SqL.of cF,d7,p,b2,m2,n,rfl,aG,hn,λl as rr b3 m3 H3 R3 hG bH aF aL _ _ k3=>?_⟩
 have gD:(as.map V.ref).length=rr.length:=by rw[Qa];exact R3.len
 refine⟨_,rfl,_,rfl,_,rfl,_,rfl,l,_,rfl,.inl (SqL.of R3.ls),p,b3,m3,rr.length,by rw[gD];rfl,aF,bH,λnl zs b4 m4 H4 fQ eG dy eI aU _ k4=>?_⟩
 have nlp:=pot_l aF R3
 have R4:=R3.keep k4 (by simpa using nlp) λa ha z=>aL (by rw[Qb]at z;exact z▸ha)
 exact⟨p,l,nl,b4,m4,as,rr,zs,rfl,aU,R4,hG,bH,fQ,eG,dy,eI,aL,λt bs es cs a8 b5 m5 H5 W C hl ok _ aD k5=>k t bs es cs a8 b5 m5 H5 W C hl ok aD (((k2.trans k3).trans k4).trans k5)⟩
end
end K21
end
section
namespace Wb
open PySem L2
structure zaw(r:Nt)(rt:Str)(ks:Nf)(par:Nn)(ds:Str→Nat):Prop where
 rk:rt∈ks
 r0:par rt=none
 d0:ds rt=0
 up:∀y∈ks,y≠rt→∃p,p∈ks∧par y=some p∧p∈r y∧ds y=ds p+1∧∀q∈ks,q∈r y→ds q+1=ds y→leS p q
 on:∀x∈ks,∀y∈r x,y∈ks∧ds y≤ds x+1
variable{r r':Nt}{rt:Str}{ks de:Nf}{par ao:Nn}{ds cB:Str→Nat}
def zaw.le(hr:∀x y,y∈r x↔y∈r' x)(sy:∀x y,y∈r x→x∈r y)(a:zaw r rt ks par ds)(b:zaw r' rt de ao cB):∀n y,y∈de→cB y=n→y∈ks∧ds y≤n:=by
 intro n
 induction n using Nat.strongRecOn with
 | ind n ih =>
  intro y hy hn
  by_cases e:y=rt
  ·subst e
   exact⟨a.rk,by rw[a.d0];exact Zp _⟩
  ·obtain ⟨p,hp,_,i6,hd,_⟩:=b.up y hy e
   obtain⟨h1,h2⟩:=ih (cB p) (by omega) p hp rfl
   obtain⟨h3,h4⟩:=a.on p h1 y (sy _ _ ((hr y p).mpr i6))
   exact⟨h3,by omega⟩
def zaw.one(hr:∀x y,y∈r x↔y∈r' x)(sy:∀x y,y∈r x→x∈r y)(a:zaw r rt ks par ds)(b:zaw r' rt de ao cB):∀y∈ks,y∈de∧ds y=cB y∧par y=ao y:=by
 have sy':∀x y,y∈r' x→x∈r' y:=λx y h=>(hr y x).mp (sy _ _ ((hr x y).mpr h))
 have hr':∀x y,y∈r' x↔y∈r x:=λx y=>(hr x y).symm
 have tm:∀y∈ks,y∈de∧ds y=cB y:=λy hy=>by
  obtain⟨h1,h2⟩:=b.le hr' sy' a _ y hy rfl
  obtain⟨h3,h4⟩:=a.le hr sy b _ y h1 rfl
  exact⟨h1,by omega⟩
 intro y hy
 obtain⟨h1,h2⟩:=tm y hy
 refine⟨h1,h2,?_⟩
 by_cases e:y=rt
 ·subst e
  rw[a.r0,b.r0]
 ·obtain ⟨p,hp,e1,i6,hd,hl⟩:=a.up y hy e
  obtain⟨p',aH,cv,rq,gH,hl'⟩:=b.up y h1 e
  have q1:=hl p' (a.le hr sy b _ p' aH rfl).1 ((hr _ _).mpr rq) (by
   have:=(b.le hr' sy' a _ p' (a.le hr sy b _ p' aH rfl).1 rfl).2
   have:=(a.le hr sy b _ p' aH rfl).2
   omega)
  have q2:=hl' p (tm p hp).1 ((hr _ _).mp i6) (by rw[←(tm p hp).2];omega)
  rw[e1,cv,leS_antisymm q1 q2]
inductive zbo(par:Nn):List Str→Str→Prop
 |rt {y}:par y=none→zbo par [y] y
 |up {y p L}:par y=some p→zbo par L p→zbo par (L++[y]) y
def zbo.one(a:zbo par L y):zbo par L' y→L=L':=by
 induction a generalizing L' with
 |rt h =>
  intro b
  cases b with
  |rt _=>rfl
  |up h' _=>rw[h]at h';cases h'
 | up h _ ih =>
  intro b
  cases b with
  |rt h'=>rw[h]at h';cases h'
  |up h' b' =>
   rw[h]at h'
   cases h'
   rw[ih b']
def zbo.mem(a:zbo par L y):y∈L:=by
 cases a with
 |rt _=>exact Qe
 |up _ _=>exact Qk _ Qe
def zaw.way(a:zaw r rt ks par ds):∀n y,y∈ks→ds y=n→∃L,zbo par L y∧L.length=n+1:=by
 intro n
 induction n with
 | zero =>
  intro y hy hn
  by_cases e:y=rt
  ·subst e
   exact⟨[y],.rt a.r0,rfl⟩
  ·obtain ⟨p,_,_,_,hd,_⟩:=a.up y hy e
   omega
 |succ n ih =>
  intro y hy hn
  have e:y≠rt:=λe=>by rw[e,a.d0]at hn;omega
  obtain⟨p,hp,e1,_,hd,_⟩:=a.up y hy e
  obtain⟨L,h1,h2⟩:=ih p hp (by omega)
  exact⟨L++[y],.up e1 h1,by rw[Qj,Zx,h2]⟩
def zaw.wlen(a:zaw r rt ks par ds)(hy:y∈ks)(h:zbo par L y):L.length=ds y+1:=by
 obtain⟨L',h1,h2⟩:=a.way _ y hy rfl
 rw[h.one h1,h2]
def zaw.pre(a:zaw r rt ks par ds)(h:zbo par L y)(hy:y∈ks):∀z∈L,z∈ks∧∃M B,zbo par M z∧L=M++B:=by
 induction h with
 |rt h =>
  intro z hz
  rw[Qb.mp hz]
  exact⟨hy,[_],[],.rt h,by simp⟩
 | @up y p L h w ih =>
  have e:y≠rt:=λe=>by rw[e,a.r0]at h;cases h
  obtain⟨p',aH,e1,_⟩:=a.up y hy e
  rw[h]at e1
  cases e1
  intro z hz
  rcases Qd.mp hz with q | q
  ·obtain ⟨h1,M,B,h2,h3⟩:=ih aH z q
   exact⟨h1,M,B++[y],h2,by rw[h3,Qu]⟩
  ·rw [Qb.mp q]
   exact⟨hy,L++[y],[],.up h w,by simp⟩
def Chn(r:Nt):List Str→Prop
 |[]=>True
 |[_]=>True
 |x::y::t=>x∈r y∧Chn r (y::t)
def chn_snoc(h:Chn r (L++[p]))(hp:p∈r y):Chn r (L++[p]++[y]):=by
 induction L with
 |nil=>exact⟨hp,trivial⟩
 |cons a t ih =>
  cases t with
  |nil=>exact⟨h.1,hp,trivial⟩
  |cons b t=>exact⟨h.1,ih h.2⟩
def zbo.last(a:zbo par L y):∃M,L=M++[y]:=by
 cases a with
 |rt _=>exact⟨[],rfl⟩
 |up _ _=>exact⟨_,rfl⟩
def zaw.chn(a:zaw r rt ks par ds)(h:zbo par L y)(hy:y∈ks):Chn r L∧L.Nodup:=by
 induction h with
 |rt h=>exact⟨trivial,Yz _ _⟩
 | @up y p L h w ih =>
  have e:y≠rt:=λe=>by rw[e,a.r0]at h;cases h
  obtain⟨p',aH,e1,i6,hd,_⟩:=a.up y hy e
  rw[h]at e1
  cases e1
  obtain⟨h1,h2⟩:=ih aH
  refine⟨?_,?_⟩
  ·obtain ⟨M,rfl⟩:=w.last
   exact chn_snoc h1 i6
  ·rw [Za]
   refine⟨h2,Yz _ _,λz hz y' c9 e2=>?_⟩
   rw[Qb.mp c9]at e2
   subst e2
   obtain⟨_,M,B,h3,h4⟩:=a.pre w aH z hz
   have l1:=a.wlen hy h3
   have l2:=a.wlen aH w
   rw[h4,Qj]at l2
   omega
end Wb
end
section
namespace Wb
open PySem L2
variable{r:Nt}{rt:Str}{ks:Nf}{par:Nn}{ds:Str→Nat}
def zdg(D B:Nf):List Str:=D.drop ((D.filter λz=>decide (z∈B)).length-1)++(B.drop (D.filter λz=>decide (z∈B)).length).reverse
def zaw.root_in(a:zaw r rt ks par ds)(h:zbo par L y)(hy:y∈ks):rt∈L:=by
 induction h with
 | @rt y h =>
  by_cases e:y=rt
  ·rw[e];exact Qe
  ·obtain ⟨p,_,e1,_⟩:=a.up y hy e
   rw[h]at e1;cases e1
 |@up y p L h w ih =>
  have e:y≠rt:=λe=>by rw[e,a.r0]at h;cases h
  obtain⟨p',aH,e1,_⟩:=a.up y hy e
  rw[h]at e1
  cases e1
  exact Qn _ (ih aH)
end Wb
end
section
namespace Wb
open PySem L2 K21
variable{ns:Nf}{r r':Nt}{a8:Nw}{rt:Str}{ks de:Nf}{par ao:Nn}{ds cB:Str→Nat}{c:Str→Int}
def zbo.turn(a:zaw r rt ks par ds)(hp:∀y∈ks,par y=ao y)(h:zbo par L y)(hy:y∈ks):zbo ao L y:=by
 induction h with
 |rt h=>exact .rt (by rw[←hp _ hy];exact h)
 |@up y p L h w ih =>
  have e:y≠rt:=λe=>by rw[e,a.r0]at h;cases h
  obtain⟨p',aH,e1,_⟩:=a.up y hy e
  rw[h]at e1
  cases e1
  exact .up (by rw[←hp _ hy];exact h) (ih aH)
end Wb
end
section
namespace Wb
open PySem L2 K21
structure BF(r:Nt)(rt:Str)(ks:Nf)(par:Nn)(ds:Str→Nat)(n:Nat)(lay:Nf):Prop where
 rk:rt∈ks
 r0:par rt=none
 d0:ds rt=0
 up:∀y∈ks,y≠rt→∃p,p∈ks∧par y=some p∧p∈r y∧ds y=ds p+1∧∀q∈ks,q∈r y→ds q+1=ds y→leS p q
 le:∀y∈ks,ds y≤n
 ly:∀y,y∈lay↔y∈ks∧ds y=n
 cl:∀x∈ks,ds x<n→∀y∈r x,y∈ks∧ds y≤ds x+1
 nd:ks.Nodup
variable{r:Nt}{rt:Str}{ks old fo S lay:Nf}{par ao:Nn}{ds cB:Str→Nat}{n:Nat}{don iD:Str→Str→Prop}
def BF.init(rt:Str):BF r rt [rt] (λ_=>none) (λ_=>0) 0 [rt] :=
 ⟨Qe,rfl,rfl,λy hy e=>absurd (Qb.mp hy) e,λ_ _=>Qg _,λy=>⟨λh=>⟨h,rfl⟩,λh=>h.1⟩,λ_ _ h=>absurd h (Nat.not_lt_zero _),Yz _ _⟩
def BF.tree(b:BF r rt ks par ds n []):zaw r rt ks par ds :=
 ⟨b.rk,b.r0,b.d0,b.up,λx hx=>b.cl x hx (Nat.lt_of_le_of_ne (b.le x hx) λe=>by cases(b.ly x).mpr ⟨hx,e⟩)⟩
def BF.congr(b:BF r rt ks par ds n lay)(hp:∀y∈ks,ao y=par y)(hd:∀y∈ks,cB y=ds y):BF r rt ks ao cB n lay:=by
 refine⟨b.rk,(hp _ b.rk).trans b.r0,(hd _ b.rk).trans b.d0,λy hy e=>?_,λy hy=>by rw[hd y hy];exact b.le y hy,λy=>?_,λx hx h y hy=>?_,b.nd⟩
 ·obtain ⟨p,h1,h2,h3,h4,h5⟩:=b.up y hy e
  exact⟨p,h1,(hp y hy).trans h2,h3,by rw[hd y hy,hd p h1];exact h4,λq hq mh cF=>h5 q hq mh (by rw[hd q hq,hd y hy]at cF;exact cF)⟩
 ·rw [b.ly]
  exact⟨λh=>⟨h.1,by rw[hd y h.1];exact h.2⟩,λh=>⟨h.1,by rw[←hd y h.1];exact h.2⟩⟩
 ·rw [hd x hx] at h ⊢
  obtain⟨h1,h2⟩:=b.cl x hx h y hy
  exact⟨h1,by rw[hd y h1];exact h2⟩
structure BG(r:Nt)(rt:Str)(old fo:Nf)(par:Nn)(ds:Str→Nat)(n:Nat)(S:Nf)(don:Str→Str→Prop):Prop where
 bf:BF r rt old par ds n S
 f1:∀y∈fo,y∉old∧ds y=n+1∧∃p,p∈S∧par y=some p∧p∈r y∧∀q∈S,q∈r y→leS p q
 f2:fo.Nodup
 f3:∀x y,don x y→y∈old++fo
def BG.init(b:BF r rt old par ds n lay)(h:∀y,y∈S↔y∈lay)(hd:∀x y,¬don x y):BG r rt old [] par ds n S don :=
 ⟨⟨b.rk,b.r0,b.d0,b.up,b.le,λy=>(h y).trans (b.ly y),b.cl,b.nd⟩,λy hy=>(by cases hy),Zt,λx y h=>absurd h (hd x y)⟩
def BG.had(b:BG r rt old fo par ds n S don)(ho:o∈old++fo)(hd:∀x y,iD x y→don x y∨x=p∧y=o):BG r rt old fo par ds n S iD :=
 ⟨b.bf,b.f1,b.f2,λx y h=>(hd x y h).elim (b.f3 x y) λe=>e.2▸ho⟩
def BG.new(b:BG r rt old fo par ds n S don)(ho:o∉old++fo)(hp:p∈S)(hpo:p∈r o)(hl:∀q∈S,q∈r o→leS p q)(hd:∀x y,iD x y→don x y∨x=p∧y=o) :
  BG r rt old (fo++[o]) (λy=>if y=o then some p else par y) (λy=>if y=o then n+1 else ds y) n S iD:=by
 rw[Qd,not_or]at ho
 have ne:∀y∈old,y≠o:=λy hy e=>ho.1 (e▸hy)
 refine⟨b.bf.congr (λy hy=>if_neg (ne y hy)) (λy hy=>if_neg (ne y hy)),λy hy=>?_,?_,λx y h=>?_⟩
 ·rcases Qd.mp hy with z | z
  ·have e:y≠o:=fun e=>ho.2 (e ▸ z)
   obtain⟨h1,h2,p',h3,h4⟩:=b.f1 y z
   refine⟨h1,(if_neg e).trans h2,p',h3,?_⟩
   rw[if_neg e]
   exact h4
  ·have e:=Qb.mp z
   refine⟨by rw[e];exact ho.1,if_pos e,p,hp,if_pos e,by rw[e];exact hpo,by rw[e];exact hl⟩
 ·rw [Za]
  exact⟨b.f2,Yz _ _,λa ha b' hb e=>ho.2 (by rw[←Qb.mp hb,←e];exact ha)⟩
 ·rw [← Qu]
  rcases hd x y h with z | z
  ·exact Qn _ (b.f3 x y z)
  ·rw[z.2];exact Qk _ Qe
def BG.done(b:BG r rt old fo par ds n S don)(hd:∀ x∈S,∀ y∈r x,don x y):BF r rt (old++fo) par ds (n+1) fo:=by
 have sO:∀x,x∈S→x∈old∧ds x=n:=λx hx=>(b.bf.ly x).mp hx
 refine⟨Qn _ b.bf.rk,b.bf.r0,b.bf.d0,λy hy e=>?_,λy hy=>?_,λy=>?_,λx hx ad y hy=>?_,?_⟩
 ·rcases Qd.mp hy with z | z
  ·obtain ⟨p,h1,h2,h3,h4,h5⟩:=b.bf.up y z e
   refine⟨p,Qn _ h1,h2,h3,h4,λq hq mh cF=>?_⟩
   rcases Qd.mp hq with u | u
   ·exact h5 q u mh cF
   ·have a1:=(b.f1 q u).2.1
    have a2:=b.bf.le y z
    omega
  ·obtain ⟨h1,h2,p,h3,h4,h5,h6⟩:=b.f1 y z
   refine⟨p,Qn _ (sO p h3).1,h4,h5,by rw[h2,(sO p h3).2],λq hq mh cF=>?_⟩
   rcases Qd.mp hq with u | u
   ·exact h6 q ((b.bf.ly q).mpr ⟨u,by omega⟩) mh
   ·have a1:=(b.f1 q u).2.1
    omega
 ·rcases Qd.mp hy with z | z
  ·exact Nat.le_succ_of_le (b.bf.le y z)
  ·rw[(b.f1 y z).2.1];exact Qg _
 ·constructor
  ·exact λh=>⟨Qk _ h,(b.f1 y h).2.1⟩
  ·rintro ⟨h1,h2⟩
   rcases Qd.mp h1 with z | z
   ·have:=b.bf.le y z
    omega
   ·exact z
 ·have l5:x∈old:=by
   rcases Qd.mp hx with z | z
   ·exact z
   ·have:=(b.f1 x z).2.1
    omega
  by_cases h:ds x<n
  ·obtain ⟨h1,h2⟩:=b.bf.cl x l5 h y hy
   exact⟨Qn _ h1,h2⟩
  ·have hxn:ds x=n:=by omega
   have h1:=b.f3 x y (hd x ((b.bf.ly x).mpr ⟨l5,hxn⟩) y hy)
   refine⟨h1,?_⟩
   rcases Qd.mp h1 with z | z
   ·have:=b.bf.le y z
    omega
   ·rw[(b.f1 y z).2.1,hxn];exact Qg _
 ·rw [Za]
  exact⟨b.bf.nd,b.f2,λa ha b' hb e=>(b.f1 b' hb).1 (e▸ha)⟩
end Wb
end
section
namespace K21
open PySem L2 Wb
abbrev zhv:Stmt:=inClass sWeb 2
abbrev sTree:Stmt:=top 10
def dof(ks:Nf)(F:Str→V):List (Key×V):=ks.map λy=>((Sum.inr y:Key),F y)
def ze5(h:x∉ks):valV (dof ks F) (Sum.inr x)=none:=by
 unfold dof
 induction ks with
 |nil=>rfl
 |cons a t ih =>
  rw[Qh,not_or]at h
  rw[Ql,zbs]
  ·exact ih h.2
  ·intro q;exact h.1 (Uv q).symm
def zdk(h:x∈ks):valV (dof ks F) (Sum.inr x)=some (F x):=by
 unfold dof
 induction ks with
 |nil=>cases h
 | cons a t ih =>
  rw[Ql]
  by_cases e:a=x
  ·rw[zcr (by rw[e]),e]
  ·rw [zbs (fun q=>e (Uv q))]
   rcases Qh.mp h with z | z
   ·exact absurd z.symm e
   ·exact ih z
def dof_congr(h:∀y∈ks,F y=G y):dof ks F=dof ks G:=Wa λy hy=>by rw[h y hy]
def dof_new(h:x∉ks):putK (dof ks F) (Sum.inr x) (F x)=dof (ks++[x]) F:=by
 rw[zeh _ (ze5 h)];unfold dof;rw[List.map_append];rfl
def dof_put(h:x∉ks)(v:V):putK (dof ks F) (Sum.inr x) v=dof (ks++[x]) λy=>if y=x then v else F y:=by
 rw[dof_congr (G:=λy=>if y=x then v else F y) λy hy=>by rw[if_neg (λe=>h (by rw[←e];exact hy))]]
 have:=dof_new (F:=λy=>if y=x then v else F y) h
 rw[if_pos rfl]at this
 exact this
def zie(ks:Nf)(F:Str→V):(dof ks F).length=ks.length:=Qa ..
def Keep.fr(k:Keep [] H H')(h:H a=none):Keep [] H (upd H' a o):=λc u ec hc=>by rw[zad (zab ec h)];exact k c u ec hc
inductive zhj(C:Nd)(vs:List V)(H:Hp)(Q:VK):Prop
 |mk (x dx d:Nd) (es:List Ent) (e:Ent) (h0:vs=[.ref x,.str e.1]) (h1:WAt H C x dx d es) (h2:e∈es) (h3:∀l,H l=none→Q (.ref l) (upd H l (.lst (e.2.1.map V.str)))):zhj C vs H Q
def spRoundOf(C:Nd):Sp:=λvs H Q _=>zhj C vs H Q
def parV(par:Nn)(y:Str):V:=match par y with
 |none=>.non
 |some p=>.str p
inductive IspTree(C:Nd)(vs:List V)(H:Hp)(Q:VK):Prop
 |mk (x dx d:Nd) (es:List Ent) (rt:Str) (h0:vs=[.ref x,.str rt]) (h1:WAt H C x dx d es) (h2:es.length≤60) (h3:rt∈es.map (·.1)) (h4:∀a b,b∈row (rsOf es) a→a∈row (rsOf es) b) (h5:∀a b,b∈row (rsOf es) a→b∈es.map (·.1)) (h6:∀e∈es,e.2.1.length≤100)
  (h7:∀(l:Nd) (ks:Nf) (par:Nn) (ds:Str→Nat) (H':Hp),H' l=some (.dK (dof ks (parV par)))→zaw (row (rsOf es)) rt ks par ds→ks.Nodup→(∀y∈ks,y∈es.map (·.1))→H l=none→Keep [] H H'→Q (.ref l) H'):IspTree C vs H Q
def spTree(C:Nd):Sp:=λvs H Q _=>IspTree C vs H Q
section
variable{P:Nj}{w:Nk}{K:Nb}{mg:Ng}{base:Nm}
def scRoundOf:zan ["self", "place"] ["self", "place"] (zah zhv):=⟨rfl,rfl,rfl,by decide +kernel,rfl,by decide +kernel,by decide +kernel⟩
def ok_roundof(F:Fun K "round_of" "Web.round_of" zhv f fd)(cW:Cls K C)(nW:zc3 K C "rounds")(aV:mg "list" = none):FnOk P w K mg base CX0 1 f fd ["self", "place"] (spRoundOf C):=by
 refine F.ok scRoundOf (λvs H Q E h=>?_) (λcdv A outer s H vs Q E hr h=>?_)
 ·obtain ⟨x,dx,d,es,e,rfl,_⟩:=h
  rfl
 ·obtain ⟨x,dx,d,es,e,rfl,wt,he,k⟩:=h
  have hu:=zb4 hr
  refine⟨_,zae (zb1 (zb8 (zaz hu (pv 1) (zek (pv 0) rfl))) (zag zf6) zax)
   (zag (za3 (zco zfl (by rfl) aV Uw (zaa (pe_dget hu (zek (pv 0) rfl) (pv 1) (λ_ _=>rfl)) zaf)))),?_⟩
  have g:=DGet.k (k:=Sum.inr e.1) wt.ta.dc
  rw[zds wt.ta.nd he]at g
  refine⟨_,rfl,_,rfl,x,C,dx,_,_,rfl,wt.ob,cW,nW,rfl,d,_,rfl,g,_,rfl,za9 rfl ?_⟩
  exact⟨_,rfl,x,C,dx,_,_,rfl,wt.ob,cW,nW,rfl,_,rfl,d,_,rfl,g,e.2.2,_,rfl,.inr (SqT.of (wt.ta.ro e he)),k⟩
def zfe:zan ["web", "root", "parents", "layer", "found", "place", "other"] ["web", "root"] (zah sTree):=⟨rfl,rfl,rfl,by decide +kernel,rfl,by decide +kernel,by decide +kernel⟩
def ok_tree(F:Fun K "tree" "tree" sTree f fd)(cW:Cls K C)(nW:zc3 K C "rounds")(mR:Meth K C "round_of" fr)(bR:Binds K fdr ["self", "place"] [])(GR:FnOk P w K mg base CX0 1 fr fdr ["self", "place"] (spRoundOf C))(av:mg "sorted" = none):FnOk P w K mg base CX0 2 f fd ["web", "root"] (spTree C):=by
 refine F.ok zfe (λvs H Q E h=>?_) (λcdv A outer s H vs Q E hr h=>?_)
 ·obtain ⟨x,dx,d,es,rt,rfl,_⟩:=h
  rfl
 ·obtain ⟨x,dx,d,es,rt,rfl,wt,cN,dN,sy,inn,bH,k⟩:=h
  have hu:=zb4 hr
  have aE:sizeLine=16777216:=sizeLine_eq
  refine⟨_,zae (zb1 (zb8 (zaz hu (pv 1) (zek (pv 0) rfl))) (zag zf6) zax)
   (zae (zdw (i:=2) zfe.nd rfl (Or.inl rfl) (pe_disp (zh3 (pv 1) pe_non pps_nil) rfl rfl (by decide) (by decide)))
   (zae (zdw (i:=3) zfe.nd rfl (Or.inl rfl) (za7 (zaa (pv 1) zaf)))
   (zae (zcj Zd (zei (pv 3) (fun _=>rfl))
    (zae (zdw (i:=4) zfe.nd rfl (Or.inl rfl) (za7 zaf))
    (zae (zbg Zd rfl (za6 (zaj zdc (by rfl) av Yp (zaa (pv 3) zaf))) (zez (i:=5) zfe.nd rfl (Or.inl rfl))
     (zag (zbg Zd rfl (za6 (pe_meth (pl:=_) (pv 0) cW mR GR hr bR .nil zau (zaa (pv 5) zaf))) (zez (i:=6) zfe.nd rfl (Or.inl rfl))
      (zag (zb1 (zb8 (zaz hu (pv 6) (pv 2)))
       (zae (zey hu (pv 2) (pv 6) (pv 5) rfl)
       (zag (zay (zb7 Qx Zm Zl za4 (pv 4) (zaa (pv 6) zaf))))) zax)))))
    (zag (zdw (i:=3) zfe.nd rfl (Or.inl rfl) (pv 4))))))
   (zag (za3 (pv 2)))))),?_⟩
  have aA:(es.map (·.1)).Nodup:=wt.ta.nd
  have ai:∀e∈es,row (rsOf es) e.1=e.2.1:=λe he=>zcn aA he
  generalize row (rsOf es)=r at sy inn k ai
  generalize dS:es.map (·.1)=ns at aA dN inn k
  have fQ:ns.length=es.length:=by rw[←dS,Qa]
  obtain⟨e0,he0,her⟩:=Qm.mp (by rw[dS];exact dN:rt∈es.map (·.1))
  have sZ:e0.1=rt:=her
  have g0:=DGet.k (k:=Sum.inr e0.1) wt.ta.dc
  rw[zds wt.ta.nd he0,sZ]at g0
  refine⟨_,rfl,_,rfl,x,C,dx,_,_,rfl,wt.ob,cW,nW,rfl,d,_,rfl,g0,_,rfl,za9 rfl ?_⟩
  refine λpa aL=>⟨_,rfl,zac,[(Sum.inr rt,.non)],rfl,(by show 1≤15;decide),?_⟩
  have gE:(zdb [] [((Sum.inr rt:Key),V.non)])=dof [rt] (parV λ_=>none):=rfl
  rw[gE]
  have k1:Keep [] H (upd (upd H pa (.dK [])) pa (.dK (dof [rt] (parV λ_=>none)))):=by rw[upd_upd];exact Keep.new aL
  have bX:(upd (upd H pa (.dK [])) pa (.dK (dof [rt] (parV λ_=>none)))) pa=some (.dK (dof [rt] (parV λ_=>none))):=zac
  generalize upd (upd H pa (.dK [])) pa (.dK (dof [rt] (parV λ_=>none)))=H1 at k1 bX
  refine⟨_,rfl,(by show 1≤sizeLine;decide),λl1 bp=>?_⟩
  have npl:pa≠l1:=zab bX bp
  refine⟨λm σ H'=>Ex7 λ(lay ks:Nf) (par:Nn) (ds:Str→Nat) (n:Nat) (la:Nd) (fo:Nd)=>Aj9 (m=2*(ns.length-ks.length)+(if lay=[] then 0 else 1)) (Ex3 λx4 x5 x6=>σ=[some (.ref x),some (.str rt),some (.ref pa),some (.ref la),x4,x5,x6]) (H' pa=some (.dK (dof ks (parV par)))) (H' la=some (.lst (lay.map V.str))) (BF r rt ks par ds n lay) (∀y∈ks,y∈ns) (la≠pa) lay.Nodup (Keep [] H H'),
   ⟨_,[rt],[rt],_,_,0,l1,l1,rfl,⟨none,none,none,rfl⟩,by rw[zad npl];exact bX,zac,BF.init rt,λy hy=>(by rw[Qb.mp hy];exact dN),Zi npl,Yz _ _,k1.trans (Keep.new bp)⟩,?_⟩
  rintro m σ H2 ⟨lay,ks,par,ds,n,la,_,rfl,⟨x4,x5,x6,rfl⟩,aG,dq,bf,aI,nlp,ik,k2⟩
  refine⟨_,rfl,_,.inl ⟨_,SqL.of dq,rfl⟩,?_⟩
  have aY:ks.length≤ns.length:=zbj bf.nd aI
  by_cases dm:lay=[]
  ·subst dm
   refine za9 rfl ⟨_,rfl,k pa ks par ds H2 aG bf.tree bf.nd aI aL k2⟩
  ·refine zbk (by cases lay with
    |nil=>exact absurd rfl dm
    |cons _ _=>rfl) ?_
   refine⟨_,λ σ' H' zz=>zz,?_⟩
   refine⟨(by show 0≤sizeLine;decide),λfo du=>?_⟩
   have npf:pa≠fo:=zab aG du
   have nlf:la≠fo:=zab dq du
   have ffo:H fo=none:=zap k2 du (by simp)
   have k3:Keep [] H (upd H2 fo (.lst [])):=k2.trans (Keep.new du)
   have aF:(upd H2 fo (.lst [])) pa=some (.dK (dof ks (parV par))):=by rw[zad npf];exact aG
   have dW:(upd H2 fo (.lst [])) la=some (.lst (lay.map V.str)):=by rw[zad nlf];exact dq
   have ck:(upd H2 fo (.lst [])) fo=some (.lst (([]:List Str).map V.str)):=zac
   generalize upd H2 fo (.lst [])=H3 at k3 aF dW ck
   refine⟨_,rfl,la,lay,rfl,SqL.of dW,λls S iM kE tN=>?_⟩
   have npls:pa≠ls:=zab aF iM
   have nfls:fo≠ls:=zab ck iM
   have k4:Keep [] H (upd H3 ls (.lst (S.map V.str))):=k3.trans (Keep.new iM)
   have jQ:(upd H3 ls (.lst (S.map V.str))) ls=some (.lst (S.map V.str)):=zac
   have aU:(upd H3 ls (.lst (S.map V.str))) pa=some (.dK (dof (ks++[]) (parV par))):=by rw[zad npls,Zw];exact aF
   have ba:(upd H3 ls (.lst (S.map V.str))) fo=some (.lst (([]:List Str).map V.str)):=by rw[zad nfls];exact ck
   have fls:H ls=none:=zap k3 iM (by simp)
   generalize upd H3 ls (.lst (S.map V.str))=H4 at k4 jQ aU ba
   have hSl:S.length≤60:=by
    rw[kE.length_eq]
    have:=zbj ik λy hy=>aI y ((bf.ly y).mp hy).1
    omega
   refine⟨ls,rfl,⟨_,SqL.of jQ⟩,zdr (zs:=S) (λi σ H'=>Ex3 λ(fl:Nf) (par:Nn) (ds:Str→Nat)=>Aj7 (Ex2 λx5 x6=>σ=[some (.ref x),some (.str rt),some (.ref pa),some (.ref la),some (.ref fo),x5,x6]) (H' pa=some (.dK (dof (ks++fl) (parV par)))) (H' fo=some (.lst (fl.map V.str))) (H' ls=some (.lst (S.map V.str))) (BG r rt ks fl par ds n S λx y=>x∈S.take i∧y∈r x) (∀y∈fl,y∈ns) (Keep [] H H'))
    ⟨[],par,ds,⟨_,_,rfl⟩,aU,ba,jQ,BG.init bf (λy=>kE.mem_iff) (λx y h=>by cases h.1),λy hy=>(by cases hy),k4⟩ (λi σ H' _ hh=>by obtain⟨_,_,_,h⟩:=hh;exact SqL.of h.h3) ?_ ?_⟩
   ·rintro i hi σ H5 ⟨fl,jd,tZ,⟨x5,x6,rfl⟩,aD,bK,dl,bg,dE,k5⟩
    have kF:S[i]∈S:=Qp hi
    have tO:S[i]∈ns:=aI _ ((bf.ly _).mp (kE.mem_iff.mp kF)).1
    obtain⟨en,bh,ka⟩:=Qm.mp (by rw[dS];exact tO:S[i]∈es.map (·.1))
    have cO:en.1=S[i]:=ka
    have cx:r S[i]=en.2.1:=by rw[←cO];exact ai en bh
    have gn:=bH en bh
    have wt5:WAt H5 C x dx d es:=wt.keep k5 (by simp) (by simp) (λ_ _=>by simp)
    refine⟨_,rfl,x,dx,_,rfl,wt5.ob,rfl,_,rfl,x,dx,d,es,en,by rw[cO];rfl,wt5,bh,λq hq=>?_⟩
    have fq:H q=none:=zap k5 hq (by simp)
    have npq:pa≠q:=zab aD hq
    have nfq:fo≠q:=zab bK hq
    have nlq:ls≠q:=zab dl hq
    refine⟨q,rfl,⟨_,SqL.of zac⟩,zdr (zs:=en.2.1) (λj σ H'=>Ex3 λ(fl:Nf) (par:Nn) (ds:Str→Nat)=>Aj8 (Ex1 λx6=>σ=[some (.ref x),some (.str rt),some (.ref pa),some (.ref la),some (.ref fo),some (.str S[i]),x6]) (H' pa=some (.dK (dof (ks++fl) (parV par)))) (H' fo=some (.lst (fl.map V.str))) (H' ls=some (.lst (S.map V.str))) (H' q=some (.lst (en.2.1.map V.str))) (BG r rt ks fl par ds n S λx y=>x∈S.take i∧y∈r x∨x=S[i]∧y∈en.2.1.take j) (∀y∈fl,y∈ns) (Keep [] H H'))
     ⟨fl,jd,tZ,⟨_,rfl⟩,by rw[zad npq];exact aD,by rw[zad nfq];exact bK,by rw[zad nlq];exact dl,zac,⟨bg.bf,bg.f1,bg.f2,λx y h=>h.elim (bg.f3 x y) λh=>by cases h.2⟩,dE,k5.trans (Keep.new hq)⟩ (λj σ H' _ hh=>by obtain⟨_,_,_,h⟩:=hh;exact SqL.of h.h4) ?_ ?_⟩
    ·rintro j hj σ H6 ⟨d8,am,kJ,⟨y6,rfl⟩,aN,cj,dk,eQ,gw,cM,k6⟩
     have i9:en.2.1[j]∈r S[i]:=by rw[cx];exact Qp hj
     have tk:en.2.1.take (j+1)=en.2.1.take j++[en.2.1[j]]:=Qo hj
     generalize en.2.1[j]=o at i9 tk
     have dZ:∀x y,(x∈S.take i∧y∈r x∨x=S[i]∧y∈en.2.1.take (j+1))→(x∈S.take i∧y∈r x∨x=S[i]∧y∈en.2.1.take j)∨x=S[i]∧y=o:=λx y h=>by
      rcases h with h | ⟨h1,h2⟩
      ·exact .inl (.inl h)
      ·rw [tk] at h2
       rcases Qd.mp h2 with z | z
       ·exact .inl (.inr ⟨h1,z⟩)
       ·exact .inr ⟨h1,Qb.mp z⟩
     have g6:=DGet.k (k:=Sum.inr o) aN
     by_cases ho:o∈ks++d8
     ·rw [zdk ho] at g6
      refine⟨_,rfl,_,rfl,pa,_,rfl,g6,_,rfl,za9 rfl ?_⟩
      exact⟨d8,am,kJ,⟨_,rfl⟩,aN,cj,dk,eQ,gw.had ho dZ,cM,k6⟩
     ·rw [ze5 ho] at g6
      have fT:(ks++d8).length≤ns.length:=zbj (by
       rw[Za]
       exact⟨gw.bf.nd,gw.f2,λa ha b hb e=>(gw.f1 b hb).1 (e▸ha)⟩) λy hy=>(Qd.mp hy).elim (aI y) (cM y)
      refine⟨_,rfl,_,rfl,pa,_,rfl,g6,_,rfl,zbk rfl ?_⟩
      refine⟨_,rfl,_,rfl,_,rfl,pa,_,rfl,DPut.k (k:=Sum.inr o) aN (by rw[zie];omega),?_⟩
      have ed:putK (dof (ks++d8) (parV am)) (Sum.inr o) (V.str S[i])=dof (ks++(d8++[o])) (parV λy=>if y=o then some S[i] else am y):=by
       rw[dof_put ho,Qu]
       congr 1
       funext y
       unfold parV
       by_cases e:y=o
       ·rw[if_pos e];dsimp only;rw[if_pos e]
       ·rw[if_neg e];dsimp only;rw[if_neg e]
      rw[ed]
      have qg:fo≠pa:=Zi npf
      have aR:(upd H6 pa (.dK (dof (ks++(d8++[o])) (parV λy=>if y=o then some S[i] else am y)))) fo=some (.lst (d8.map V.str)):=by rw[zad qg];exact cj
      have cK:(upd H6 pa (.dK (dof (ks++(d8++[o])) (parV λy=>if y=o then some S[i] else am y)))) ls=some (.lst (S.map V.str)):=by rw[zad (Zi npls)];exact dk
      have hq7:(upd H6 pa (.dK (dof (ks++(d8++[o])) (parV λy=>if y=o then some S[i] else am y)))) q=some (.lst (en.2.1.map V.str)):=by rw[zad (Zi npq)];exact eQ
      have az:(upd H6 pa (.dK (dof (ks++(d8++[o])) (parV λy=>if y=o then some S[i] else am y)))) pa=some (.dK (dof (ks++(d8++[o])) (parV λy=>if y=o then some S[i] else am y))):=zac
      have k7:Keep [] H (upd H6 pa (.dK (dof (ks++(d8++[o])) (parV λy=>if y=o then some S[i] else am y)))):=k6.fr aL
      generalize upd H6 pa (.dK (dof (ks++(d8++[o])) (parV λy=>if y=o then some S[i] else am y)))=H7 at aR cK hq7 az k7
      refine⟨_,rfl,.inl ⟨rfl,_,SqL.of aR⟩,_,rfl,fo,_,_,rfl,rfl,aR,by rw[Qj]at fT;rw[Qa];omega,?_⟩
      refine⟨d8++[o],_,_,⟨_,rfl⟩,by rw[zad npf];exact az,by rw[zac,Qs];rfl,by rw[zad (Zi nfls)];exact cK,by rw[zad (Zi nfq)];exact hq7,gw.new ho kF (sy _ _ i9) (λz hz jk=>?_) dZ,λy hy=>?_,k7.fr ffo⟩
      ·obtain ⟨t,ht,rfl⟩:=Zq hz
       rcases Nat.lt_trichotomy t i with c | c | c
       ·refine absurd (gw.f3 S[t] o (.inl ⟨?_,sy _ _ jk⟩)) ho
        rw[←Uy (j:=i) (h:=by rw[Zn];omega)]
        exact Qp _
       ·subst c;exact λz=>Wh _ z
       ·exact Uh.mp (tN (by rw[←kE.length_eq];omega)) i t hi ht c
      ·rcases Qd.mp hy with z | z
       ·exact cM y z
       ·rw[Qb.mp z];exact inn _ _ i9
    ·rintro σ H6 ⟨d8,am,kJ,⟨y6,rfl⟩,aN,cj,dk,eQ,gw,cM,k6⟩
     refine⟨d8,am,kJ,⟨_,_,rfl⟩,aN,cj,dk,⟨gw.bf,gw.f1,gw.f2,λx y h=>gw.f3 x y ?_⟩,cM,k6⟩
     rw[Qa,Qz (Qg _)]
     rw[Qo hi]at h
     rcases Qd.mp h.1 with z | z
     ·exact .inl ⟨z,h.2⟩
     ·have e:=Qb.mp z
      exact .inr ⟨e,by rw[←cx,←e];exact h.2⟩
   ·rintro σ H5 ⟨fl,jd,tZ,⟨x5,x6,rfl⟩,aD,bK,dl,bg,dE,k5⟩
    have hb:=bg.done λx hx y hy=>⟨by rw[Qa,Qz (Qg _)];exact hx,hy⟩
    have fT:(ks++fl).length≤ns.length:=zbj hb.nd λy hy=>(Qd.mp hy).elim (aI y) (dE y)
    rw[Qj]at fT
    refine⟨_,rfl,_,?_,fl,ks++fl,jd,tZ,n+1,fo,fo,rfl,⟨_,_,_,rfl⟩,aD,bK,hb,λy hy=>(Qd.mp hy).elim (aI y) (dE y),Zi npf,bg.f2,k5⟩
    rw[if_neg dm,Qj]
    by_cases gm:fl=[]
    ·rw[if_pos gm,gm,Uk];omega
    ·rw [if_neg gm]
     have:=Wv.mpr gm
     omega
end
end K21
end
section
namespace L2
open PySem PySem.Spec PyProof.Rows
def pss_no{X:Cx}{l:List Stmt}:PSs X l (λ_ _ _=>False):=λ_ _ _ _ _ _ h=>h.elim
def FnOk.toX{P:Nj}{w:Nk}{K:Nb}{mg:Ng}{base:Nm}{k:Nat}{f:Nd}{fd:Nq}{ps:Nf}{sp:Sp}{CX:CXT}(F:FnOk P w K mg base CX0 k f fd ps sp):FnOk P w K mg base CX k f fd ps sp :=
 ⟨F.len,fun A outer s H args us vs Q E hr he hb hv h=>codeAny_mono (F.run A outer s H args us vs Q E hr he hb hv h) fun r s' z=>by
  cases r with
  |error e=>exact z.elim
  |ok v=>cases v with
   |ret u=>exact z
   |_=>exact z⟩
end L2
namespace K21
open PySem L2 Wb
def eX:Stmt→Expr
 |.Expr e _=>e
 |_=>.Name "" ⟨0,0,0,0⟩
structure RF(H:Hp)(d:Nd)(es:List Ent):Prop where
 dc:Rd H d (.dK (es.map λe=>((Sum.inr e.1:Key),V.ref e.2.2)))
 nd:(es.map (·.1)).Nodup
 ro:∀e∈es,H e.2.2=some (.lst (e.2.1.map V.str))
def RF.get(R:RF H d es)(he:e∈es):DGet H d (.str e.1) (some (.ref e.2.2)):=.inl ⟨_,Sum.inr e.1,R.dc,rfl,(zds R.nd he).symm⟩
def RF.keep(R:RF H d es)(k:Keep [] H H'):RF H' d es :=
 ⟨R.dc.imp (λe=>k _ _ e (by simp)) λ⟨o,e⟩=>⟨o,k _ _ e (by simp)⟩,R.nd,λe he=>k _ _ (R.ro e he) (by simp)⟩
structure WF(es:List Ent):Prop where
 sy:∀a b,b∈row (rsOf es) a→a∈row (rsOf es) b
 inn:∀a b,b∈row (rsOf es) a→b∈es.map (·.1)
 rl:∀e∈es,e.2.1.length≤100
 rn:∀e∈es,e.2.1.Nodup
 few:es.length≤40
def wf_of{es:List Ent}(C:Cert (es.map (·.1)) (row (rsOf es)) cs a8)(h:es.length≤40):WF es:=by
 have rn:∀e∈es,e.2.1.Nodup:=λe he=>by
  have:=C.rn e.1
  rw[zcn C.nd he]at this;exact this
 refine⟨C.sy,λa b hb=>C.inn' hb,λe he=>?_,rn,h⟩
 have:∀y∈e.2.1,y∈es.map (·.1):=λy hy=>C.inn' (x:=e.1) (by rw[zcn C.nd he];exact hy)
 have:=zbj (rn e he) this
 rw[Qa]at this
 omega
abbrev sWay:Stmt:=top 11
abbrev sMakes:Stmt:=top 12
abbrev sRing:Stmt:=top 13
abbrev zf3:Stmt:=top 14
abbrev sTied:Stmt:=inClass sWeb 4
inductive IspWay(vs:List V)(H:Hp)(Q:VK):Prop
 |mk (u:Nd) (r:Nt) (rt:Str) (ks:Nf) (par:Nn) (ds:Str→Nat) (y:Str) (h0:vs=[.ref u,.str y]) (h1:H u=some (.dK (dof ks (parV par)))) (h2:zaw r rt ks par ds) (h3:y∈ks) (h4:ks.length≤100)
  (h5:∀(l:Nd) (L:Nf) (H':Hp),H' l=some (.lst (L.map V.str))→zbo par L y→H l=none→Keep [] H H'→Q (.ref l) H'):IspWay vs H Q
def spWay:Sp:=λvs H Q _=>IspWay vs H Q
inductive IspRing(vs:List V)(H:Hp)(Q:VK):Prop
 |mk (u:Nd) (r:Nt) (rt:Str) (ks:Nf) (par:Nn) (ds:Str→Nat) (y z:Str) (h0:vs=[.ref u,.str y,.str z]) (h1:H u=some (.dK (dof ks (parV par)))) (h2:zaw r rt ks par ds) (h3:y∈ks) (h3':z∈ks) (h4:ks.length≤100)
  (h5:∀(l:Nd) (D B:Nf) (H':Hp),H' l=some (.lst ((zdg D B).map V.str))→zbo par D y→zbo par B z→H l=none→Keep [] H H'→Q (.ref l) H'):IspRing vs H Q
def spRing:Sp:=λvs H Q _=>IspRing vs H Q
inductive IspTied(C:Nd)(vs:List V)(H:Hp)(Q:VK):Prop
 |mk (x dx d:Nd) (es:List Ent) (e:Ent) (b:Str) (h0:vs=[.ref x,.str e.1,.str b]) (h1:WAt H C x dx d es) (h2:e∈es) (h3:∀H',Keep [] H H'→Q (.bl (decide (b∈e.2.1))) H'):IspTied C vs H Q
def spTied(C:Nd):Sp:=λvs H Q _=>IspTied C vs H Q
inductive IspMakes(C:Nd)(vs:List V)(H:Hp)(Q:VK):Prop
 |mk (x dx d u:Nd) (es:List Ent) (rt:Str) (ks:Nf) (par:Nn) (ds:Str→Nat) (a b:Str) (h0:vs=[.ref x,.ref u,.str a,.str b]) (h1:WAt H C x dx d es) (h2:H u=some (.dK (dof ks (parV par)))) (h3:zaw (row (rsOf es)) rt ks par ds) (h4:a∈es.map (·.1))
  (h5:∀H',Keep [] H H'→Q (.bl (decide (a∈ks∧b∈row (rsOf es) a∧par a≠some b∧par b≠some a))) H'):IspMakes C vs H Q
def spMakes(C:Nd):Sp:=λvs H Q _=>IspMakes C vs H Q
abbrev zhg:Scope:=scOf (aOf 0 (eOf (sAt sRing 2)))
def csRing_k:zhg.kind=.function:=by rfl
def csRing_c:∀y∈zhg.names,y.2≠.cell:=by decide +kernel
def csRing_n:∀y∈zhg.names,y.2=.local→zhg.names.lookup y.1=some .local:=by decide +kernel
def csRing_f:∀y∈zhg.names,y.2=.free→(zah sRing).names.lookup y.1=some .cell∨(zah sRing).names.lookup y.1=some .free:=by decide +kernel
def csRing_l:zhg.names.lookup ("beside" : Str)=some NameKind.free:=by decide +kernel
def ndRi:(["place", "beside"]:List Str).Nodup:=by decide +kernel
section
variable{P:Nj}{w:Nk}{K:Nb}{mg:Ng}{base:Nm}
def scWay:zan ["parents", "place", "way"] ["parents", "place"] (zah sWay):=⟨rfl,rfl,rfl,by decide +kernel,rfl,by decide +kernel,by decide +kernel⟩
def ok_way(F:Fun K "way_to" "way_to" sWay f fd):FnOk P w K mg base CX0 1 f fd ["parents", "place"] spWay:=by
 refine F.ok scWay (λvs H Q E h=>?_) (λcdv A outer s H vs Q E hr h=>?_)
 ·obtain ⟨u,r,rt,ks,par,ds,y,rfl,_⟩:=h
  rfl
 ·obtain ⟨u,r,rt,ks,par,ds,y,rfl,iK,T,hy,aY,k⟩:=h
  have hu:=zb4 hr
  have aE:sizeLine=16777216:=sizeLine_eq
  refine⟨_,zae (zdw (i:=2) scWay.nd rfl (Or.inl rfl) (za7 zaf))
   (zae (zcj Zd (za2 op_notN (pv 1) pe_non (zbt _))
    (zae (zay (zb7 Qx Zm Zl za4 (pv 2) (zaa (pv 1) zaf)))
    (zag (zdw (i:=1) scWay.nd rfl (Or.inl rfl) (pe_dget hu (pv 0) (pv 1) (λ_ _=>rfl))))))
   (zag (za3 (pe_rev (pv 2))))),?_⟩
  obtain⟨L,hL,_⟩:=T.way _ y hy rfl
  have hLl:L.length≤100:=Zk (zbj (T.chn hL hy).2 λz hz=>(T.pre hL hy z hz).1) aY
  refine⟨(by show 0≤sizeLine;decide),λwa eY=>?_⟩
  have nuw:u≠wa:=zab iK eY
  refine⟨λm σ H'=>Ex2 λ(ae:Nf) (v:V)=>Aj5 (σ=[some (.ref u),some v,some (.ref wa)]) (H' wa=some (.lst (ae.map V.str))) (H' u=some (.dK (dof ks (parV par)))) (Keep [] H H') ((∃z M,v=.str z∧z∈ks∧zbo par M z∧L=M++ae.reverse∧m=M.length)∨v=.non∧L=ae.reverse∧m=0),
   ⟨L.length,[],.str y,rfl,zac,by rw[zad nuw];exact iK,Keep.new eY,.inl ⟨y,L,rfl,hy,hL,by simp,rfl⟩⟩,?_⟩
  rintro m σ H1 ⟨ae,v,rfl,eZ,bV,k1,hv⟩
  rcases hv with⟨z,M,rfl,hz,hM,eL,rfl⟩ | ⟨rfl,eL,rfl⟩
  ·have e7:ae.length≤100:=by
    have:=congrArg List.length eL
    rw[Qj,Us]at this
    omega
   refine⟨_,rfl,rfl,_,rfl,zbk (by rfl) ?_⟩
   refine⟨_,λ σ' H' zz=>zz,?_⟩
   refine⟨_,rfl,.inl ⟨rfl,_,SqL.of eZ⟩,_,rfl,wa,_,_,rfl,rfl,eZ,by rw[Qa];omega,?_⟩
   have jv:(upd H1 wa (.lst (ae.map V.str++[V.str z]))) u=some (.dK (dof ks (parV par))):=by rw[zad nuw];exact bV
   have hJ:(upd H1 wa (.lst (ae.map V.str++[V.str z]))) wa=some (.lst ((ae++[z]).map V.str)):=by rw[zac,Qs];rfl
   have k2:Keep [] H (upd H1 wa (.lst (ae.map V.str++[V.str z]))):=k1.fr eY
   generalize upd H1 wa (.lst (ae.map V.str++[V.str z]))=H2 at jv hJ k2
   have g:=DGet.k (k:=Sum.inr z) jv
   rw[zdk hz]at g
   refine⟨_,rfl,_,rfl,u,_,rfl,g,?_⟩
   cases hM with
   |rt h =>
    refine⟨0,by simp,ae++[z],.non,by unfold parV;rw[h];rfl,hJ,jv,k2,.inr ⟨rfl,by rw[eL,List.reverse_append];rfl,rfl⟩⟩
   |@up _ p M' h hM' =>
    obtain⟨p',aH,e1,_⟩:=T.up z hz (λe=>by rw[e,T.r0]at h;cases h)
    rw[h]at e1
    cases e1
    refine⟨M'.length,by simp,ae++[z],.str p,by unfold parV;rw[h];rfl,hJ,jv,k2,.inl ⟨p,M',rfl,aH,hM',by rw[eL,List.reverse_append,List.append_assoc];rfl,rfl⟩⟩
  ·refine ⟨_,rfl,rfl,_,rfl,za9 (by rfl) ?_⟩
   refine⟨_,rfl,wa,_,rfl,SqL.of eZ,λl hl=>k l L _ ?_ hL (zap k1 hl (by simp)) (k1.trans (Keep.new hl))⟩
   rw[zac,eL,List.map_reverse]
def scRing:zan ["parents", "one", "other", "down", "beside", "shared"] ["parents", "one", "other"] (zah sRing):=⟨rfl,rfl,rfl,by decide +kernel,rfl,by decide +kernel,by decide +kernel⟩
def ok_ring(F:Fun K "ring_in" "ring_in" sRing f fd)(FW:Fun K "way_to" "way_to" sWay fw fdw)(bW:Binds K fdw ["parents", "place"] [])(mW:mg "way_to" = some (.ref fw))(GW:FnOk P w K mg base CX0 1 fw fdw ["parents", "place"] spWay)(aa:mg "len" = none):FnOk P w K mg base CX0 2 f fd ["parents", "one", "other"] spRing:=by
 refine F.ok scRing (λvs H Q E h=>?_) (λcdv A outer s H vs Q E hr h=>?_)
 ·obtain ⟨u,r,rt,ks,par,ds,y,z,rfl,_⟩:=h
  rfl
 ·obtain ⟨u,r,rt,ks,par,ds,y,z,rfl,iK,T,hy,hz,aY,k⟩:=h
  have aE:sizeLine=16777216:=sizeLine_eq
  refine⟨_,zae (zdw (i:=3) scRing.nd rfl (Or.inl rfl) (zak GW hr rfl mW FW.kp bW .nil zau (zaa (pv 0) (zaa (pv 1) zaf))))
   (zae (zdw (i:=4) scRing.nd rfl (Or.inr rfl) (zak GW hr rfl mW FW.kp bW .nil zau (zaa (pv 0) (zaa (pv 2) zaf))))
   (zae (zdw (i:=5) scRing.nd rfl (Or.inl rfl) (zaj zal (by rfl) aa Zo (zaa (pe_lc (M:=["place", "beside"]) (ix:=[none,some 4]) ⟨csRing_k,csRing_c,csRing_n,csRing_f,rfl,by decide +kernel,λj i x h1 h2=>by
       match j,h1,h2 with
       |0,_,h2=>cases h2
       |1,h1,h2=>cases h1;cases h2;exact⟨rfl,csRing_l⟩
       |n+2,h1,_=>cases h1⟩ rfl (za6 (pv 3)) (λC a6 ex s H=>zez (i:=0) ndRi rfl (Or.inl rfl) (Or.inr rfl))
       (λC a6 ex s H=>zh1 (za2 (zg9 (K:=K) rfl) (pv 0) (pv 1) rfl)) (λC a6 ex s H=>pv 0)) zaf)))
   (zag (za3 (zas zda (zbb zby (pv 3) (zbn (zas op_sub (pv 5) zai)) zbl) (pe_rev (zbb zby (pv 4) (zbn (pv 5)) zbl))))))),?_⟩
  refine⟨_,rfl,_,rfl,u,r,rt,ks,par,ds,y,rfl,iK,T,hy,aY,λdn D H1 pC wD fdn k1=>?_⟩
  have bV:=k1 _ _ iK (by simp)
  refine⟨_,rfl,_,rfl,u,r,rt,ks,par,ds,z,rfl,bV,T,hz,aY,λbe B H2 tT wB fbe k2=>?_⟩
  have iZ:=k2 _ _ pC (by simp)
  have hDl:D.length≤100:=Zk (zbj (T.chn wD hy).2 λz l4=>(T.pre wD hy z l4).1) aY
  have hBl:B.length≤100:=Zk (zbj (T.chn wB hz).2 λz l4=>(T.pre wB hz z l4).1) aY
  have oM:Keep [] H H2:=k1.trans k2
  refine⟨_,rfl,dn,rfl,⟨_,SqL.of iZ⟩,lc_filt (xs:=D.map V.str) (λ τ=>∃x0,τ=[x0,some (.ref be)]) (λv=>inV v (B.map V.str)) (SqL.of iZ) (by rw[Qa];omega) ⟨none,rfl⟩ ?_ (λD2 kH=>?_)⟩
  ·rintro x hx τ ⟨x0,rfl⟩ kk1 kk0 rZ sd
   obtain⟨a,ha,rfl⟩:=Qm.mp hx
   refine⟨_,rfl,_,rfl,be,_,rfl,.inl (SqL.of tT),rfl,zcg B,_,rfl,?_⟩
   cases hb:inV (V.str a) (B.map V.str) with
   |true=>exact zbk rfl ⟨_,rfl,rZ hb _ ⟨_,rfl⟩⟩
   |false=>exact za9 rfl (sd hb _ ⟨_,rfl⟩)
  ·have ef:(D.map V.str).filter (fun v=>inV v (B.map V.str))=(D.filter fun z=>decide (z∈B)).map V.str:=by
    rw[List.filter_map]
    congr 1
    refine List.filter_congr λa _=>?_
    show inV (V.str a) _=_
    rw[zd6]
   rw[ef]
   refine⟨D2,_,rfl,.inl (SqL.of zac),?_⟩
   have gC:1≤(D.filter λz=>decide (z∈B)).length:=Jm (Ui.mpr ⟨T.root_in wD hy,decide_eq_true (T.root_in wB hz)⟩)
   have hnD:(D.filter λz=>decide (z∈B)).length≤D.length:=Xl ..
   have hnB:(D.filter λz=>decide (z∈B)).length≤B.length:=zbj ((T.chn wD hy).2.filter _) λx hx=>of_decide_eq_true (Ui.mp hx).2
   have ering:zdg D B=D.drop ((D.filter λz=>decide (z∈B)).length-1)++(B.drop (D.filter λz=>decide (z∈B)).length).reverse:=rfl
   have bz:∀l:List Str,(l.map V.str).length=l.length:=λl=>Qa ..
   have kT:dn≠D2:=zab iZ kH
   have nb2:be≠D2:=zab tT kH
   have iC:(upd H2 D2 (.lst ((D.filter λz=>decide (z∈B)).map V.str))) dn=some (.lst (D.map V.str)):=by rw[zad kT];exact iZ
   have tS:(upd H2 D2 (.lst ((D.filter λz=>decide (z∈B)).map V.str))) be=some (.lst (B.map V.str)):=by rw[zad nb2];exact tT
   have k3:Keep [] H (upd H2 D2 (.lst ((D.filter λz=>decide (z∈B)).map V.str))):=oM.trans (Keep.new kH)
   generalize upd H2 D2 (.lst ((D.filter λz=>decide (z∈B)).map V.str))=H3 at iC tS k3
   rw[bz]
   generalize(D.filter λz=>decide (z∈B)).length=n at gC hnD hnB ering
   have ei:((n:Nat):Int)-1=((n-1:Nat):Int):=by omega
   refine⟨_,rfl,_,rfl,_,_,rfl,rfl,_,rfl,dn,_,rfl,SqL.of iC,λp1 h1=>?_⟩
   have n1:be≠p1:=zab tS h1
   refine⟨_,rfl,_,rfl,_,rfl,be,_,rfl,SqL.of (by rw[zad n1];exact tS),λp2 h2=>?_⟩
   refine⟨p2,_,rfl,SqL.of zac,λp3 h3=>?_⟩
   have cT:p1≠p2:=zab (o:=_) zac h2
   have n13:p1≠p3:=zab (by rw[zad cT];exact zac) h3
   refine⟨p1,p3,_,_,rfl,rfl,(by rw[zad n13,zad cT];exact zac),zac,?_,λp4 h4=>?_⟩
   ·rw [ei,zcb (by rw [bz];omega),zcb (by rw [bz];omega),Us,Yv,Yv,bz,bz]
    omega
   ·refine k p4 D B _ ?_ wD wB (zap (xs:=[]) (((k3.trans (Keep.new h1)).trans (Keep.new h2)).trans (Keep.new h3)) h4 (by simp)) ((((k3.trans (Keep.new h1)).trans (Keep.new h2)).trans (Keep.new h3)).trans (Keep.new h4))
    rw[zac,ei,zcb (by rw[bz];omega),zcb (by rw[bz];omega),ering,Qs,List.map_reverse,Ua,Ua]
def scTied:zan ["self", "one", "other"] ["self", "one", "other"] (zah sTied):=fsk
def ok_tied(F:Fun K "is_tied" "Web.is_tied" sTied f fd)(cW:Cls K C)(nW:zc3 K C "rounds"):FnOk P w K mg base CX0 1 f fd ["self", "one", "other"] (spTied C):=by
 refine F.okL scTied (λcdv A outer s H vs Q E hr h=>?_)
 obtain⟨x,dx,d,es,e,b,rfl,wt,he,k⟩:=h
 have hu:=zb4 hr
 refine⟨_,zag (za3 (zh5 op_in_seq (pv 2) (pe_dget2 hu (zek (pv 0) rfl) (pv 1) (zce zaf) ⟨rfl,rfl,rfl,rfl⟩) rfl)),?_⟩
 refine⟨_,rfl,_,rfl,x,C,dx,_,_,rfl,wt.ob,cW,nW,rfl,d,rfl,.inl ⟨_,.inl wt.ta.dc⟩,_,rfl,(by show 0≤sizeLine;decide),λq hq=>?_⟩
 have k1:Keep [] H (upd H q (.tup [])):=Keep.new hq
 have aW:WAt (upd H q (.tup [])) C x dx d es:=wt.keep k1 (by simp) (by simp) λ_ _=>by simp
 generalize upd H q (.tup [])=H1 at k1 aW
 have g:=DGet.k (k:=Sum.inr e.1) aW.ta.dc
 rw[zds aW.ta.nd he]at g
 refine⟨_,g,e.2.2,_,rfl,.inr (SqT.of (aW.ta.ro e he)),rfl,zcg _,?_⟩
 rw[zd6]
 exact k H1 k1
def scMakes:zan ["web", "parents", "one", "other"] ["web", "parents", "one", "other"] (zah sMakes):=fsk
def ok_makes(F:Fun K "makes_ring" "makes_ring" sMakes f fd)(cW:Cls K C)(mT:Meth K C "is_tied" ft)(bT:Binds K fdt ["self", "one", "other"] [])(GT:FnOk P w K mg base CX0 1 ft fdt ["self", "one", "other"] (spTied C)):FnOk P w K mg base CX0 2 f fd ["web", "parents", "one", "other"] (spMakes C):=by
 refine F.okL scMakes (λcdv A outer s H vs Q E hr h=>?_)
 obtain⟨x,dx,d,u,es,rt,ks,par,ds,a,b,rfl,wt,hd,T,ha,k⟩:=h
 have hu:=zb4 hr
 refine⟨_,zae (zb1 (PW.pt (zf5 (zb8 (zaz hu (pv 2) (pv 1))) (zf4 (zej (zdv (pe_meth (pl:=_) (pv 0) cW mT GT hr bT .nil zau (zaa (pv 2) (zaa (pv 3) zaf)))))))) (zag (za3 pe_bl)) zax)
  (zag (za3 (pe_and (zh5 op_ne (zd2 hu (pv 1) (pv 2)) (pv 3) (zbt _)) (pe_one (zh5 op_ne (zd2 hu (pv 1) (pv 3)) (pv 2) (zbt _)))))),?_⟩
 obtain⟨e,he,ea⟩:=Qm.mp ha
 have oj:e.1=a:=ea
 subst oj
 have cx:row (rsOf es) e.1=e.2.1:=zcn wt.ta.nd he
 have g:=DGet.k (k:=Sum.inr e.1) hd
 by_cases hk:e.1∈ks
 rotate_left
 ·rw [ze5 hk] at g
  refine⟨_,rfl,_,rfl,u,_,rfl,g,_,rfl,zbk rfl (iteT ?_)⟩
  have:=k H Keep.refl
  rw[decide_eq_false λz=>hk z.1]at this
  exact this
 rw[zdk hk]at g
 refine⟨_,rfl,_,rfl,u,_,rfl,g,_,rfl,za9 rfl ⟨_,rfl,x,dx,_,rfl,wt.ob,rfl,_,rfl,_,rfl,x,dx,d,es,e,b,rfl,wt,he,λH1 k1=>⟨_,rfl,?_⟩⟩⟩
 by_cases hb:b∈e.2.1
 rotate_left
 ·rw [decide_eq_false hb]
  refine iteT ?_
  have:=k H1 k1
  rw[cx,decide_eq_false λz=>hb z.2.1]at this
  exact this
 rw[decide_eq_true hb]
 refine iteF ?_
 have ki:=k1 _ _ hd (by simp)
 have iX:b∈ks:=(T.on e.1 hk b (by rw[cx];exact hb)).1
 have g1:=DGet.k (k:=Sum.inr e.1) ki
 have g2:=DGet.k (k:=Sum.inr b) ki
 rw[zdk hk]at g1
 rw[zdk iX]at g2
 have key:=k H1 k1
 rw[cx]at key
 have ne1:∀y z:Str,∀H':Hp,∀Q':VK,Q' (.bl (decide (par y≠some z))) H'→rNe (parV par y) (.str z) H' Q':=λy z H' Q' q=>by
  unfold parV
  cases hp:par y with
  |none=>rw[hp,decide_eq_true (by simp)]at q;exact⟨rfl,q⟩
  | some p =>
   refine⟨rfl,?_⟩
   rw[hp]at q
   by_cases e:p=z
   ·subst e
    rw[decide_eq_false (by simp)]at q
    rw[decide_eq_true rfl];exact q
   ·rw [decide_eq_true (by simpa using e)] at q
    rw[decide_eq_false (by simpa using e)];exact q
 refine⟨_,rfl,_,rfl,u,_,rfl,g1,_,rfl,ne1 _ _ _ _ ⟨_,rfl,?_⟩⟩
 by_cases h1:par e.1=some b
 ·rw [decide_eq_false (fun z=>z h1)]
  rw[decide_eq_false λz=>z.2.2.1 h1]at key
  exact iteF key
 ·rw [decide_eq_true h1]
  refine iteT ⟨_,rfl,_,rfl,u,_,rfl,g2,_,rfl,ne1 _ _ _ _ ?_⟩
  have ee:decide (e.1∈ks∧b∈e.2.1∧par e.1≠some b∧par b≠some e.1)=decide (par b≠some e.1):=by
   rw[Yu,decide_eq_true_iff,decide_eq_true_iff]
   exact⟨λz=>z.2.2.2,λz=>⟨hk,hb,h1,z⟩⟩
  rw[ee]at key
  exact key
inductive IspRingOf(C:Nd)(vs:List V)(H:Hp)(Q:VK):Prop
 |mk (x dx d:Nd) (es:List Ent) (rt a b:Str) (h0:vs=[.ref x,.str rt,.str a,.str b]) (h1:WAt H C x dx d es) (h2:WF es) (h3:rt∈es.map (·.1)) (h4:a∈es.map (·.1)) (h5:b∈es.map (·.1))
  (h6:∀(ks:Nf) (par:Nn) (ds:Str→Nat),zaw (row (rsOf es)) rt ks par ds→a∈ks∧b∈row (rsOf es) a∧par a≠some b∧par b≠some a)
  (h7:∀(l:Nd) (ks:Nf) (par:Nn) (ds:Str→Nat) (D B:Nf) (H':Hp),zaw (row (rsOf es)) rt ks par ds→H' l=some (.lst ((zdg D B).map V.str))→zbo par D a→zbo par B b→H l=none→Keep [] H H'→Q (.ref l) H'):IspRingOf C vs H Q
def spRingOf(C:Nd):Sp:=λvs H Q _=>IspRingOf C vs H Q
inductive IspRingX(C cp cr:Nd)(vs:List V)(H:Hp)(E:XK):Prop
 |mk (x dx d:Nd) (es:List Ent) (rt a b:Str) (h0:vs=[.ref x,.str rt,.str a,.str b]) (h1:WAt H C x dx d es) (h2:WF es)
  (h3:(¬(rt∈es.map (·.1)∧a∈es.map (·.1)∧b∈es.map (·.1))∧∀H',Keep [] H H'→E (.ref cp) none H')∨((rt∈es.map (·.1)∧a∈es.map (·.1)∧b∈es.map (·.1))∧(∀(ks:Nf) (par:Nn) (ds:Str→Nat),zaw (row (rsOf es)) rt ks par ds→¬(a∈ks∧b∈row (rsOf es) a∧par a≠some b∧par b≠some a))∧∀H',Keep [] H H'→E (.ref cr) none H')):IspRingX C cp cr vs H E
def spRingX(C cp cr:Nd):Sp:=λvs H _ E=>IspRingX C cp cr vs H E
inductive IspTreeX(C cp:Nd)(vs:List V)(H:Hp)(E:XK):Prop
 |mk (x dx d:Nd) (es:List Ent) (s:Str) (h0:vs=[.ref x,.str s]) (h1:WAt H C x dx d es) (h2:s∉es.map (·.1)) (h3:E (.ref cp) none H):IspTreeX C cp vs H E
def spTreeX(C cp:Nd):Sp:=λvs H _ E=>IspTreeX C cp vs H E
def ok_treeX(F:Fun K "tree" "tree" sTree f fd)(cW:Cls K C)(nW:zc3 K C "rounds")(cP:Exc K cp)(mP:mg "NoPlace" = some (.ref cp)) :
  FnOk P w K mg base (CXr P w) 1 f fd ["web", "root"] (spTreeX C cp):=by
 refine F.okX zfe (λvs H Q E h=>by cases h;subst_vars;rfl) (λcdv A outer s0 H vs Q E hr h=>?_)
 obtain⟨x,dx,d,es,s,rfl,wt,hs,q⟩:=h
 have hu:=zb4 hr
 refine⟨_,zae (zb1 (zb8 (zaz hu (pv 1) (zek (pv 0) rfl))) (zag (zh2 cP rfl mP (zaa zbu zaf))) zax) pss_no,?_⟩
 have g:=DGet.k (k:=Sum.inr s) wt.ta.dc
 rw[zfx hs]at g
 exact⟨_,rfl,_,rfl,x,C,dx,_,_,rfl,wt.ob,cW,nW,rfl,d,_,rfl,g,_,rfl,zbk rfl ⟨by show 1≤sizeLine;decide,q⟩⟩
def WAt.get{d:Nd}(wt:WAt H C x dx d es)(h:a∈es.map (·.1)):∃v,DGet H d (.str a) (some v):=by
 obtain⟨e,he,ea⟩:=Qm.mp h
 have oj:e.1=a:=ea
 have g:=DGet.k (k:=Sum.inr e.1) wt.ta.dc
 rw[zds wt.ta.nd he,oj]at g
 exact⟨_,g⟩
def zed:zan ["web", "root", "one", "other", "parents"] ["web", "root", "one", "other"] (zah zf3):=fsk
def ok_ringof(F:Fun K "ring_of" "ring_of" zf3 f fd)(cW:Cls K C)(nW:zc3 K C "rounds")(FT:Fun K "tree" "tree" sTree ft fdt)(bT:Binds K fdt ["web", "root"] [])(mT:mg "tree" = some (.ref ft))(GT:FnOk P w K mg base CX0 2 ft fdt ["web", "root"] (spTree C))(FM:Fun K "makes_ring" "makes_ring" sMakes fm fdm)(bM:Binds K fdm ["web", "parents", "one", "other"] [])(mM:mg "makes_ring" = some (.ref fm))(GM:FnOk P w K mg base CX0 2 fm fdm ["web", "parents", "one", "other"] (spMakes C))(FR:Fun K "ring_in" "ring_in" sRing fr fdr)(bR:Binds K fdr ["parents", "one", "other"] [])(mR:mg "ring_in" = some (.ref fr))(GR:FnOk P w K mg base CX0 2 fr fdr ["parents", "one", "other"] spRing) :
  FnOk P w K mg base CX0 3 f fd ["web", "root", "one", "other"] (spRingOf C):=by
 refine F.okL zed (λcdv A outer s H vs Q E hr h=>?_)
 obtain⟨x,dx,d,es,rt,a,b,rfl,wt,W,dN,ha,hb,hm,k⟩:=h
 have hu:=zb4 hr
 refine⟨_,zae (zar 4 zed.nd (zak GT hr rfl mT FT.kp bT .nil zau (zaa (pv 0) (zaa (pv 1) zaf))))
  (zae (zb1 (PW.pt (zf5 (zb8 (zaz hu (pv 2) (zek (pv 0) rfl))) (zf4 (zb8 (zaz hu (pv 3) (zek (pv 0) rfl)))))) (zag zf6) zax)
  (zae (zb1 (zej (zdv (zak GM hr rfl mM FM.kp bM .nil zau (zaa (pv 0) (zaa (pv 4) (zaa (pv 2) (zaa (pv 3) zaf))))))) (zag zf6) zax)
  (zag (za3 (zak GR hr rfl mR FR.kp bR .nil zau (zaa (pv 4) (zaa (pv 2) (zaa (pv 3) zaf)))))))),?_⟩
 refine⟨_,rfl,_,rfl,x,dx,d,es,rt,rfl,wt,Zk W.few (by decide),dN,W.sy,W.inn,W.rl,λu ks par ds H1 bV T nd aI fu k1=>?_⟩
 have aW:WAt H1 C x dx d es:=wt.keep k1 (by simp) (by simp) λ_ _=>by simp
 obtain⟨v1,g1⟩:=aW.get ha
 obtain⟨v2,g2⟩:=aW.get hb
 refine⟨_,rfl,_,rfl,x,C,dx,_,_,rfl,aW.ob,cW,nW,rfl,d,_,rfl,g1,_,rfl,za9 rfl ⟨_,rfl,_,rfl,x,C,dx,_,_,rfl,aW.ob,cW,nW,rfl,d,_,rfl,g2,_,rfl,za9 rfl ?_⟩⟩
 refine⟨_,rfl,_,rfl,_,rfl,_,rfl,x,dx,d,u,es,rt,ks,par,ds,a,b,rfl,aW,bV,T,ha,λH2 k2=>⟨_,rfl,?_⟩⟩
 have hM:=hm ks par ds T
 rw[decide_eq_true hM]
 refine iteF ?_
 have iX:b∈ks:=(T.on a hM.1 b hM.2.1).1
 have aY:ks.length≤100:=by
  have:=zbj nd aI
  rw[Qa]at this
  have:=W.few
  omega
 exact⟨_,rfl,_,rfl,_,rfl,u,_,rt,ks,par,ds,a,b,rfl,k2 _ _ bV (by simp),T,hM.1,iX,aY,λl D B H3 hl wD wB fl k3=>k l ks par ds D B H3 T hl wD wB (zap (k1.trans k2) fl (by simp)) ((k1.trans k2).trans k3)⟩
def ok_ringX(F:Fun K "ring_of" "ring_of" zf3 f fd)(cW:Cls K C)(nW:zc3 K C "rounds")(cP:Exc K cp)(mP:mg "NoPlace" = some (.ref cp))(cR:Exc K cr)(mNR:mg "NoRing" = some (.ref cr))(FT:Fun K "tree" "tree" sTree ft fdt)(bT:Binds K fdt ["web", "root"] [])(mT:mg "tree" = some (.ref ft))(GT:FnOk P w K mg base CX0 2 ft fdt ["web", "root"] (spTree C))(GX:FnOk P w K mg base (CXr P w) 1 ft fdt ["web", "root"] (spTreeX C cp))(FM:Fun K "makes_ring" "makes_ring" sMakes fm fdm)(bM:Binds K fdm ["web", "parents", "one", "other"] [])(mM:mg "makes_ring" = some (.ref fm))(GM:FnOk P w K mg base CX0 2 fm fdm ["web", "parents", "one", "other"] (spMakes C)) :
  FnOk P w K mg base (CXr P w) 3 f fd ["web", "root", "one", "other"] (spRingX C cp cr):=by
 refine F.okX zed (λvs H Q E h=>by cases h;subst_vars;rfl) (λcdv A outer s0 H vs Q E hr h=>?_)
 obtain⟨x,dx,d,es,rt,a,b,rfl,wt,W,hc⟩:=h
 have hu:=zb4 hr
 by_cases dN:rt∈es.map (·.1)
 rotate_left
 ·refine ⟨_,zae (zar 4 zed.nd (zak (GX.mono (by decide:1≤2)) hr rfl mT FT.kp bT .nil (passR (E':=E) fun _ _ _ z=>z) (zaa (pv 0) (zaa (pv 1) zaf)))) pss_no,?_⟩
  rcases hc with⟨_,q⟩ | ⟨h,_⟩
  ·exact⟨_,rfl,_,rfl,x,dx,d,es,rt,rfl,wt,dN,q H Keep.refl⟩
  ·exact absurd h.1 dN
 refine⟨_,zae (zar 4 zed.nd (zak GT hr rfl mT FT.kp bT .nil zau (zaa (pv 0) (zaa (pv 1) zaf))))
  (zae (zb1 (PW.pt (zf5 (zb8 (zaz hu (pv 2) (zek (pv 0) rfl))) (zf4 (zb8 (zaz hu (pv 3) (zek (pv 0) rfl)))))) (zag (zh2 cP rfl mP (zaa zbu zaf))) zax)
  (zae (zb1 (zej (zdv (zak GM hr rfl mM FM.kp bM .nil zau (zaa (pv 0) (zaa (pv 4) (zaa (pv 2) (zaa (pv 3) zaf))))))) (zag (zh2 cR rfl mNR (zaa zbu zaf))) zax) pss_no)),?_⟩
 refine⟨_,rfl,_,rfl,x,dx,d,es,rt,rfl,wt,Zk W.few (by decide),dN,W.sy,W.inn,W.rl,λu ks par ds H1 bV T nd aI fu k1=>?_⟩
 have aW:WAt H1 C x dx d es:=wt.keep k1 (by simp) (by simp) λ_ _=>by simp
 by_cases ha:a∈es.map (·.1)
 rotate_left
 ·have g:=DGet.k (k:=Sum.inr a) aW.ta.dc
  rw[zfx ha]at g
  rcases hc with⟨_,q⟩ | ⟨h,_⟩
  ·exact⟨_,rfl,_,rfl,x,C,dx,_,_,rfl,aW.ob,cW,nW,rfl,d,_,rfl,g,_,rfl,zbk rfl (iteT ⟨by show 1≤sizeLine;decide,q H1 k1⟩)⟩
  ·exact absurd h.2.1 ha
 obtain⟨v1,g1⟩:=aW.get ha
 by_cases hb:b∈es.map (·.1)
 rotate_left
 ·have g:=DGet.k (k:=Sum.inr b) aW.ta.dc
  rw[zfx hb]at g
  rcases hc with⟨_,q⟩ | ⟨h,_⟩
  ·exact⟨_,rfl,_,rfl,x,C,dx,_,_,rfl,aW.ob,cW,nW,rfl,d,_,rfl,g1,_,rfl,za9 rfl ⟨_,rfl,_,rfl,x,C,dx,_,_,rfl,aW.ob,cW,nW,rfl,d,_,rfl,g,_,rfl,zbk rfl ⟨by show 1≤sizeLine;decide,q H1 k1⟩⟩⟩
  ·exact absurd h.2.2 hb
 obtain⟨v2,g2⟩:=aW.get hb
 refine⟨_,rfl,_,rfl,x,C,dx,_,_,rfl,aW.ob,cW,nW,rfl,d,_,rfl,g1,_,rfl,za9 rfl ⟨_,rfl,_,rfl,x,C,dx,_,_,rfl,aW.ob,cW,nW,rfl,d,_,rfl,g2,_,rfl,za9 rfl ?_⟩⟩
 refine⟨_,rfl,_,rfl,_,rfl,_,rfl,x,dx,d,u,es,rt,ks,par,ds,a,b,rfl,aW,bV,T,ha,λH2 k2=>⟨_,rfl,?_⟩⟩
 rcases hc with⟨h,_⟩ | ⟨_,hm,q⟩
 ·exact absurd ⟨dN,ha,hb⟩ h
 ·rw [decide_eq_false (hm ks par ds T)]
  exact iteT ⟨by show 1≤sizeLine;decide,q H2 (k1.trans k2)⟩
end
end K21
end
section
namespace Wb
open PySem L2
def idx_mid{α:Type}[DecidableEq α]{M W:List α}{z:α}(h:z∉M):(M++z::W).idxOf z=M.length:=by
 induction M with
 |nil=>rw[Wu,List.idxOf_cons_self];rfl
 |cons a t ih =>
  rw[Qh,not_or]at h
  have hb:(a==z)=false:=by simpa using λe=>h.1 e.symm
  rw[Yc,Jt,hb,ih h.2];rfl
def ring_same{r:Nt}{rt:Str}{ks:Nf}{par:Nn}{ds:Str→Nat}(T:zaw r rt ks par ds){D B M W:Nf}{y y' z:Str}(wD:zbo par D y)(hy:y∈ks)(wB:zbo par B y')(c9:y'∈ks)(eB:B=M++z::W)(hzD:z∈D)(hW:∀ w∈W,w∉D) :
  zdg D B=D.drop (D.idxOf z)++W.reverse:=by
 have hzB:z∈B:=by rw[eB];exact Qk _ Qe
 obtain⟨_,N1,D',w1,e1⟩:=T.pre wD hy z hzD
 obtain⟨_,N2,B',w2,e2⟩:=T.pre wB c9 z hzB
 have eN:=w1.one w2
 subst eN
 obtain⟨M0,e0⟩:=w1.last
 subst e0
 have ndD:=(T.chn wD hy).2
 have ndB:=(T.chn wB c9).2
 rw[Qu,Jp]at e1 e2
 have nM0:z∉M0:=λh=>by
  rw[e1,Za]at ndD
  exact ndD.2.2 z h z Qe rfl
 have nM:z∉M:=λh=>by
  rw[eB,Za]at ndB
  exact ndB.2.2 z h z Qe rfl
 have hl:M.length=M0.length:=by
  rw[←idx_mid (W:=W) nM,←eB,e2,idx_mid nM0]
 have eW:W=B':=by
  have h1:B.drop (M.length+1)=W:=by rw[eB];simp
  have h2:B.drop (M0.length+1)=B':=by rw[e2];simp
  rw[←h1,←h2,hl]
 have ef:(D.filter λw=>decide (w∈B))=M0++[z]:=by
  have cv:D=(M0++[z])++D':=by rw[e1];simp
  rw[cv,Wq]
  have f1:(M0++[z]).filter (λw=>decide (w∈B))=M0++[z]:=List.filter_eq_self.mpr λw hw=>decide_eq_true (by
   rw[e2]
   rcases Qd.mp hw with h | h
   ·exact Qn _ h
   ·rw[Qb.mp h];exact Qk _ Qe)
  have f2:D'.filter (λw=>decide (w∈B))=[]:=List.filter_eq_nil_iff.mpr λw hw h=>by
   have hb:=of_decide_eq_true h
   have hwD:w∈D:=by rw[cv];exact Qk _ hw
   rw[cv,Za]at ndD
   rw[e2]at hb
   rcases Qd.mp hb with q | q
   ·exact ndD.2.2 w (Qn _ q) w hw rfl
   ·rcases Qh.mp q with q | q
    ·exact ndD.2.2 w (by rw[q];simp) w hw rfl
    ·exact hW w (by rw[eW];exact q) hwD
  rw[f1,f2,Zw]
 have er:zdg D B=D.drop ((D.filter λw=>decide (w∈B)).length-1)++(B.drop (D.filter λw=>decide (w∈B)).length).reverse:=rfl
 rw[er,ef,Qj,Zx,Nat.add_sub_cancel]
 have i1:D.idxOf z=M0.length:=by rw[e1,idx_mid nM0]
 have i2:B.drop (M0.length+1)=W:=by rw[e2,eW];simp
 rw[i1,i2]
end Wb
end
section
namespace K21
open PySem L2 Wb
abbrev zfr:Stmt:=top 40
abbrev sLRing:Stmt:=top 41
def dof_merge{F:Str→V}:∀{fl ks:Nf},fl.Nodup→(∀y∈fl,y∉ks)→zdb (dof ks F) (dof fl F)=dof (ks++fl) F:=by
 intro fl
 induction fl with
 |nil=>intro ks _ _;rw[Zw];rfl
 |cons a t ih =>
  intro ks nd h
  rw[Zb]at nd
  show zdb (putK (dof ks F) (Sum.inr a) (F a)) (dof t F)=_
  rw[dof_new (h a Qe),ih nd.2 λy hy z=>?_,Qu];· rfl
  rcases Qd.mp z with q | q
  ·exact h y (Qi _ hy) q
  ·exact nd.1 (Qb.mp q▸hy)
def at_last{α:Type}{xs:List α}{z:α}:atI (xs++[z]) (-1)=some z:=by
 unfold atI ixN
 rw[if_neg (by decide),if_pos (by rw[Qj,Zx];omega),Qj,Zx]
 have:(-1+((xs.length+1:Nat):Int)).toNat=xs.length:=by omega
 rw[this]
 simp
inductive zhk(vs:List V)(H:Hp)(Q:VK):Prop
 |mk (d:Nd) (es:List Ent) (rt:Str) (h0:vs=[.ref d,.str rt]) (h1:RF H d es) (h2:WF es) (h3:rt∈es.map (·.1))
  (h4:∀(l:Nd) (ks:Nf) (par:Nn) (ds:Str→Nat) (H':Hp),H' l=some (.dK (dof ks (parV par)))→zaw (row (rsOf es)) rt ks par ds→ks.Nodup→(∀y∈ks,y∈es.map (·.1))→H l=none→Keep [] H H'→Q (.ref l) H'):zhk vs H Q
def spParents:Sp:=λvs H Q _=>zhk vs H Q
inductive IspLRing(vs:List V)(H:Hp)(Q:VK):Prop
 |mk (u:Nd) (r:Nt) (rt:Str) (ks:Nf) (par:Nn) (ds:Str→Nat) (y z:Str) (h0:vs=[.ref u,.str y,.str z]) (h1:H u=some (.dK (dof ks (parV par)))) (h2:zaw r rt ks par ds) (h3:y∈ks) (h3':z∈ks) (h4:ks.length≤100)
  (h5:∀(l:Nd) (D B:Nf) (H':Hp),H' l=some (.lst ((zdg D B).map V.str))→zbo par D y→zbo par B z→H l=none→Keep [] H H'→Q (.ref l) H'):IspLRing vs H Q
def spLRing:Sp:=λvs H Q _=>IspLRing vs H Q
section
variable{P:Nj}{w:Nk}{K:Nb}{mg:Ng}{base:Nm}
def zcm:zan [qR, "_law_root", "_law_found", "_law_layer", "_law_fresh", "_law_place",qO] [qR, "_law_root"] (zah zfr):=fsk
def ok_parents(F:Fun K "_law_parents" "_law_parents" zfr f fd)(av:mg "sorted" = none)(aV:mg "list" = none):FnOk P w K mg base CX0 1 f fd [qR, "_law_root"] spParents:=by
 refine F.okL zcm (λcdv A outer s H vs Q E hr h=>?_)
 obtain⟨d,es,rt,rfl,R,W,dN,k⟩:=h
 have hu:=zb4 hr
 have bV:=Ko hu
 have aE:=sizeLine_eq
 refine⟨_,zae (zar 2 zcm.nd (pe_disp (zh3 (pv 1) pe_non pps_nil) rfl rfl (by decide) (by decide)))
  (zae (zar 3 zcm.nd (za7 (zaa (pv 1) zaf)))
  (zae (zcj Zd (za2 (op_ne_nil bV) (pv 3) (za7 zaf) (zbt _))
   (zae (zar 4 zcm.nd pe_dnewK)
   (zae (zbg Zd rfl (za6 (zaj zdc (by rfl) av Yp (zaa (pv 3) zaf))) (zbe 5 zcm.nd)
    (zag (zbg Zd rfl (za6 (zd2 hu (pv 0) (pv 5))) (zbe 6 zcm.nd)
     (zag (zb1 (PW.pt (pw_and (zb8 (zaz hu (pv 6) (pv 2))) (zh0 (zb8 (zaz hu (pv 6) (pv 4))))))
      (zag (zey hu (pv 4) (pv 6) (pv 5) rfl)) zax)))))
   (zae (zay (zb7 PySem.F.plainAttrs_dict PySem.F.slot_dict_update PySem.F.type_dict_update mt_dupdate (pv 2) (zaa (pv 4) zaf)))
   (zag (zar 3 zcm.nd (zco (zgy rfl) (by rfl) aV Uw (zaa (pv 4) zaf))))))))
  (zag (za3 (pv 2))))),?_⟩
 refine λpa aL=>⟨_,rfl,zac,[(Sum.inr rt,.non)],rfl,(by show 1≤15;decide),?_⟩
 have gE:(zdb [] [((Sum.inr rt:Key),V.non)])=dof [rt] (parV λ_=>none):=rfl
 rw[gE]
 have k1:Keep [] H (upd (upd H pa (.dK [])) pa (.dK (dof [rt] (parV λ_=>none)))):=by rw[upd_upd];exact Keep.new aL
 have bX:(upd (upd H pa (.dK [])) pa (.dK (dof [rt] (parV λ_=>none)))) pa=some (.dK (dof [rt] (parV λ_=>none))):=zac
 generalize upd (upd H pa (.dK [])) pa (.dK (dof [rt] (parV λ_=>none)))=H1 at k1 bX
 have aA:=R.nd
 have ai:∀e∈es,row (rsOf es) e.1=e.2.1:=λe he=>zcn aA he
 have sy:=W.sy
 have inn:=W.inn
 have cN:=W.few
 generalize row (rsOf es)=r at sy inn k ai
 generalize dS:es.map (·.1)=ns at aA dN inn k
 have fQ:ns.length=es.length:=by rw[←dS,Qa]
 refine⟨_,rfl,(by show 1≤sizeLine;decide),λl1 bp=>?_⟩
 have npl:pa≠l1:=zab bX bp
 refine⟨λm σ H'=>Ex6 λ(lay ks:Nf) (par:Nn) (ds:Str→Nat) (n:Nat) (la:Nd)=>Aj8 (m=2*(ns.length-ks.length)+(if lay=[] then 0 else 1)) (Ex3 λx4 x5 x6=>σ=[some (.ref d),some (.str rt),some (.ref pa),some (.ref la),x4,x5,x6]) (H' pa=some (.dK (dof ks (parV par)))) (H' la=some (.lst (lay.map V.str))) (BF r rt ks par ds n lay) (∀y∈ks,y∈ns) lay.Nodup (Keep [] H H'),
  ⟨_,[rt],[rt],_,_,0,l1,rfl,⟨_,_,_,rfl⟩,by rw[zad npl];exact bX,zac,BF.init rt,λy hy=>(by rw[Qb.mp hy];exact dN),Yz _ _,k1.trans (Keep.new bp)⟩,?_⟩
 rintro m σ H2 ⟨lay,ks,par,ds,n,la,rfl,⟨x4,x5,x6,rfl⟩,aG,dq,bf,aI,ik,k2⟩
 refine⟨_,rfl,(by show 0≤sizeLine;decide),λq hq=>?_⟩
 have nlq:la≠q:=zab dq hq
 refine⟨la,q,_,rfl,rfl,SqL.of (by rw[zad nlq];exact dq),SqL.of zac,_,rfl,?_⟩
 have k3:Keep [] H (upd H2 q (.lst [])):=k2.trans (Keep.new hq)
 have aF:(upd H2 q (.lst [])) pa=some (.dK (dof ks (parV par))):=by rw[zad (zab aG hq)];exact aG
 have dW:(upd H2 q (.lst [])) la=some (.lst (lay.map V.str)):=by rw[zad nlq];exact dq
 generalize upd H2 q (.lst [])=H3 at k3 aF dW
 have aY:ks.length≤ns.length:=zbj bf.nd aI
 by_cases dm:lay=[]
 ·subst dm
  exact za9 rfl ⟨_,rfl,k pa ks par ds H3 aF bf.tree bf.nd aI aL k3⟩
 refine zbk (by cases lay with
  |nil=>exact absurd rfl dm
  |cons _ _=>rfl) ⟨_,λ σ' H' zz=>zz,?_⟩
 refine λfo du=>?_
 have npf:pa≠fo:=zab aF du
 have nlf:la≠fo:=zab dW du
 have ffo:H fo=none:=zap k3 du (by simp)
 have k4:Keep [] H (upd H3 fo (.dK [])):=k3.trans (Keep.new du)
 have aU:(upd H3 fo (.dK [])) pa=some (.dK (dof ks (parV par))):=by rw[zad npf];exact aF
 have mX:(upd H3 fo (.dK [])) la=some (.lst (lay.map V.str)):=by rw[zad nlf];exact dW
 have ba:(upd H3 fo (.dK [])) fo=some (.dK (dof [] (parV par))):=zac
 generalize upd H3 fo (.dK [])=H4 at k4 aU mX ba
 refine⟨_,rfl,la,lay,rfl,SqL.of mX,λls S iM kE tN=>?_⟩
 have npls:pa≠ls:=zab aU iM
 have nfls:fo≠ls:=zab ba iM
 have k5:Keep [] H (upd H4 ls (.lst (S.map V.str))):=k4.trans (Keep.new iM)
 have dl:(upd H4 ls (.lst (S.map V.str))) ls=some (.lst (S.map V.str)):=zac
 have aD:(upd H4 ls (.lst (S.map V.str))) pa=some (.dK (dof ks (parV par))):=by rw[zad npls];exact aU
 have bK:(upd H4 ls (.lst (S.map V.str))) fo=some (.dK (dof [] (parV par))):=by rw[zad nfls];exact ba
 generalize upd H4 ls (.lst (S.map V.str))=H5 at k5 dl aD bK
 have hlayl:lay.length≤40:=by
  have:=zbj ik λy hy=>aI y ((bf.ly y).mp hy).1
  omega
 refine⟨ls,rfl,⟨_,SqL.of dl⟩,zdr (zs:=S) (λi σ H'=>Ex3 λ(fl:Nf) (ao:Nn) (cB:Str→Nat)=>Aj8 (Ex2 λx5 x6=>σ=[some (.ref d),some (.str rt),some (.ref pa),some (.ref la),some (.ref fo),x5,x6]) (H' pa=some (.dK (dof ks (parV par)))) (H' fo=some (.dK (dof fl (parV ao)))) (H' ls=some (.lst (S.map V.str))) (BG r rt ks fl ao cB n S λx y=>x∈S.take i∧y∈r x) (∀y∈fl,y∈ns) (∀y∈ks,ao y=par y) (Keep [] H H'))
  ⟨[],par,ds,⟨_,_,rfl⟩,aD,bK,dl,BG.init bf (λy=>kE.mem_iff) (λx y h=>by cases h.1),λy hy=>(by cases hy),λ_ _=>rfl,k5⟩ (λi σ H' _ hh=>by obtain⟨_,_,_,h⟩:=hh;exact SqL.of h.h3) ?_ ?_⟩
 ·rintro i hi σ H6 ⟨fl,am,kJ,⟨y5,y6,rfl⟩,aN,cj,dk,bg,dE,rA,k6⟩
  have kF:S[i]∈S:=Qp hi
  have tO:S[i]∈ns:=aI _ ((bf.ly _).mp (kE.mem_iff.mp kF)).1
  obtain⟨en,bh,ka⟩:=Qm.mp (by rw[dS];exact tO:S[i]∈es.map (·.1))
  have cO:en.1=S[i]:=ka
  have cx:r S[i]=en.2.1:=by rw[←cO];exact ai en bh
  have gn:=W.rl en bh
  have R6:=R.keep k6
  have g:=R6.get bh
  rw[cO]at g
  refine⟨_,rfl,_,rfl,d,_,rfl,g,en.2.2,rfl,⟨_,SqL.of (R6.ro en bh)⟩,zdr (zs:=en.2.1) (λj σ H'=>Ex3 λ(fl:Nf) (ao:Nn) (cB:Str→Nat)=>Aj8 (Ex1 λx6=>σ=[some (.ref d),some (.str rt),some (.ref pa),some (.ref la),some (.ref fo),some (.str S[i]),x6]) (H' pa=some (.dK (dof ks (parV par)))) (H' fo=some (.dK (dof fl (parV ao)))) (H' ls=some (.lst (S.map V.str))) (BG r rt ks fl ao cB n S λx y=>x∈S.take i∧y∈r x∨x=S[i]∧y∈en.2.1.take j) (∀y∈fl,y∈ns) (∀y∈ks,ao y=par y) (Keep [] H H'))
   ⟨fl,am,kJ,⟨_,rfl⟩,aN,cj,dk,⟨bg.bf,bg.f1,bg.f2,λx y h=>h.elim (bg.f3 x y) λh=>by cases h.2⟩,dE,rA,k6⟩ (λj σ H' _ hh=>by obtain⟨_,_,_,h⟩:=hh;exact SqL.of ((R.keep h.h7).ro en bh)) ?_ ?_⟩
  ·rintro j hj σ H7 ⟨gO,db,pM,⟨z6,rfl⟩,az,aR,cK,gR,bd,fI,k7⟩
   have i9:en.2.1[j]∈r S[i]:=by rw[cx];exact Qp hj
   have tk:en.2.1.take (j+1)=en.2.1.take j++[en.2.1[j]]:=Qo hj
   generalize en.2.1[j]=o at i9 tk
   have dZ:∀x y,(x∈S.take i∧y∈r x∨x=S[i]∧y∈en.2.1.take (j+1))→(x∈S.take i∧y∈r x∨x=S[i]∧y∈en.2.1.take j)∨x=S[i]∧y=o:=λx y h=>by
    rcases h with h | ⟨h1,h2⟩
    ·exact .inl (.inl h)
    ·rw [tk] at h2
     rcases Qd.mp h2 with z | z
     ·exact .inl (.inr ⟨h1,z⟩)
     ·exact .inr ⟨h1,Qb.mp z⟩
   have g6:=DGet.k (k:=Sum.inr o) az
   have g7:=DGet.k (k:=Sum.inr o) aR
   by_cases mt:o∈ks
   ·rw [zdk mt] at g6
    exact⟨_,rfl,_,rfl,pa,_,rfl,g6,_,rfl,za9 rfl (iteF ⟨gO,db,pM,⟨_,rfl⟩,az,aR,cK,gR.had (Qn _ mt) dZ,bd,fI,k7⟩)⟩
   rw[ze5 mt]at g6
   by_cases ms:o∈gO
   ·rw [zdk ms] at g7
    exact⟨_,rfl,_,rfl,pa,_,rfl,g6,_,rfl,zbk rfl ⟨_,rfl,_,rfl,fo,_,rfl,g7,_,rfl,za9 rfl ⟨gO,db,pM,⟨_,rfl⟩,az,aR,cK,gR.had (Qk _ ms) dZ,bd,fI,k7⟩⟩⟩
   rw[ze5 ms]at g7
   have ho:o∉ks++gO:=λz=>(Qd.mp z).elim mt ms
   have fT:gO.length≤ns.length:=zbj gR.f2 bd
   refine⟨_,rfl,_,rfl,pa,_,rfl,g6,_,rfl,zbk rfl ⟨_,rfl,_,rfl,fo,_,rfl,g7,_,rfl,zbk rfl ?_⟩⟩
   refine⟨_,rfl,_,rfl,_,rfl,fo,_,rfl,DPut.k (k:=Sum.inr o) aR (by rw[zie];omega),?_⟩
   have ed:putK (dof gO (parV db)) (Sum.inr o) (V.str S[i])=dof (gO++[o]) (parV λy=>if y=o then some S[i] else db y):=by
    rw[dof_put ms]
    congr 1
    funext y
    unfold parV
    by_cases e:y=o
    ·rw[if_pos e];dsimp only;rw[if_pos e]
    ·rw[if_neg e];dsimp only;rw[if_neg e]
   rw[ed]
   refine⟨gO++[o],_,_,⟨_,rfl⟩,by rw[zad npf];exact az,zac,by rw[zad (Zi nfls)];exact cK,gR.new ho kF (sy _ _ i9) (λz hz jk=>?_) dZ,λy hy=>?_,λy hy=>?_,k7.fr ffo⟩
   ·obtain ⟨t,ht,rfl⟩:=Zq hz
    rcases Nat.lt_trichotomy t i with c | c | c
    ·refine absurd (gR.f3 S[t] o (.inl ⟨?_,sy _ _ jk⟩)) ho
     rw[←Uy (j:=i) (h:=by rw[Zn];omega)]
     exact Qp _
    ·subst c;exact λz=>Wh _ z
    ·exact Uh.mp (tN (by omega)) i t hi ht c
   ·rcases Qd.mp hy with z | z
    ·exact bd y z
    ·rw[Qb.mp z];exact inn _ _ i9
   ·show (if y=o then some S[i] else db y)=par y
    rw[if_neg (λe:y=o=>mt (e▸hy))];exact fI y hy
  ·rintro σ H7 ⟨gO,db,pM,⟨z6,rfl⟩,az,aR,cK,gR,bd,fI,k7⟩
   refine⟨gO,db,pM,⟨_,_,rfl⟩,az,aR,cK,⟨gR.bf,gR.f1,gR.f2,λx y h=>gR.f3 x y ?_⟩,bd,fI,k7⟩
   rw[Qa,Qz (Qg _)]
   rw[Qo hi]at h
   rcases Qd.mp h.1 with z | z
   ·exact .inl ⟨z,h.2⟩
   ·have e:=Qb.mp z
    exact .inr ⟨e,by rw[←cx,←e];exact h.2⟩
 ·rintro σ H6 ⟨fl,am,kJ,⟨y5,y6,rfl⟩,aN,cj,dk,bg,dE,rA,k6⟩
  have hb:=bg.done λx hx y hy=>⟨by rw[Qa,Qz (Qg _)];exact hx,hy⟩
  have fT:(ks++fl).length≤ns.length:=zbj hb.nd λy hy=>(Qd.mp hy).elim (aI y) (dE y)
  rw[Qj]at fT
  rw[dof_congr (G:=parV am) λy hy=>by unfold parV;rw[rA y hy]]at aN
  refine⟨_,rfl,.inr (.inr (.inl ⟨rfl,.inl ⟨_,aN⟩⟩)),_,rfl,pa,fo,_,_,rfl,rfl,aN,cj,npf,by rw[zie,zie];omega,?_⟩
  rw[dof_merge bg.f2 λy hy=>(bg.f1 y hy).1]
  have az:(upd H6 pa (.dK (dof (ks++fl) (parV am)))) pa=some (.dK (dof (ks++fl) (parV am))):=zac
  have aR:(upd H6 pa (.dK (dof (ks++fl) (parV am)))) fo=some (.dK (dof fl (parV am))):=by rw[zad (Zi npf)];exact cj
  have k7:Keep [] H (upd H6 pa (.dK (dof (ks++fl) (parV am)))):=k6.fr aL
  generalize upd H6 pa (.dK (dof (ks++fl) (parV am)))=H7 at az aR k7
  refine⟨_,rfl,fo,_,rfl,.inl aR,λl2 aq=>?_⟩
  have e2:((dof fl (parV am)).map λp=>kV p.1)=fl.map V.str:=by unfold dof;rw[List.map_map];rfl
  rw[e2]
  have np2:pa≠l2:=zab az aq
  refine⟨_,?_,fl,ks++fl,am,kJ,n+1,l2,rfl,⟨_,_,_,rfl⟩,by rw[zad np2];exact az,zac,hb,λy hy=>(Qd.mp hy).elim (aI y) (dE y),bg.f2,k7.trans (Keep.new aq)⟩
  rw[if_neg dm,Qj]
  by_cases gm:fl=[]
  ·rw[if_pos gm,gm,Uk];omega
  ·rw [if_neg gm]
   have:=Wv.mpr gm
   omega
end
def cut_but{xs:List V}{z:V}:cutV (xs++[z]) none (some (-1))=xs:=by
 unfold cutV
 have e1:HT.sIx (xs++[z]).length 0 none=0:=rfl
 have e2:HT.sIx (xs++[z]).length (xs++[z]).length (some (-1))=xs.length:=by
  rw[Qj,Zx]
  show(-1+((xs.length+1:Nat):Int)).toNat=xs.length
  omega
 rw[e1,e2,List.drop_zero,Nat.sub_zero,List.take_left]
section
variable{P:Nj}{w:Nk}{K:Nb}{mg:Ng}{base:Nm}
def scLRing:zan ["_law_parents_here", "_law_one",qO, "_law_there", "_law_back"] ["_law_parents_here", "_law_one",qO] (zah sLRing):=fsk
def ok_lring(F:Fun K "_law_ring" "_law_ring" sLRing f fd):FnOk P w K mg base CX0 1 f fd ["_law_parents_here", "_law_one",qO] spLRing:=by
 refine F.okL scLRing (λcdv A outer s H vs Q E hr h=>?_)
 obtain⟨u,r,rt,ks,par,ds,y,z,rfl,iK,T,hy,hz,aY,k⟩:=h
 have hu:=zb4 hr
 have aE:=sizeLine_eq
 refine⟨_,zae (zar 3 scLRing.nd (za7 (zaa (pv 1) zaf)))
  (zae (zcj Zd (za2 op_notN (zd2 hu (pv 0) (za0 zao (pv 3) zai (fun _ _=>rfl))) pe_non (zbt _))
   (zag (zay (zb7 Qx Jf Je zem (pv 3) (zaa zai (zaa (zd2 hu (pv 0) (za0 zao (pv 3) zai (λ_ _=>rfl))) zaf))))))
  (zae (zar 4 scLRing.nd (za7 (zaa (pv 2) zaf)))
  (zae (zcj Zd (za2 zct (za0 zao (pv 4) (pe_un un_neg zai) (fun _ _=>rfl)) (pv 3) rfl)
   (zag (zay (zb7 Qx Zm Zl za4 (pv 4) (zaa (zd2 hu (pv 0) (za0 zao (pv 4) (pe_un un_neg zai) (λ_ _=>rfl))) zaf)))))
  (zag (za3 (zas zda (zbb zby (pv 3) (zbn (zb7 Qx Uu Ut zen (pv 3) (zaa (za0 zao (pv 4) (pe_un un_neg zai) (λ_ _=>rfl)) zaf))) zbl) (zbb zby (pv 4) zbl (zbn (pe_un un_neg zai))))))))),?_⟩
 obtain⟨D,wD,_⟩:=T.way _ y hy rfl
 obtain⟨B,wB,_⟩:=T.way _ z hz rfl
 have hDl:D.length≤100:=Zk (zbj (T.chn wD hy).2 λx hx=>(T.pre wD hy x hx).1) aY
 have hBl:B.length≤100:=Zk (zbj (T.chn wB hz).2 λx hx=>(T.pre wB hz x hx).1) aY
 refine⟨_,rfl,(by show 1≤sizeLine;decide),λwa eY=>?_⟩
 have nuw:u≠wa:=zab iK eY
 refine⟨λm σ H'=>Ex3 λ(x:Str) (ae M:Nf)=>Aj8 (m=M.length) (Ex1 λx4=>σ=[some (.ref u),some (.str y),some (.str z),some (.ref wa),x4]) (H' wa=some (.lst ((x::ae).map V.str))) (H' u=some (.dK (dof ks (parV par)))) (x∈ks) (zbo par M x) (D=M++ae) (Keep [] H H'),
  ⟨_,y,[],D,rfl,⟨_,rfl⟩,zac,by rw[zad nuw];exact iK,hy,wD,by simp,Keep.new eY⟩,?_⟩
 rintro m σ H1 ⟨x,ae,M,rfl,⟨x4,rfl⟩,eZ,bV,hx,wM,eD,k1⟩
 have e7:M.length+ae.length≤100:=by rw[←Qj,←eD];exact hDl
 have d7:atI ((x::ae).map V.str) 0=some (.str x):=zav (j:=0) rfl
 have g:=DGet.k (k:=Sum.inr x) bV
 rw[zdk hx]at g
 refine⟨_,rfl,_,rfl,wa,_,_,_,rfl,rfl,SqL.of eZ,d7,u,_,rfl,g,rfl,_,rfl,?_⟩
 cases ce:par x with
 | some p =>
  refine zbk (by unfold parV;rw[ce];rfl) ⟨_,λ σ' H' zz=>zz,?_⟩
  obtain⟨M',eM,oC⟩:∃M',M=M'++[x]∧zbo par M' p:=by
   cases wM with
   |rt h=>rw[ce]at h;cases h
   |@up _ q L h w=>rw[ce]at h;cases h;exact⟨L,rfl,w⟩
  have hpk:p∈ks:=(T.pre wD hy p (by rw[eD,eM];exact Qn _ (Qn _ oC.mem))).1
  have gv:parV par x=.str p:=by unfold parV;rw[ce]
  rw[gv]at g
  refine⟨_,rfl,.inl ⟨rfl,_,SqL.of eZ⟩,_,rfl,_,rfl,wa,_,_,_,rfl,rfl,SqL.of eZ,d7,u,_,rfl,g,wa,_,_,0,rfl,rfl,eZ,by rw[Qa,Zf];omega,Zp _,?_⟩
  refine⟨_,?_,p,x::ae,M',rfl,⟨_,rfl⟩,zac,by rw[zad nuw];exact bV,hpk,oC,by rw[eD,eM,Qu];rfl,k1.fr eY⟩
  rw[eM,Qj,Zx];exact Ya _
 | none =>
  refine za9 (by unfold parV;rw[ce];rfl) ?_
  have eM:M=[x]:=by
   cases wM with
   |rt _=>rfl
   |up h _=>rw[ce]at h;cases h
  have eD':x::ae=D:=by rw[eD,eM];rfl
  rw[eD']at eZ
  refine⟨_,rfl,(by show 1≤sizeLine;decide),λbk iX=>?_⟩
  have nub:u≠bk:=zab bV iX
  have nwb:wa≠bk:=zab eZ iX
  have fbk:H bk=none:=zap k1 iX (by simp)
  refine⟨λm σ H'=>Ex3 λ(c:Str) (bs M:Nf)=>Aj9 (m=M.length) (σ=[some (.ref u),some (.str y),some (.str z),some (.ref wa),some (.ref bk)]) (H' wa=some (.lst (D.map V.str))) (H' bk=some (.lst ((bs++[c]).map V.str))) (H' u=some (.dK (dof ks (parV par)))) (∀b∈bs,b∉D) (zbo par M c) (B=M++bs.reverse) (Keep [] H H'),
   ⟨_,z,[],B,rfl,rfl,by rw[zad nwb];exact eZ,zac,by rw[zad nub];exact bV,(λb hb=>by cases hb),wB,by simp,k1.trans (Keep.new iX)⟩,?_⟩
  rintro m σ H2 ⟨c,bs,M2,rfl,rfl,hJ,bQ,jv,hbs,pV,eB,k2⟩
  have gJ:M2.length+bs.length≤100:=by rw[←Us (as:=bs),←Qj,←eB];exact hBl
  have hcB:c∈B:=by rw[eB];exact Qn _ pV.mem
  have hck:c∈ks:=(T.pre wB hz c hcB).1
  have kB:atI ((bs++[c]).map V.str) (-1)=some (.str c):=by rw[Qs];exact at_last
  obtain⟨M0,eM0⟩:=pV.last
  refine⟨_,rfl,_,rfl,bk,_,_,_,rfl,rfl,SqL.of bQ,kB,_,rfl,wa,_,rfl,.inl (SqL.of hJ),rfl,zcg _,_,rfl,?_⟩
  rw[zd6]
  by_cases cQ:c∈D
  ·refine za9 (by rw [decide_eq_true cQ];rfl) ?_
   obtain⟨i1,i2⟩:=index_of cQ
   have hj:D.idxOf c≤D.length:=Ww (idx_lt cQ)
   have bz:(D.map V.str).length=D.length:=Qa ..
   refine⟨_,rfl,_,rfl,.inl ⟨rfl,_,SqL.of hJ⟩,_,rfl,_,rfl,bk,_,_,_,rfl,rfl,SqL.of bQ,kB,wa,_,_,_,rfl,rfl,hJ,rfl,zcg _,i1,i2,_,rfl,wa,_,rfl,SqL.of hJ,λp1 h1=>?_⟩
   have n1:bk≠p1:=zab bQ h1
   refine⟨_,rfl,_,rfl,_,rfl,bk,_,rfl,SqL.of (by rw[zad n1];exact bQ),λp2 h2=>?_⟩
   have cT:p1≠p2:=zab (o:=_) zac h2
   have pI:cutV (D.map V.str) (some ((D.idxOf c:Nat):Int)) none=(D.drop (D.idxOf c)).map V.str:=by rw[zcb (by rw[bz];exact hj),Ua]
   have ec2:cutV ((bs++[c]).map V.str) none (some (-1))=bs.map V.str:=by rw[Qs];exact cut_but
   rw[pI]at h2 ⊢
   refine⟨p1,p2,_,_,rfl,rfl,(by rw[zad cT];exact zac),zac,?_,λp3 h3=>?_⟩
   ·rw[show cutV ((bs++[c]).map V.str) none (some (-1))=_ from ec2,Qa,Qa,Yv];omega
   have er:=ring_same T wD hy wB hz (z:=c) (M:=M0) (W:=bs.reverse) (by rw[eB,eM0,Qu];rfl) cQ (λw' hw'=>hbs w' (List.mem_reverse.mp hw'))
   rw[List.reverse_reverse]at er
   refine k p3 D B _ ?_ wD wB (zap (xs:=[]) ((k2.trans (Keep.new h1)).trans (Keep.new h2)) h3 (by simp)) (((k2.trans (Keep.new h1)).trans (Keep.new h2)).trans (Keep.new h3))
   rw[zac,er,show cutV ((bs++[c]).map V.str) none (some (-1))=_ from ec2,Qs]
  ·refine zbk (by rw [decide_eq_false cQ];rfl) ⟨_,fun σ' H' zz=>zz,?_⟩
   have hcr:c≠rt:=λe=>cQ (by rw[e];exact T.root_in wD hy)
   obtain⟨p,hpk,fO,_⟩:=T.up c hck hcr
   obtain⟨M',eM,oC⟩:∃M',M2=M'++[c]∧zbo par M' p:=by
    cases pV with
    |rt h=>rw[fO]at h;cases h
    |@up _ q L h w=>rw[fO]at h;cases h;exact⟨L,rfl,w⟩
   have g2:=DGet.k (k:=Sum.inr c) jv
   rw[zdk hck,show parV par c=.str p by unfold parV;rw[fO]]at g2
   refine⟨_,rfl,.inl ⟨rfl,_,SqL.of bQ⟩,_,rfl,_,rfl,_,rfl,bk,_,_,_,rfl,rfl,SqL.of bQ,kB,u,_,rfl,g2,bk,_,_,rfl,rfl,bQ,by rw[Qa,Qj,Zx];omega,?_⟩
   refine⟨_,?_,p,bs++[c],M',rfl,rfl,by rw[zad nwb];exact hJ,by rw[zac,Qs (l₁:=bs++[c])];rfl,by rw[zad nub];exact jv,λb hb=>?_,oC,by rw[eB,eM,List.reverse_append,Qu];rfl,k2.fr fbk⟩
   ·rw[eM,Qj,Zx];exact Ya _
   ·rcases Qd.mp hb with q | q
    ·exact hbs b q
    ·rw[Qb.mp q];exact cQ
end
end K21
end
section
namespace K21
open PySem L2 Wb PySem.W
abbrev sTold:Stmt:=top 43
structure KW(K:Nb)(he cp cr co cn ct c:Nd)(wd:Str):Prop where
 ex:ExI K c
 em:exmOne K (.ref c) (.ref he)=some true
 k1:kitOne K (.ref c) (.ref cp)=some (decide (wd = "place"))
 k2:kitOne K (.ref c) (.ref cr)=some (decide (wd = "ring"))
 k3:kitOne K (.ref c) (.ref co)=some false
 k4:kitOne K (.ref c) (.ref cn)=some false
 k5:kitOne K (.ref c) (.ref ct)=some false
 kv:kitOne K (.ref c) (.type "ValueError")=some true
 wo:wd = "place" ∨ wd = "ring"
def NoRg(cp cr c:Nd)(es:List Ent)(rt a b:Str):Prop :=
 (c=cp∧¬(rt∈es.map (·.1)∧a∈es.map (·.1)∧b∈es.map (·.1)))∨(c=cr∧(rt∈es.map (·.1)∧a∈es.map (·.1)∧b∈es.map (·.1))∧∀(ks:Nf) (par:Nn) (ds:Str→Nat),zaw (row (rsOf es)) rt ks par ds→¬(a∈ks∧b∈row (rsOf es) a∧par a≠some b∧par b≠some a))
structure Rg(es:List Ent)(rt a b:Str):Prop where
 h3:rt∈es.map (·.1)
 h4:a∈es.map (·.1)
 h5:b∈es.map (·.1)
 h6:∀(ks:Nf) (par:Nn) (ds:Str→Nat),zaw (row (rsOf es)) rt ks par ds→a∈ks∧b∈row (rsOf es) a∧par a≠some b∧par b≠some a
inductive IspTold(K:Nb)(C he cp cr co cn ct:Nd)(vs:List V)(H:Hp)(Q:VK):Prop
 | mk (x dx d:Nd) (es:List Ent) (rt a b:Str) (c:Nd) (wd:Str) (h0:vs=[.ref x,.str rt,.str a,.str b]) (h1:WAt H C x dx d es) (h2:WF es) (hk:KW K he cp cr co cn ct c wd)
  (h3:(Rg es rt a b∧∀ (l t:Nd) (ks:Nf) (par:Nn) (ds:Str→Nat) (D B:Nf) (H':Hp),zaw (row (rsOf es)) rt ks par ds→H' l=some (.lst ((zdg D B).map V.str))→H' t=some (.tup [.ref l,.int 0])→zbo par D a→zbo par B b→H l=none→H t=none→Keep [] H H'→Q (.ref t) H')
   ∨ (NoRg cp cr c es rt a b∧∀(l:Nd) (H':Hp),H' l=some (.lst [.str wd])→H l=none→Keep [] H H'→Q (.ref l) H')):IspTold K C he cp cr co cn ct vs H Q
def spTold(K:Nb)(C he cp cr co cn ct:Nd):Sp:=λvs H Q _=>IspTold K C he cp cr co cn ct vs H Q
def hOf:Stmt→List Stmt
 |.Try _ [.ExceptHandler _ _ b _] _ _ _=>b
 |_=>[]
def rOf:Option Stmt→Expr
 |some (.Return (some e) _)=>e
 |_=>.Name "" ⟨0,0,0,0⟩
abbrev csTo:Scope:=scOf (rOf (hOf (sAt sTold 0))[3]?)
def csTo_k:csTo.kind=.function:=by rfl
def csTo_c:∀y∈csTo.names,y.2≠.cell:=by decide +kernel
def csTo_n:∀y∈csTo.names,y.2=.local→csTo.names.lookup y.1=some .local:=by decide +kernel
def csTo_f:∀y∈csTo.names,y.2=.free→(zah sTold).names.lookup y.1=some .cell∨(zah sTold).names.lookup y.1=some .free:=by decide +kernel
def ndTo:(["_law_word", "_law_truth"]:List Str).Nodup:=by decide +kernel
section
variable{P:Nj}{w:Nk}{K:Nb}{mg:Ng}{base:Nm}{C he cp cr co cn ct:Nd}
def scTold:zan ["_law_web", "_law_root", "_law_one",qO, "_law_found", "e", "_law_some"] ["_law_web", "_law_root", "_law_one",qO] (zah sTold):=fsk
def ok_told(F:Fun K "_law_told" "_law_told" sTold f fd)(mE:mg "HueError" = some (.ref he))(mP:mg "NoPlace" = some (.ref cp))(mR:mg "NoRing" = some (.ref cr))(mO:mg "NotOne" = some (.ref co))(mN:mg "NoName" = some (.ref cn))(mT:mg "Twice" = some (.ref ct))(aZ:mg "isinstance" = none)(hve:mg "ValueError" = none)(FR:Fun K "ring_of" "ring_of" zf3 fr fdr)(bR:Binds K fdr ["web", "root", "one", "other"] [])(mRo:mg "ring_of" = some (.ref fr))(GR:FnOk P w K mg base CX0 3 fr fdr ["web", "root", "one", "other"] (spRingOf C))(GX:FnOk P w K mg base (CXr P w) 3 fr fdr ["web", "root", "one", "other"] (spRingX C cp cr)) :
  FnOk P w K mg base CX0 4 f fd ["_law_web", "_law_root", "_law_one",qO] (spTold K C he cp cr co cn ct):=by
 refine F.okL scTold (λcdv A outer s0 H vs Q E hr h=>?_)
 obtain⟨x,dx,d,es,rt,a,b,c,wd,rfl,wt,W,kw,hc⟩:=h
 refine⟨_,zae (ps_tryP (i:=5) (EX:=λ σ cls dd H'=>Aj4 (Ex1 λl=>σ=[some (.ref x),some (.str rt),some (.str a),some (.str b),l,none,none]) (cls=.ref c) (∀(l:Nd) (H':Hp),H' l=some (.lst [.str wd])→H l=none→Keep [] H H'→Q (.ref l) H') (Keep [] H H')) rfl rfl rfl
   (λE' pn hp=>zag (zar 4 scTold.nd (pe_callS (GR.toX.or GX) hr rfl mRo FR.kp bR .nil hp (zaa (pv 0) (zaa (pv 1) (zaa (pv 2) (zaa (pv 3) zaf)))))))
   (fun e o L=>zae (zar 6 scTold.nd (za7 (zaa (zce (zaa zbu (zaa (zaj (zca (a:=e) (ob:=o) (K:=K) rfl Qe) (by rfl) aZ Zv (zaa (pv 5) (zaa (ze0 (v:=.ref cp) (by rfl) mP rfl) zaf))) zaf)))
    (zaa (zce (zaa zbu (zaa (zaj (zca (a:=e) (ob:=o) (K:=K) rfl Qe) (by rfl) aZ Zv (zaa (pv 5) (zaa (ze0 (v:=.ref cr) (by rfl) mR rfl) zaf))) zaf)))
    (zaa (zce (zaa zbu (zaa (zaj (zca (a:=e) (ob:=o) (K:=K) rfl Qe) (by rfl) aZ Zv (zaa (pv 5) (zaa (ze0 (v:=.ref co) (by rfl) mO rfl) zaf))) zaf))) zaf)))))
    (zae (zar 6 scTold.nd (zas zda (pv 6) (za7 (zaa (zce (zaa zbu (zaa (zaj (zca (a:=e) (ob:=o) (K:=K) rfl Qe) (by rfl) aZ Zv (zaa (pv 5) (zaa (ze0 (v:=.ref cn) (by rfl) mN rfl) zaf))) zaf)))
     (zaa (zce (zaa zbu (zaa (zaj (zca (a:=e) (ob:=o) (K:=K) rfl Qe) (by rfl) aZ Zv (zaa (pv 5) (zaa (ze0 (v:=.ref ct) (by rfl) mT rfl) zaf))) zaf))) zaf)))))
    (zae (zay (zb7 Qx Zm Zl za4 (pv 6) (zaa (zce (zaa zbu (zaa (pe_not (zaj (zca (a:=e) (ob:=o) (K:=K) rfl Qe) (by rfl) aZ Zv (zaa (pv 5) (zaa (pe_tyN (T := "ValueError") rfl hve PyProof.Rows.Boot.«ValueError») zaf)))) zaf))) zaf)))
    (zag (za3 (pe_lcU (M:=["_law_word", "_law_truth"]) (ix:=[none,none]) ⟨csTo_k,csTo_c,csTo_n,csTo_f,rfl,ndTo,fun j i x h1 h2=>by
     match j,h1,h2 with
     |0,_,h2=>cases h2
     |1,_,h2=>cases h2
     |n+2,h1,_=>cases h1⟩ (zg2 L) (pi_listU (K:=K) rfl (pv 6)) (λC a6 ex s H=>pg_tupU (K:=K) (n:=2) rfl (by exact under_blk (zg2 L)) (zba (zbe 0 ndTo) (zba (zbe 1 ndTo) zc4)))
     (λC a6 ex s H=>zh1 (zdv (pv 1))) (λC a6 ex s H=>pv 0)))))))
   scTold.nd rfl rfl rfl mE)
  (zag (za3 (zce (zaa (pv 4) (zaa zai zaf))))),?_⟩
 refine⟨⟨_,rfl,_,rfl,_,rfl,_,rfl,?_⟩,?_⟩
 ·rcases hc with ⟨g,q⟩ | ⟨g,q⟩
  ·refine .inl ⟨x,dx,d,es,rt,a,b,rfl,wt,W,g.h3,g.h4,g.h5,g.h6,fun l ks par ds D B H1 T hl wD wB fl k1=>⟨_,rfl,by show 2≤sizeLine;decide,fun t ht=>?_⟩⟩
   have nlt:l≠t:=zab hl ht
   exact q l t ks par ds D B _ T (by rw[zad nlt];exact hl) zac wD wB fl (zap k1 ht (by simp)) (k1.trans (Keep.new ht))
  ·refine .inr ⟨x,dx,d,es,rt,a,b,rfl,wt,W,?_⟩
   rcases g with⟨rfl,n⟩ | ⟨rfl,y,n⟩
   ·exact .inl ⟨n,λH' k=>⟨⟨_,rfl⟩,rfl,q,k⟩⟩
   ·exact .inr ⟨y,n,λH' k=>⟨⟨_,rfl⟩,rfl,q,k⟩⟩
 ·rintro σ' H1 e o hl ⟨⟨l,rfl⟩,cA,q,k1⟩ na
  have two:2≤sizeLine:=by decide
  refine⟨by rw[cA];exact kw.em,?_⟩
  refine⟨_,rfl,c,.ref cp,.ref cp,_,rfl,cA,kw.ex,λ_ h=>h,kw.k1,two,λt1 f1=>?_⟩
  have k2:Keep [] H (upd H1 t1 (.tup [.str "place",.bl (decide (wd = "place"))])):=k1.trans (Keep.new f1)
  have g1:(upd H1 t1 (.tup [.str "place",.bl (decide (wd = "place"))])) t1=some (.tup [.str "place",.bl (decide (wd = "place"))]):=zac
  generalize upd H1 t1 (.tup [.str "place",.bl (decide (wd = "place"))])=H2 at k2 g1  ⊢
  refine⟨_,rfl,c,.ref cr,.ref cr,_,rfl,cA,kw.ex,λ_ h=>h,kw.k2,two,λt2 f2=>?_⟩
  have k3:Keep [] H (upd H2 t2 (.tup [.str "ring",.bl (decide (wd = "ring"))])):=k2.trans (Keep.new f2)
  have g2:(upd H2 t2 (.tup [.str "ring",.bl (decide (wd = "ring"))])) t2=some (.tup [.str "ring",.bl (decide (wd = "ring"))]):=zac
  have g1:=(zad (o:=.tup [.str "ring",.bl (decide (wd = "ring"))]) (H:=H2) (zab g1 f2)).trans g1
  generalize upd H2 t2 (.tup [.str "ring",.bl (decide (wd = "ring"))])=H3 at k3 g2 g1 ⊢
  refine⟨_,rfl,c,.ref co,.ref co,_,rfl,cA,kw.ex,λ_ h=>h,kw.k3,two,λt3 f3=>?_⟩
  have k4:Keep [] H (upd H3 t3 (.tup [.str "one",.bl false])):=k3.trans (Keep.new f3)
  have g3:(upd H3 t3 (.tup [.str "one",.bl false])) t3=some (.tup [.str "one",.bl false]):=zac
  have g1:=(zad (o:=.tup [.str "one",.bl false]) (H:=H3) (zab g1 f3)).trans g1
  have g2:=(zad (o:=.tup [.str "one",.bl false]) (H:=H3) (zab g2 f3)).trans g2
  generalize upd H3 t3 (.tup [.str "one",.bl false])=H4 at k4 g3 g1 g2 ⊢
  refine⟨(by show 3≤sizeLine;decide),λu zu=>?_⟩
  have k5:Keep [] H (upd H4 u (.lst [.ref t1,.ref t2,.ref t3])):=k4.trans (Keep.new zu)
  have hu:(upd H4 u (.lst [.ref t1,.ref t2,.ref t3])) u=some (.lst [.ref t1,.ref t2,.ref t3]):=zac
  have g1:=(zad (o:=.lst [.ref t1,.ref t2,.ref t3]) (H:=H4) (zab g1 zu)).trans g1
  have g2:=(zad (o:=.lst [.ref t1,.ref t2,.ref t3]) (H:=H4) (zab g2 zu)).trans g2
  have g3:=(zad (o:=.lst [.ref t1,.ref t2,.ref t3]) (H:=H4) (zab g3 zu)).trans g3
  generalize upd H4 u (.lst [.ref t1,.ref t2,.ref t3])=H5 at k5 hu g1 g2 g3 ⊢
  refine⟨_,rfl,?_⟩
  refine⟨_,rfl,c,.ref cn,.ref cn,_,rfl,cA,kw.ex,λ_ h=>h,kw.k4,two,λt4 f4=>?_⟩
  have k6:Keep [] H (upd H5 t4 (.tup [.str "name",.bl false])):=k5.trans (Keep.new f4)
  have g4:(upd H5 t4 (.tup [.str "name",.bl false])) t4=some (.tup [.str "name",.bl false]):=zac
  have g1:=(zad (o:=.tup [.str "name",.bl false]) (H:=H5) (zab g1 f4)).trans g1
  have g2:=(zad (o:=.tup [.str "name",.bl false]) (H:=H5) (zab g2 f4)).trans g2
  have g3:=(zad (o:=.tup [.str "name",.bl false]) (H:=H5) (zab g3 f4)).trans g3
  have hu:=(zad (o:=.tup [.str "name",.bl false]) (H:=H5) (zab hu f4)).trans hu
  generalize upd H5 t4 (.tup [.str "name",.bl false])=H6 at k6 g4 g1 g2 g3 hu ⊢
  refine⟨_,rfl,c,.ref ct,.ref ct,_,rfl,cA,kw.ex,λ_ h=>h,kw.k5,two,λt5 f5=>?_⟩
  have k7:Keep [] H (upd H6 t5 (.tup [.str "twice",.bl false])):=k6.trans (Keep.new f5)
  have g5:(upd H6 t5 (.tup [.str "twice",.bl false])) t5=some (.tup [.str "twice",.bl false]):=zac
  have g1:=(zad (o:=.tup [.str "twice",.bl false]) (H:=H6) (zab g1 f5)).trans g1
  have g2:=(zad (o:=.tup [.str "twice",.bl false]) (H:=H6) (zab g2 f5)).trans g2
  have g3:=(zad (o:=.tup [.str "twice",.bl false]) (H:=H6) (zab g3 f5)).trans g3
  have hu:=(zad (o:=.tup [.str "twice",.bl false]) (H:=H6) (zab hu f5)).trans hu
  have g4:=(zad (o:=.tup [.str "twice",.bl false]) (H:=H6) (zab g4 f5)).trans g4
  generalize upd H6 t5 (.tup [.str "twice",.bl false])=H7 at k7 g5 g1 g2 g3 hu g4 ⊢
  refine⟨two,λv zv=>?_⟩
  have k8:Keep [] H (upd H7 v (.lst [.ref t4,.ref t5])):=k7.trans (Keep.new zv)
  have hv:(upd H7 v (.lst [.ref t4,.ref t5])) v=some (.lst [.ref t4,.ref t5]):=zac
  have g1:=(zad (o:=.lst [.ref t4,.ref t5]) (H:=H7) (zab g1 zv)).trans g1
  have g2:=(zad (o:=.lst [.ref t4,.ref t5]) (H:=H7) (zab g2 zv)).trans g2
  have g3:=(zad (o:=.lst [.ref t4,.ref t5]) (H:=H7) (zab g3 zv)).trans g3
  have hu:=(zad (o:=.lst [.ref t4,.ref t5]) (H:=H7) (zab hu zv)).trans hu
  have g4:=(zad (o:=.lst [.ref t4,.ref t5]) (H:=H7) (zab g4 zv)).trans g4
  have g5:=(zad (o:=.lst [.ref t4,.ref t5]) (H:=H7) (zab g5 zv)).trans g5
  generalize upd H7 v (.lst [.ref t4,.ref t5])=H8 at k8 hv g1 g2 g3 hu g4 g5 ⊢
  refine⟨u,v,_,_,rfl,rfl,hu,hv,(by show 5≤sizeLine;decide),λy zy=>?_⟩
  have fy:H y=none:=zap k8 zy (by simp)
  have k9:Keep [] H (upd H8 y (.lst ([.ref t1,.ref t2,.ref t3]++[.ref t4,.ref t5]))):=k8.trans (Keep.new zy)
  have hy:(upd H8 y (.lst ([.ref t1,.ref t2,.ref t3]++[.ref t4,.ref t5]))) y=some (.lst [.ref t1,.ref t2,.ref t3,.ref t4,.ref t5]):=zac
  have g1:=(zad (o:=.lst ([.ref t1,.ref t2,.ref t3]++[.ref t4,.ref t5])) (H:=H8) (zab g1 zy)).trans g1
  have g2:=(zad (o:=.lst ([.ref t1,.ref t2,.ref t3]++[.ref t4,.ref t5])) (H:=H8) (zab g2 zy)).trans g2
  have g3:=(zad (o:=.lst ([.ref t1,.ref t2,.ref t3]++[.ref t4,.ref t5])) (H:=H8) (zab g3 zy)).trans g3
  have g4:=(zad (o:=.lst ([.ref t1,.ref t2,.ref t3]++[.ref t4,.ref t5])) (H:=H8) (zab g4 zy)).trans g4
  have g5:=(zad (o:=.lst ([.ref t1,.ref t2,.ref t3]++[.ref t4,.ref t5])) (H:=H8) (zab g5 zy)).trans g5
  generalize upd H8 y (.lst ([.ref t1,.ref t2,.ref t3]++[.ref t4,.ref t5]))=H9 at k9 hy g1 g2 g3 g4 g5 ⊢
  refine⟨_,rfl,.inl ⟨rfl,_,SqL.of hy⟩,_,rfl,c,.ty "ValueError",.type "ValueError",_,rfl,cA,kw.ex,λ_ h=>h,kw.kv,_,rfl,two,λt6 f6=>?_⟩
  have cU:Keep [] H (upd H9 t6 (.tup [.str "odd",.bl (!true)])):=k9.trans (Keep.new f6)
  have g6:(upd H9 t6 (.tup [.str "odd",.bl (!true)])) t6=some (.tup [.str "odd",.bl false]):=zac
  have g1:=(zad (o:=.tup [.str "odd",.bl (!true)]) (H:=H9) (zab g1 f6)).trans g1
  have g2:=(zad (o:=.tup [.str "odd",.bl (!true)]) (H:=H9) (zab g2 f6)).trans g2
  have g3:=(zad (o:=.tup [.str "odd",.bl (!true)]) (H:=H9) (zab g3 f6)).trans g3
  have g4:=(zad (o:=.tup [.str "odd",.bl (!true)]) (H:=H9) (zab g4 f6)).trans g4
  have g5:=(zad (o:=.tup [.str "odd",.bl (!true)]) (H:=H9) (zab g5 f6)).trans g5
  have hy:=(zad (o:=.tup [.str "odd",.bl (!true)]) (H:=H9) (zab hy f6)).trans hy
  refine⟨y,_,.ref t6,rfl,rfl,hy,(by show 5<sizeLine;decide),?_⟩
  generalize upd H9 t6 (.tup [.str "odd",.bl (!true)])=cC at cU g6 g1 g2 g3 g4 g5 hy ⊢
  have n1:t1≠y:=λz=>by rw[z,hy]at g1;cases g1
  have n2:t2≠y:=λz=>by rw[z,hy]at g2;cases g2
  have n3:t3≠y:=λz=>by rw[z,hy]at g3;cases g3
  have n4:t4≠y:=λz=>by rw[z,hy]at g4;cases g4
  have n5:t5≠y:=λz=>by rw[z,hy]at g5;cases g5
  have n6:t6≠y:=λz=>by rw[z,hy]at g6;cases g6
  refine⟨_,rfl,y,rfl,⟨_,SqL.of zac⟩,lc_words (as:=[t1,t2,t3,t4,t5,t6]) (ps:=[("place",decide (wd = "place")),("ring",decide (wd = "ring")),("one",false),("name",false),("twice",false),("odd",false)]) (λ τ=>∃x0 x1,τ=[x0,x1]) (SqL.of zac) ?_ (by show 6≤sizeLine;decide) ⟨none,none,rfl⟩ ?_ λD hD=>?_⟩
  ·exact .cons ((zad n1).trans g1) (.cons ((zad n2).trans g2) (.cons ((zad n3).trans g3) (.cons ((zad n4).trans g4) (.cons ((zad n5).trans g5) (.cons ((zad n6).trans g6) .nil)))))
  ·rintro b w t hb τ ⟨x0,x1,rfl⟩ kk1 kk0 h1 h0
   refine⟨b,_,rfl,SqT.of hb,rfl,_,_,rfl,_,_,rfl,rfl,_,rfl,?_⟩
   cases t with
   |true=>exact⟨_,rfl,iteT ⟨_,rfl,h1 rfl _ ⟨_,_,rfl⟩⟩⟩
   |false=>exact⟨_,rfl,iteF (h0 rfl _ ⟨_,_,rfl⟩)⟩
  ·have dw:Keep [] H (upd cC y (.lst ([.ref t1,.ref t2,.ref t3,.ref t4,.ref t5]++[.ref t6]))):=((cU.sub (ys:=[y]) (by simp)).trans (Keep.wr (by simp))).cut fy
   have e:([("place",decide (wd = "place")),("ring",decide (wd = "ring")),("one",false),("name",false),("twice",false),("odd",false)]:List (Str×Bool)).filter (·.2)=[(wd,true)]:=by
    rcases kw.wo with rfl | rfl<;>decide +kernel
   rw[e]
   exact q D _ zac (zap dw hD (by simp)) (dw.trans (Keep.new hD))
end
abbrev sDue:Stmt:=top 42
def All3(es:List Ent)(rt a b:Str):Prop:=rt∈es.map (·.1)∧a∈es.map (·.1)∧b∈es.map (·.1)
def Cnd(es:List Ent)(ks:Nf)(par:Nn)(a b:Str):Prop:=a∈ks∧b∈row (rsOf es) a∧par a≠some b∧par b≠some a
inductive IspDue(vs:List V)(H:Hp)(Q:VK):Prop
 |mk (d:Nd) (es:List Ent) (rt a b:Str) (h0:vs=[.ref d,.str rt,.str a,.str b]) (h1:RF H d es) (h2:WF es)
  (h3:¬All3 es rt a b→∀(l:Nd) (H':Hp),H' l=some (.lst [.str "place"])→H l=none→Keep [] H H'→Q (.ref l) H')
  (h4:All3 es rt a b→∀(ks:Nf) (par:Nn) (ds:Str→Nat),zaw (row (rsOf es)) rt ks par ds→¬Cnd es ks par a b→∀(l:Nd) (H':Hp),H' l=some (.lst [.str "ring"])→H l=none→Keep [] H H'→Q (.ref l) H')
  (h5:All3 es rt a b→∀(ks:Nf) (par:Nn) (ds:Str→Nat),zaw (row (rsOf es)) rt ks par ds→ks.length≤100→Cnd es ks par a b→∀(u t:Nd) (H':Hp),H' u=some (.dK (dof ks (parV par)))→H' t=some (.tup [.ref u,.str a,.str b])→H u=none→H t=none→Keep [] H H'→Q (.ref t) H'):IspDue vs H Q
def spDue:Sp:=λvs H Q _=>IspDue vs H Q
def eq1{par:Nn}{y z:Str}{H:Hp}{Q:VK}(q:Q (.bl (decide (par y=some z))) H):rEq (parV par y) (.str z) H Q:=by
 unfold parV
 cases hp:par y with
 |none=>rw[hp,decide_eq_false (by simp)]at q;exact⟨rfl,q⟩
 | some p =>
  refine⟨rfl,?_⟩
  rw[hp]at q
  by_cases e:p=z
  ·subst e
   rw[decide_eq_true rfl]at q
   rw[decide_eq_true rfl];exact q
  ·rw [decide_eq_false (by simpa using e)] at q
   rw[decide_eq_false (by simpa using e)];exact q
def RF.out{d:Nd}(R:RF H d es)(h:a∉es.map (·.1)):DGet H d (.str a) none:=.inl ⟨_,Sum.inr a,R.dc,rfl,(zfx h).symm⟩
def RF.inn{d:Nd}(R:RF H d es)(h:a∈es.map (·.1)):∃e∈es,e.1=a∧DGet H d (.str a) (some (.ref e.2.2)):=by
 obtain⟨e,he,ea⟩:=Qm.mp h
 have oj:e.1=a:=ea
 subst oj
 exact⟨e,he,rfl,R.get he⟩
section
variable{P:Nj}{w:Nk}{K:Nb}{mg:Ng}{base:Nm}
def scDue:zan [qR, "_law_root", "_law_one",qO, "_law_parents_here"] [qR, "_law_root", "_law_one",qO] (zah sDue):=fsk
def ok_due(F:Fun K "_law_due" "_law_due" sDue f fd)(FP:Fun K "_law_parents" "_law_parents" zfr fp fdp)(bP:Binds K fdp [qR, "_law_root"] [])(mP:mg "_law_parents" = some (.ref fp))(GP:FnOk P w K mg base CX0 1 fp fdp [qR, "_law_root"] spParents):FnOk P w K mg base CX0 2 f fd [qR, "_law_root", "_law_one",qO] spDue:=by
 refine F.okL scDue (λcdv A outer s H vs Q E hr h=>?_)
 obtain⟨d,es,rt,a,b,rfl,R,W,q1,q2,q3⟩:=h
 have hu:=zb4 hr
 have aE:=sizeLine_eq
 refine⟨_,zae (zb1 (PW.pt (zf5 (zb8 (zaz hu (pv 1) (pv 0))) (zf5 (zb8 (zaz hu (pv 2) (pv 0))) (zf4 (zb8 (zaz hu (pv 3) (pv 0))))))) (zag (za3 (za7 (zaa zbu zaf)))) zax)
  (zae (zar 4 scDue.nd (zak GP hr rfl mP FP.kp bP .nil zau (zaa (pv 0) (zaa (pv 1) zaf))))
  (zae (zb1 (PW.pt (zf5 (zb8 (zaz hu (pv 2) (pv 4))) (zf5 (za2 zct (pv 3) (zd2 hu (pv 0) (pv 2)) rfl) (zf5 (za2 op_eq (zd2 hu (pv 4) (pv 2)) (pv 3) (zbt _)) (zf4 (za2 op_eq (zd2 hu (pv 4) (pv 3)) (pv 2) (zbt _))))))) (zag (za3 (za7 (zaa zbu zaf)))) zax)
  (zag (za3 (zce (zaa (pv 4) (zaa (pv 2) (zaa (pv 3) zaf)))))))),?_⟩
 have one:1≤sizeLine:=by decide
 have end1:¬All3 es rt a b→∀l,H l=none→Q (.ref l) (upd H l (.lst [.str "place"])):=λn l hl=>q1 n l _ zac hl (Keep.new hl)
 by_cases g1:rt∈es.map (·.1)
 rotate_left
 ·exact⟨_,rfl,_,rfl,d,_,rfl,R.out g1,_,rfl,zbk rfl (iteT ⟨one,end1 λz=>g1 z.1⟩)⟩
 obtain⟨er,_,_,G1⟩:=R.inn g1
 refine⟨_,rfl,_,rfl,d,_,rfl,G1,_,rfl,za9 rfl ?_⟩
 by_cases g2:a∈es.map (·.1)
 rotate_left
 ·exact⟨_,rfl,_,rfl,d,_,rfl,R.out g2,_,rfl,zbk rfl (iteT ⟨one,end1 λz=>g2 z.2.1⟩)⟩
 obtain⟨ea,tf,eea,G2⟩:=R.inn g2
 refine⟨_,rfl,_,rfl,d,_,rfl,G2,_,rfl,za9 rfl ?_⟩
 by_cases g3:b∈es.map (·.1)
 rotate_left
 ·exact⟨_,rfl,_,rfl,d,_,rfl,R.out g3,_,rfl,zbk rfl ⟨one,end1 λz=>g3 z.2.2⟩⟩
 obtain⟨eb,_,_,G3⟩:=R.inn g3
 refine⟨_,rfl,_,rfl,d,_,rfl,G3,_,rfl,za9 rfl ?_⟩
 have A3:All3 es rt a b:=⟨g1,g2,g3⟩
 refine⟨_,rfl,_,rfl,d,es,rt,rfl,R,W,g1,λu ks par ds H1 hU T nd aI fu k1=>?_⟩
 have aY:ks.length≤100:=by
  have:=zbj nd aI
  rw[Qa]at this
  have:=W.few
  omega
 have R1:=R.keep k1
 have end2:¬Cnd es ks par a b→∀l,H1 l=none→Q (.ref l) (upd H1 l (.lst [.str "ring"])):=λn l hl=>q2 A3 ks par ds T n l _ zac (zap k1 hl (by simp)) (k1.trans (Keep.new hl))
 have ai:row (rsOf es) a=ea.2.1:=by rw[←eea];exact zcn R.nd tf
 have g:=DGet.k (k:=Sum.inr a) hU
 by_cases c1:a∈ks
 rotate_left
 ·rw [ze5 c1] at g
  exact⟨_,rfl,_,rfl,u,_,rfl,g,_,rfl,zbk rfl (iteT ⟨one,end2 λz=>c1 z.1⟩)⟩
 rw[zdk c1]at g
 refine⟨_,rfl,_,rfl,u,_,rfl,g,_,rfl,za9 rfl ?_⟩
 have ga:=R1.get tf
 rw[eea]at ga
 refine⟨_,rfl,_,rfl,_,rfl,d,_,rfl,ga,ea.2.2,_,rfl,.inl (SqL.of (R1.ro ea tf)),rfl,zcg _,_,rfl,?_⟩
 rw[zd6]
 by_cases c2:b∈ea.2.1
 rotate_left
 ·rw [decide_eq_false c2]
  exact zbk rfl (iteT ⟨one,end2 λz=>c2 (by rw[←ai];exact z.2.1)⟩)
 rw[decide_eq_true c2]
 refine za9 rfl ?_
 have oq:b∈row (rsOf es) a:=by rw[ai];exact c2
 have c3:b∈ks:=(T.on a c1 b oq).1
 have gb:=DGet.k (k:=Sum.inr b) hU
 rw[zdk c3]at gb
 refine⟨_,rfl,_,rfl,u,_,rfl,g,_,rfl,eq1 ⟨_,rfl,?_⟩⟩
 by_cases c4:par a=some b
 ·rw [decide_eq_true c4]
  exact iteT (iteT ⟨one,end2 λz=>z.2.2.1 c4⟩)
 rw[decide_eq_false c4]
 refine iteF ⟨_,rfl,_,rfl,u,_,rfl,gb,_,rfl,eq1 ⟨_,rfl,?_⟩⟩
 by_cases c5:par b=some a
 ·rw [decide_eq_true c5]
  exact iteT ⟨one,end2 λz=>z.2.2.2 c5⟩
 rw[decide_eq_false c5]
 refine iteF ⟨_,rfl,_,rfl,_,rfl,(by show 3≤sizeLine;decide),λt ht=>?_⟩
 exact q3 A3 ks par ds T aY ⟨c1,oq,c4,c5⟩ u t _ (by rw[zad (zab hU ht)];exact hU) zac fu (zap k1 ht (by simp)) (k1.trans (Keep.new ht))
end
abbrev sRight:Stmt:=top 44
inductive IspRight(C:Nd)(vs:List V)(H:Hp)(Q:VK):Prop
 |mk (x dx dd d:Nd) (ts es:List Ent) (rt a b:Str) (h0:vs=[.ref x,.ref d,.str rt,.str a,.str b]) (h1:WAt H C x dx dd ts) (h2:RF H d es) (h3:WF es) (h4:WF ts) (h5:∀a b,b∈row (rsOf es) a↔b∈row (rsOf ts) a) (h6:∀y,y∈es.map (·.1)↔y∈ts.map (·.1))
  (h8:∀H',Keep [] H H'→Q (.bl true) H'):IspRight C vs H Q
def spRight(C:Nd):Sp:=λvs H Q _=>IspRight C vs H Q
section
variable{P:Nj}{w:Nk}{K:Nb}{mg:Ng}{base:Nm}{C he cp cr co cn ct:Nd}
def cnd_one{es ts:List Ent}{rt a b:Str}{ks de:Nf}{par ao:Nn}{ds cB:Str→Nat}(sy:∀x y,y∈row (rsOf es) x→x∈row (rsOf es) y)(hr:∀a b,b∈row (rsOf es) a↔b∈row (rsOf ts) a)(T:zaw (row (rsOf es)) rt ks par ds)(T':zaw (row (rsOf ts)) rt de ao cB)(c:Cnd es ks par a b):Cnd ts de ao a b:=by
 obtain⟨c1,c2,c3,c4⟩:=c
 have hb:=(T.on a c1 b c2).1
 obtain⟨a1,_,a3⟩:=zaw.one hr sy T T' a c1
 obtain⟨b1,_,b3⟩:=zaw.one hr sy T T' b hb
 exact⟨a1,(hr a b).mp c2,by rw[←a3];exact c3,by rw[←b3];exact c4⟩
def zf0:zan ["_law_web",qR, "_law_root", "_law_one",qO, "_law_due_here", "_law_ring_here", "_law_k", "_law_found"] ["_law_web",qR, "_law_root", "_law_one",qO] (zah sRight):=fsk
def ok_right(F:Fun K "_law_right" "_law_right" sRight f fd)(aZ:mg "isinstance" = none)(aV:mg "list" = none)(jw:mg "tuple" = none)(aQ:mg "range" = none)(kp:KW K he cp cr co cn ct cp "place")(kr:KW K he cp cr co cn ct cr "ring")(FD:Fun K "_law_due" "_law_due" sDue fe fde)(bD:Binds K fde [qR, "_law_root", "_law_one",qO] [])(mD:mg "_law_due" = some (.ref fe))(GD:FnOk P w K mg base CX0 2 fe fde [qR, "_law_root", "_law_one",qO] spDue)(FT:Fun K "_law_told" "_law_told" sTold ft fdt)(bT:Binds K fdt ["_law_web", "_law_root", "_law_one",qO] [])(mT:mg "_law_told" = some (.ref ft))(GT:FnOk P w K mg base CX0 4 ft fdt ["_law_web", "_law_root", "_law_one",qO] (spTold K C he cp cr co cn ct))(FR:Fun K "_law_ring" "_law_ring" sLRing fr fdr)(bR:Binds K fdr ["_law_parents_here", "_law_one",qO] [])(mR:mg "_law_ring" = some (.ref fr))(GR:FnOk P w K mg base CX0 1 fr fdr ["_law_parents_here", "_law_one",qO] spLRing) :
  FnOk P w K mg base CX0 5 f fd ["_law_web",qR, "_law_root", "_law_one",qO] (spRight C):=by
 refine F.okL zf0 (λcdv A outer s H vs Q E hr h=>?_)
 obtain⟨x,dx,dd,d,ts,es,rt,a,b,rfl,wt,R,W,Wt,eO,ic,k⟩:=h
 have hu:=zb4 hr
 have bV:=Ko hu
 have aT:Room 1 _:=hr.mono (by decide)
 have dB:Room 2 _:=hr.mono (by decide)
 have aE:=sizeLine_eq
 refine⟨_,zae (zar 5 zf0.nd (zak GD dB rfl mD FD.kp bD .nil zau (zaa (pv 1) (zaa (pv 2) (zaa (pv 3) (zaa (pv 4) zaf))))))
  (zae (zb1 (zdv (zaj (zes.or call_isi_tl) (by rfl) aZ Zv (zaa (pv 5) (zaa (pe_tyN (T := "list") rfl aV Uw) zaf))))
   (zag (za3 (zh5 (op_eq_lists bV) (zak GT hr rfl mT FT.kp bT .nil zau (zaa (pv 0) (zaa (pv 2) (zaa (pv 3) (zaa (pv 4) zaf))))) (pv 5) (zbt _)))) zax)
  (zae (zar 6 zf0.nd (zak GR aT rfl mR FR.kp bR .nil zau (zaa (za0 zdj (pv 5) zai (λ_ _=>rfl)) (zaa (za0 zdj (pv 5) zai (λ_ _=>rfl)) (zaa (za0 zdj (pv 5) zai (λ_ _=>rfl)) zaf)))))
  (zae (zbg Zd rfl (zcd rfl aQ (zaa zai zaf)) (zbe 7 zf0.nd)
   (zae (zar 8 zf0.nd (zak GT hr rfl mT FT.kp bT .nil zau (zaa (pv 0) (zaa (pv 2) (zaa (pv 3) (zaa (pv 4) zaf))))))
   (zae (zb1 (PW.pt (zf5 (zej (zdv (zaj call_isi_tt (by rfl) aZ Zv (zaa (pv 8) (zaa (pe_tyN (T := "tuple") rfl jw PyProof.Rows.boot_tuple) zaf))))) (zf5 (zej (zdv (zaj zes (by rfl) aZ Zv (zaa (za0 zdj (pv 8) zai (λ_ _=>rfl)) (zaa (pe_tyN (T := "list") rfl aV Uw) zaf))))) (zf4 (za2 (op_ne_lists bV) (za0 zdj (pv 8) zai (λ_ _=>rfl)) (pv 6) (zbt _)))))) (zag zf6) zax)
   (zag (zay (zb7 Qx Zm Zl za4 (za0 zdj (pv 8) zai (λ_ _=>rfl)) (zaa (pv 2) zaf)))))))
  (zag (za3 pe_bl))))),?_⟩
 refine⟨_,rfl,_,rfl,_,rfl,_,rfl,d,es,rt,a,b,rfl,R,W,?_,?_,?_⟩
 ·intro n l H1 hl fl k1
  have aW:WAt H1 C x dx dd ts:=wt.keep k1 (by simp) (by simp) λ_ _=>by simp
  have n':¬All3 ts rt a b:=λz=>n ⟨(ic _).mpr z.1,(ic _).mpr z.2.1,(ic _).mpr z.2.2⟩
  refine⟨_,rfl,.inl ⟨l,_,rfl,SqL.of hl,true,rfl,iteT ⟨_,rfl,_,rfl,_,rfl,_,rfl,x,dx,dd,ts,rt,a,b,cp, "place",rfl,aW,Wt,kp,.inr ⟨.inl ⟨rfl,n'⟩,λl2 H2 h2 _ k2=>?_⟩⟩⟩⟩
  exact⟨_,rfl,l2,l,["place"],rfl,rfl,SqL.of h2,SqL.of (k2 _ _ hl (by simp)),k _ (k1.trans k2)⟩
 ·intro A3 ks par ds T n l H1 hl fl k1
  have aW:WAt H1 C x dx dd ts:=wt.keep k1 (by simp) (by simp) λ_ _=>by simp
  have oB:All3 ts rt a b:=⟨(ic _).mp A3.1,(ic _).mp A3.2.1,(ic _).mp A3.2.2⟩
  refine⟨_,rfl,.inl ⟨l,_,rfl,SqL.of hl,true,rfl,iteT ⟨_,rfl,_,rfl,_,rfl,_,rfl,x,dx,dd,ts,rt,a,b,cr, "ring",rfl,aW,Wt,kr,.inr ⟨.inr ⟨rfl,oB,λde ao cB T' z=>n (cnd_one Wt.sy (λa b=>(eO a b).symm) T' T z)⟩,λl2 H2 h2 _ k2=>?_⟩⟩⟩⟩
  exact⟨_,rfl,l2,l,["ring"],rfl,rfl,SqL.of h2,SqL.of (k2 _ _ hl (by simp)),k _ (k1.trans k2)⟩
 ·intro A3 ks par ds T aY cnd u t H1 hU ht fu ft' k1
  have oB:All3 ts rt a b:=⟨(ic _).mp A3.1,(ic _).mp A3.2.1,(ic _).mp A3.2.2⟩
  have hb:=(T.on a cnd.1 b cnd.2.1).1
  refine⟨_,rfl,.inr ⟨t,_,rfl,ht,false,rfl,iteF ?_⟩⟩
  refine⟨_,rfl,t,_,_,_,rfl,rfl,SqT.of ht,rfl,_,rfl,t,_,_,_,rfl,rfl,SqT.of ht,rfl,_,rfl,t,_,_,_,rfl,rfl,SqT.of ht,rfl,u,_,rt,ks,par,ds,a,b,rfl,hU,T,cnd.1,hb,aY,λl D B H2 hl wD wB fl k2=>?_⟩
  have oK:=k1.trans k2
  have bH:(zdg D B).length≤200:=by
   have h1:D.length≤ks.length:=zbj (T.chn wD cnd.1).2 λy hy=>(T.pre wD cnd.1 y hy).1
   have h2:B.length≤ks.length:=zbj (T.chn wB hb).2 λy hy=>(T.pre wB hb y hy).1
   unfold zdg
   rw[Qj,Yv,Us,Yv]
   omega
  refine⟨(2:Int),rfl,by decide,by omega,?_⟩
  refine zcf (lo:=0) (λi σ H'=>Aj3 (Ex2 λx7 x8=>σ=[some (.ref x),some (.ref d),some (.str rt),some (.str a),some (.str b),some (.ref t),some (.ref l),x7,x8]) (H' l=some (.lst ((zdg D B).map V.str))) (Keep [] H H'))
   ⟨⟨_,_,rfl⟩,hl,oK⟩ ?_ ?_
  ·rintro i σ H3 hi ⟨⟨x7,x8,rfl⟩,il,k3⟩
   have wt3:WAt H3 C x dx dd ts:=wt.keep k3 (by simp) (by simp) λ_ _=>by simp
   refine⟨_,rfl,_,rfl,_,rfl,_,rfl,x,dx,dd,ts,rt,a,b,cp, "place",rfl,wt3,Wt,kp,.inl ⟨⟨oB.1,oB.2.1,oB.2.2,λde ao cB T'=>cnd_one W.sy eO T T' cnd⟩,λl2 t2 ks2 par2 ds2 D2 B2 H4 T2 aq fk wD2 wB2 pG ft2 k4=>?_⟩⟩
   have eD:D=D2:=(zbo.turn T (λy hy=>(zaw.one eO W.sy T T2 y hy).2.2) wD cnd.1).one wD2
   have eB:B=B2:=(zbo.turn T (λy hy=>(zaw.one eO W.sy T T2 y hy).2.2) wB hb).one wB2
   subst eD eB
   have iO:=k4 _ _ il (by simp)
   refine⟨_,rfl,t2,_,rfl,fk,true,rfl,za9 rfl ⟨_,rfl,t2,_,_,_,rfl,rfl,SqT.of fk,rfl,l2,_,rfl,SqL.of aq,true,rfl,za9 rfl ?_⟩⟩
   refine⟨_,rfl,t2,_,_,_,rfl,rfl,SqT.of fk,rfl,_,rfl,l2,l,zdg D B,rfl,rfl,SqL.of aq,SqL.of iO,_,rfl,iteF ?_⟩
   have nll:l≠l2:=zab il pG
   have f2:H l2=none:=zap k3 pG (by simp)
   refine⟨_,rfl,t2,_,_,_,rfl,rfl,SqT.of fk,rfl,.inl ⟨rfl,_,SqL.of aq⟩,_,rfl,l2,_,.str rt,rfl,rfl,aq,(by rw[Qa];omega),⟨_,_,rfl⟩,by rw[zad nll];exact iO,?_⟩
   exact(k3.trans k4).fr f2
  ·rintro σ H3 ⟨⟨x7,x8,rfl⟩,il,k3⟩
   exact k H3 k3
end
abbrev zfg:Stmt:=top 45
def PrL(H:Hp)(xs:List V):Prop:=∀v∈xs,∃a s1 s2,v=.ref a∧H a=some (.tup [.str s1,.str s2])
def PrL.keep(h:PrL H xs)(k:Keep [] H H'):PrL H' xs:=λv hv=>by
 obtain⟨a,s1,s2,e,z⟩:=h v hv
 exact⟨a,s1,s2,e,k _ _ z (by simp)⟩
def PrL.list{l:Nd}{o:List V}(h:PrL H xs)(k:Keep [l] H H')(hl:H l=some (.lst o)):PrL H' xs:=λv hv=>by
 obtain⟨a,s1,s2,e,z⟩:=h v hv
 exact⟨a,s1,s2,e,k _ _ z (by simpa using zbc z hl (by intro q;cases q))⟩
def PrL.app(h:PrL H xs)(h':PrL H ys):PrL H (xs++ys):=λv hv=>(Qd.mp hv).elim (h v) (h' v)
def PrL.cut{lo hi:Option Int}(h:PrL H xs):PrL H (cutV xs lo hi):=λv hv=>h v (Wd (Ys hv))
inductive IspPairs(vs:List V)(H:Hp)(Q:VK):Prop
 |mk (p d nl:Nd) (es:List Ent) (zs:Nf) (b m:Int) (h0:vs=[.ref p,.ref d,.ref nl]) (h1:Pot H p b m) (h2:H d=some (.dK (es.map λe=>((Sum.inr e.1:Key),V.ref e.2.2)))) (h2':RF H d es) (h3:WF es) (h4:H nl=some (.lst (zs.map V.str))) (h5:zs≠[]) (h6:zs.length≤100)
  (h7:∀(l:Nd) (xs:List V) (b' m':Int) (H':Hp),H' l=some (.lst xs)→PrL H' xs→xs.length≤10000→H l=none→Pot H' p b' m'→Keep [p] H H'→Q (.ref l) H'):IspPairs vs H Q
def spPairs:Sp:=λvs H Q _=>IspPairs vs H Q
def fOr:Stmt→List Stmt
 |.For _ _ b _ _=>b
 |_=>[]
abbrev csPr:Scope:=scOf (aOf 0 (eX ((fOr (sAt zfg 1))[0]?.getD zfg)))
def csPr_k:csPr.kind=.function:=by rfl
def csPr_c:∀y∈csPr.names,y.2≠.cell:=by decide +kernel
def csPr_n:∀y∈csPr.names,y.2=.local→csPr.names.lookup y.1=some .local:=by decide +kernel
def csPr_f:∀y∈csPr.names,y.2=.free→(zah zfg).names.lookup y.1=some .cell∨(zah zfg).names.lookup y.1=some .free:=by decide +kernel
def csPr_l:csPr.names.lookup ("_law_one" : Str)=some NameKind.free:=by decide +kernel
def ndPr:([qO, "_law_one"]:List Str).Nodup:=by decide +kernel
section
variable{P:Nj}{w:Nk}{K:Nb}{mg:Ng}{base:Nm}
def zew:zan [qP,qR, "_law_names_here", "_law_ties", "_law_one", "_law_far", "_law_pairs_here", "_law_k"] [qP,qR, "_law_names_here"] (zah zfg):=fsk
def ok_pairs(F:Fun K "_law_pairs" "_law_pairs" zfg f fd)(FT:Fun K qG qG zdu ft fdt)(bT:Binds K fdt [qP,qM] [])(mT:mg qG=some (.ref ft))(GT:FnOk P w K mg base CX0 1 ft fdt [qP,qM] zfd)(av:mg "sorted" = none)(aa:mg "len" = none)(aQ:mg "range" = none):FnOk P w K mg base CX0 2 f fd [qP,qR, "_law_names_here"] spPairs:=by
 refine F.okL zew (λcdv A outer s H vs Q E hr h=>?_)
 obtain⟨p,d,nl,es,zs,b,m,rfl,hp,hd,R,W,fQ,lM,eG,k⟩:=h
 have hu:=zb4 hr
 have aE:=sizeLine_eq
 refine⟨_,zae (zar 3 zew.nd (za7 zaf))
  (zae (zbg Zd rfl (za6 (zaj (zbx rfl) (by rfl) av Yp (zaa (pv 1) zaf))) (zez (i:=4) zew.nd rfl (Or.inr rfl))
   (zag (zay (zb7 Qx PySem.F.slot_list_extend PySem.F.type_list_extend mt_extend (pv 3) (zaa (pe_lc (M:=[qO, "_law_one"]) (ix:=[none,some 4]) ⟨csPr_k,csPr_c,csPr_n,csPr_f,rfl,ndPr,λj i x h1 h2=>by
     match j,h1,h2 with
     |0,_,h2=>cases h2
     |1,h1,h2=>cases h1;cases h2;exact⟨rfl,csPr_l⟩
     |n+2,h1,_=>cases h1⟩ rfl (za6 (zd2 hu (pv 1) (pv 4))) (λC a6 ex s H=>zbe 0 ndPr) (λC a6 ex s H=>zd0) (λC a6 ex s H=>zce (zaa (pv 1) (zaa (pv 0) zaf)))) zaf)))))
  (zae (zar 5 zew.nd (zak GT hr rfl mT FT.kp bT .nil zau (zaa (pv 0) (zaa (zas zb0 (zaj zal (by rfl) aa Zo (zaa (pv 3) zaf)) zai) zaf))))
  (zae (zar 6 zew.nd (zbb zby (zas zda (zbb zby (pv 3) (zbn (pv 5)) zbl) (zbb zby (pv 3) zbl (zbn (pv 5)))) zbl (zbn zai)))
  (zae (zbg Zd rfl (zcd rfl aQ (zaa (zak GT hr rfl mT FT.kp bT .nil zau (zaa (pv 0) (zaa zai zaf))) zaf)) (zbe 7 zew.nd)
   (zag (zay (zb7 Qx Zm Zl za4 (pv 6) (zaa (zce (zaa (za0 zao (pv 2) (zak GT hr rfl mT FT.kp bT .nil zau (zaa (pv 0) (zaa (zaj zal (by rfl) aa Zo (zaa (pv 2) zaf)) zaf))) (λ_ _=>rfl)) (zaa (za0 zao (pv 2) (zak GT hr rfl mT FT.kp bT .nil zau (zaa (pv 0) (zaa (zaj zal (by rfl) aa Zo (zaa (pv 2) zaf)) zaf))) (λ_ _=>rfl)) zaf))) zaf)))))
  (zag (za3 (pv 6))))))),?_⟩
 refine⟨(by show 0≤sizeLine;decide),λtl gA=>?_⟩
 have k1:Keep [] H (upd H tl (.lst [])):=Keep.new gA
 have bp:(upd H tl (.lst [])) tl=some (.lst []):=zac
 generalize upd H tl (.lst [])=H1 at k1 bp
 refine⟨_,rfl,d,_,es.map (·.1),rfl,.inl (k1 _ _ hd (by simp)),zgj es,λl ws hl ag _=>?_⟩
 have k2:Keep [] H (upd H1 l (.lst (ws.map V.str))):=k1.trans (Keep.new hl)
 have aq:(upd H1 l (.lst (ws.map V.str))) l=some (.lst (ws.map V.str)):=zac
 have nlt:tl≠l:=zab bp hl
 have fk:(upd H1 l (.lst (ws.map V.str))) tl=some (.lst []):=(zad nlt).trans bp
 generalize upd H1 l (.lst (ws.map V.str))=H2 at k2 aq fk
 have eJ:ws.length≤40:=by rw[ag.length_eq,Qa];exact W.few
 refine⟨l,rfl,⟨_,SqL.of aq⟩,zdr (zs:=ws) (λi σ H'=>Aj4 (Ex1 λx4=>σ=[some (.ref p),some (.ref d),some (.ref nl),some (.ref tl),x4,none,none,none]) (Keep [tl] H2 H') (Keep [] H H') (Ex1 λxs:List V=>Aj3 (H' tl=some (.lst xs)) (PrL H' xs) (xs.length≤100*i)))
  ⟨⟨_,rfl⟩,Keep.refl,k2,[],fk,(λv hv=>by cases hv),by simp⟩ (λi σ H' _ hh=>SqL.of (hh.2 _ _ aq (by simpa using Zi nlt))) ?_ ?_⟩
 ·rintro i hi σ H3 ⟨⟨x4,rfl⟩,k3,iH,xs,fj,jc,hx3⟩
  have aB:ws[i]∈es.map (·.1):=ag.mem_iff.mp (Qp hi)
  generalize ws[i]=y at aB
  have R3:=R.keep iH
  obtain⟨e,he,rfl,g⟩:=R3.inn aB
  have gn:=W.rl e he
  refine⟨_,rfl,.inl ⟨rfl,_,SqL.of fj⟩,_,rfl,_,rfl,d,_,rfl,g,e.2.2,rfl,⟨_,SqL.of (R3.ro e he)⟩,?_⟩
  refine⟨λj m ys τ H'=>Aj6 (m=e.2.1.length-j) (j≤e.2.1.length) (ys.length=j) (Ex1 λx0=>τ=[x0,some (.str e.1)]) (PrL H' ys) (Keep [] H3 H'),⟨_,rfl,Zp _,rfl,⟨none,rfl⟩,(λv hv=>by cases hv),Keep.refl⟩,?_⟩
  rintro j mm ys τ H4 ⟨rfl,hj,qx,⟨x0,rfl⟩,lG,k4⟩
  have fB:=k4 _ _ (R3.ro e he) (by simp)
  by_cases ad:j<e.2.1.length
  ·refine .inr ⟨⟨_,.str e.2.1[j],SqL.of fB,by rw [Qt,Qc ad];rfl⟩,by omega,?_⟩
   rintro x H' ⟨rfl,hx⟩
   have bE:=hx _ (SqL.of fB)
   rw[Qt,Qc ad]at bE
   have eV:V.str e.2.1[j]=x:=Qv bE
   subst eV
   refine⟨_,rfl,_,rfl,(by show 2≤sizeLine;decide),λt ht=>⟨_,by exact zar1 ‹_›,rfl,ad,by rw[Qj,qx];rfl,⟨_,rfl⟩,(lG.keep (Keep.new ht)).app λv hv=>?_,k4.trans (Keep.new ht)⟩⟩
   rw[Qb.mp hv]
   exact⟨t,_,_,rfl,zac⟩
  ·have hje:j=e.2.1.length:=by omega
   subst hje
   refine .inl ⟨⟨_,SqL.of fB,by rw[Qa];exact Qg _⟩,λD hD=>?_⟩
   have k5:Keep [] H3 (upd H4 D (.lst ys)):=k4.trans (Keep.new hD)
   have iY:(upd H4 D (.lst ys)) D=some (.lst ys):=zac
   have pr5:=lG.keep (Keep.new (o:=.lst ys) hD)
   generalize upd H4 D (.lst ys)=H5 at k5 iY pr5
   have hX:=k5 _ _ fj (by simp)
   refine⟨tl,D,_,_,rfl,rfl,hX,iY,by omega,?_⟩
   have kw:Keep [tl] H5 (upd H5 tl (.lst (xs++ys))):=Keep.wr (by simp)
   exact⟨⟨_,rfl⟩,(k3.trans (k5.sub (by simp))).trans kw,(iH.trans k5).fr gA,_,zac,((jc.keep k5).app pr5).list kw hX,by rw[Qj];omega⟩
 rintro σ H3 ⟨⟨x4,rfl⟩,k3,iH,xs,fj,jc,hx3⟩
 rw[Qa]at hx3
 have lR:xs.length≤4000:=by omega
 have aF:=hp.keep iH (by simp)
 have my:=iH _ _ fQ (by simp)
 refine⟨_,rfl,_,rfl,tl,_,rfl,.inl (SqL.of fj),_,_,rfl,rfl,p,b,m,_,rfl,aF,by omega,by omega,λj4 b4 m4 H4 gc nj aU ji=>?_⟩
 have k4:=za5 ji
 have ntp:tl≠p:=Zi (zab hp.1 gA)
 have qJ:=k4 _ _ fj (by simpa using ntp)
 have lG:=jc.list k4 aF.1
 have dL:Keep [p] H H4:=(iH.sub (by simp)).trans k4
 have mx:=k4 _ _ my (by simpa using zcy aF my)
 obtain⟨j,rfl⟩:=Zh gc
 refine⟨_,rfl,_,rfl,_,rfl,tl,_,rfl,SqL.of qJ,λq1 h1=>?_⟩
 have n1:tl≠q1:=zab qJ h1
 have c1:=zbq xs (some (j:Int)) none
 have c2:=zbq xs none (some (j:Int))
 have p1:PrL H4 (cutV xs (some (j:Int)) none):=lG.cut
 have p2:PrL H4 (cutV xs none (some (j:Int))):=lG.cut
 refine⟨_,rfl,_,rfl,_,rfl,tl,_,rfl,SqL.of (by rw[zad n1];exact qJ),λq2 h2=>?_⟩
 generalize cutV xs (some (j:Int)) none=us at c1 p1 h2
 generalize cutV xs none (some (j:Int))=ws' at c2 p2
 have cT:q1≠q2:=zab (o:=_) zac h2
 refine⟨q1,q2,us,ws',rfl,rfl,(by rw[zad cT];exact zac),zac,by omega,λq3 h3=>?_⟩
 have k5:Keep [] H4 (upd (upd (upd H4 q1 (.lst us)) q2 (.lst ws')) q3 (.lst (us++ws'))):=((Keep.new h1).trans (Keep.new h2)).trans (Keep.new h3)
 have dQ:(upd (upd (upd H4 q1 (.lst us)) q2 (.lst ws')) q3 (.lst (us++ws'))) q3=some (.lst (us++ws')):=zac
 generalize upd (upd (upd H4 q1 (.lst us)) q2 (.lst ws')) q3 (.lst (us++ws'))=H5 at k5 dQ
 have p5:PrL H5 (cutV (us++ws') none (some 60)):=((p1.app p2).keep k5).cut
 have c5:=zbq (us++ws') none (some 60)
 rw[Qj]at c5
 refine⟨_,rfl,q3,_,rfl,SqL.of dQ,λq6 h6=>?_⟩
 generalize cutV (us++ws') none (some 60)=ps at p5 c5 ⊢
 have k6:Keep [] H4 (upd H5 q6 (.lst ps)):=k5.trans (Keep.new h6)
 have eQ:(upd H5 q6 (.lst ps)) q6=some (.lst ps):=zac
 have p6:=p5.keep (Keep.new (o:=.lst ps) h6)
 generalize upd H5 q6 (.lst ps)=H6 at k6 eQ p6 ⊢
 have f4:H4 q6=none:=zap k5 h6 (by simp)
 have nqp:q6≠p:=Zi (zab aU.1 f4)
 have fq:H q6=none:=zap dL f4 (by simpa using nqp)
 have aN:=aU.keep k6 (by simp)
 have mw:=k6 _ _ mx (by simp)
 have nqn:nl≠q6:=zab mx f4
 refine⟨_,rfl,p,b4,m4,31,rfl,aN,by decide,by decide,λj7 b7 m7 H7 jU sf az kW=>?_⟩
 have k7:=za5 kW
 obtain⟨j7,rfl⟩:=Zh jU
 refine⟨_,rfl,by omega,by omega,?_⟩
 refine zcf (lo:=0) (λi σ H'=>Aj4 (Ex1 λx7=>σ=[some (.ref p),some (.ref d),some (.ref nl),some (.ref tl),x4,some (.int j),some (.ref q6),x7]) (Keep [p] H H') (H' nl=some (.lst (zs.map V.str))) (Ex3 λ(xs:List V) (b' m':Int)=>Aj4 (H' q6=some (.lst xs)) (PrL H' xs) (xs.length≤8000+i) (Pot H' p b' m')))
  ⟨⟨_,rfl⟩,(dL.trans (k6.sub (by simp))).trans k7,k7 _ _ mw (by simpa using zcy aN mw),ps,b7,m7,k7 _ _ eQ (by simpa using nqp),p6.list k7 aN.1,by omega,az⟩ ?_ ?_
 ·rintro i σ H8 hi ⟨⟨x7,rfl⟩,k8,lj,pT,b8,m8,lg,p8,hx8,fP⟩
  have hzp:0<zs.length:=Wv.mpr lM
  have d7:∀q:Nat,(q:Int)<(zs.map V.str).length→∃s,atI (zs.map V.str) (q:Int)=some (.str s):=λq hq=>by
   rw[Qa]at hq
   have fH:q<zs.length:=by omega
   exact⟨zs[q],zav (by rw[Qt,Qc fH];rfl)⟩
  refine⟨_,rfl,.inl ⟨rfl,_,SqL.of lg⟩,_,rfl,_,rfl,_,rfl,nl,_,rfl,.inl (SqL.of lj),p,b8,m8,_,rfl,fP,by rw[Qa];omega,by rw[Qa];omega,λj9 b9 m9 H9 jT ni eR lI=>?_⟩
  obtain⟨j9,rfl⟩:=Zh jT
  obtain⟨s1,cb⟩:=d7 j9 ni
  have k9:=za5 lI
  have ie:=k9 _ _ lj (by simpa using zcy fP lj)
  refine⟨nl,_,_,_,rfl,rfl,SqL.of ie,cb,_,rfl,_,rfl,_,rfl,nl,_,rfl,.inl (SqL.of ie),p,b9,m9,_,rfl,eR,by rw[Qa];omega,by rw[Qa];omega,λj10 lw kU cC nu nn i8 qp=>?_⟩
  obtain⟨j10,rfl⟩:=Zh nu
  obtain⟨s2,df⟩:=d7 j10 nn
  have cU:=k9.trans (za5 qp)
  have ig:=cU _ _ lj (by simpa using zcy fP lj)
  have rj:=cU _ _ lg (by simpa using nqp)
  have p10:=p8.list cU fP.1
  refine⟨nl,_,_,_,rfl,rfl,SqL.of ig,df,(by show 2≤sizeLine;decide),λt ht=>?_⟩
  have dw:Keep [] cC (upd cC t (.tup [.str s1,.str s2])):=Keep.new ht
  have l':(upd cC t (.tup [.str s1,.str s2])) t=some (.tup [.str s1,.str s2]):=zac
  generalize upd cC t (.tup [.str s1,.str s2])=ja at dw l' ⊢
  have mj:=dw _ _ rj (by simp)
  refine⟨q6,_,_,rfl,rfl,mj,by omega,?_⟩
  have kw:Keep [q6] ja (upd ja q6 (.lst (pT++[.ref t]))):=Keep.wr (by simp)
  refine⟨⟨_,rfl⟩,λc u ec hc=>?_,?_,_,lw,kU,zac,((p10.keep dw).app λv hv=>?_).list kw mj,by rw[Qj,Zx];omega,(i8.keep dw (by simp)).keep kw (by simpa using Zi nqp)⟩
  ·rw [zad (zab ec fq)]
   exact dw _ _ (cU _ _ (k8 c u ec hc) hc) (by simp)
  ·rw[zad nqn];exact dw _ _ ig (by simp)
  ·rw [Qb.mp hv]
   exact⟨t,_,_,rfl,l'⟩
 ·rintro σ H8 ⟨⟨x7,rfl⟩,k8,lj,pT,b8,m8,lg,p8,hx8,fP⟩
  exact⟨_,rfl,k q6 pT b8 m8 H8 lg p8 (by omega) fq fP k8⟩
end
abbrev sLaw:Stmt:=top 46
inductive IspLaw(K:Nb)(vs:List V)(H:Hp)(Q:VK):Prop
 |mk (a:Nd) (ns:List Int) (h0:vs=[.ref a]) (h1:SqL K H a (ns.map V.int)) (h2:ns.length≤63) (h3:∀H',Q (.bl true) H'):IspLaw K vs H Q
def spLaw(K:Nb):Sp:=λvs H Q _=>IspLaw K vs H Q
section
variable{P:Nj}{w:Nk}{K:Nb}{mg:Ng}{base:Nm}
def zf2:zan [qS, "_law_k",qP, "_law_rows_here", "_law_web",qR, "_law_names_here", "_law_j", "_law_root", "_law_one",qO] [qS] (zah sLaw):=fsk
def ok_law(F:Fun K "law" "law" sLaw f fd)(FP:Fun K "_law_pot" "_law_pot" sPot fp fdp)(bP:Binds K fdp [qS, "_law_k"] [])(mP:mg "_law_pot" = some (.ref fp))(GP:FnOk P w K mg base CX0 1 fp fdp [qS, "_law_k"] (spPot K))(FD:Fun K "_law_drawn" "_law_drawn" sDrawn fd' fdd)(bD:Binds K fdd [qP] [])(mD:mg "_law_drawn" = some (.ref fd'))(GD:FnOk P w K mg base CX0 5 fd' fdd [qP] spDrawnD)(MW:Mk K C fi)(mW:mg "Web" = some (.ref C))(bI:Binds K fdi ["self", "rows"] [])(GI:FnOk P w K mg base CX0 4 fi fdi ["self", "rows"] (spInit C))(FG:Fun K qG qG zdu fg fdg)(bG:Binds K fdg [qP,qM] [])(mG:mg qG=some (.ref fg))(GG:FnOk P w K mg base CX0 1 fg fdg [qP,qM] zfd)(FU:Fun K "_law_pairs" "_law_pairs" zfg fu fdu)(bU:Binds K fdu [qP,qR, "_law_names_here"] [])(mU:mg "_law_pairs" = some (.ref fu))(GU:FnOk P w K mg base CX0 2 fu fdu [qP,qR, "_law_names_here"] spPairs)(FR:Fun K "_law_right" "_law_right" sRight fr fdr)(bR:Binds K fdr ["_law_web",qR, "_law_root", "_law_one",qO] [])(mR:mg "_law_right" = some (.ref fr))(GR:FnOk P w K mg base CX0 5 fr fdr ["_law_web",qR, "_law_root", "_law_one",qO] (spRight C))(gp:mg "dict" = none)(av:mg "sorted" = none)(aQ:mg "range" = none)(aa:mg "len" = none)(fS:mg "min" = none)(jP:mg "max" = none):FnOk P w K mg base CX0 6 f fd [qS] (spLaw K):=by
 refine F.okL zf2 (λcdv A outer s0 H vs Q E hr h=>?_)
 obtain⟨a,ns,rfl,ha,oZ,kq⟩:=h
 have hu:=zb4 hr
 have aT:Room 1 _:=hr.mono (by decide)
 have dB:Room 2 _:=hr.mono (by decide)
 have aE:=sizeLine_eq
 refine⟨_,zae (zbg Zd rfl (zcd rfl aQ (zaa (zaj (call_max2 rfl) (by rfl) jP PyProof.Rows.boot_max (zaa zai (zaa (zaj (call_min2 rfl) (by rfl) fS Xi (zaa (zaj zal (by rfl) aa Zo (zaa (pv 0) zaf)) (zaa zai zaf))) zaf))) zaf)) (zbe 1 zf2.nd)
   (zae (zar 2 zf2.nd (zak GP aT rfl mP FP.kp bP .nil zau (zaa (pv 0) (zaa (pv 1) zaf))))
   (zae (zar 3 zf2.nd (zak GD hr rfl mD FD.kp bD .nil zau (zaa (pv 2) zaf)))
   (zae (zar 4 zf2.nd (pe_make MW GI hr rfl mW bI .nil zau (zaa (pv 3) zaf)))
   (zae (zar 5 zf2.nd (zco (zdx rfl) (by rfl) gp PyProof.Rows.boot_dict (zaa (pv 3) zaf)))
   (zae (zar 6 zf2.nd (zas zda (zaj (zbx rfl) (by rfl) av Yp (zaa (pv 5) zaf)) (za7 (zaa zbu zaf))))
   (zag (zbg Zd rfl (zcd rfl aQ (zaa zai zaf)) (zbe 7 zf2.nd)
    (zae (zar 8 zf2.nd (za0 zao (pv 6) (zak GG aT rfl mG FG.kp bG .nil zau (zaa (pv 2) (zaa (zaj zal (by rfl) aa Zo (zaa (pv 6) zaf)) zaf))) (λ_ _=>rfl)))
    (zag (zbg Zd rfl (za6 (zak GU dB rfl mU FU.kp bU .nil zau (zaa (pv 2) (zaa (pv 5) (zaa (pv 6) zaf))))) (zg6 rfl (zba (zbe 9 zf2.nd) (zba (zbe 10 zf2.nd) zc4)))
     (zag (zb1 (zej (zdv (zak GR hr rfl mR FR.kp bR .nil zau (zaa (pv 4) (zaa (pv 5) (zaa (pv 8) (zaa (pv 9) (zaa (pv 10) zaf)))))))) (zag zf6) zax)))))))))))))
  (zag (za3 pe_bl)),?_⟩
 refine⟨_,rfl,a,_,rfl,.inl ha,_,_,rfl,_,_,rfl,_,rfl,?_,?_,?_⟩
 ·split<;>split<;>omega
 ·rw[Qa];split<;>split<;>omega
 refine zcf (lo:=0) (λi σ H'=>Aj2 (Keep [] H H') (Ex5 λx1 x2 x3 x4 x5=>Ex5 λx6 x7 x8 x9 eF=>σ=[some (.ref a),x1,x2,x3,x4,x5,x6,x7,x8,x9,eF])) ⟨Keep.refl,_,_,_,_,_,_,_,_,_,_,rfl⟩ ?_ (λ σ H' hh=>kq _)
 rintro i σ H1 hi ⟨k1,x1,x2,x3,x4,x5,x6,x7,x8,x9,eF,rfl⟩
 have hi8:i≤1000:=by
  rw[Qa]at hi
  split at hi<;>split at hi<;>omega
 have ei:(0:Int)+(i:Int)=(i:Int):=by omega
 rw[ei]
 refine⟨_,rfl,_,rfl,a,ns,i,rfl,sq_keep ha k1,hi8,by omega,λp b2 m2 H2 hpf aG k2=>?_⟩
 have fpH:H p=none:=zap k1 hpf (by simp)
 refine⟨_,rfl,p,b2,m2,rfl,aG,λt bs es cs a8 b3 m3 H3 RW Ct gn hok aF k3=>?_⟩
 have iH:Keep [] H H3:=λc u ec _=>k3 c u (k2 _ _ (k1 c u ec (by simp)) (by simp)) (by simpa using zab ec fpH)
 refine⟨_,rfl,λx dx hx hdx aJ=>?_⟩
 have k4:Keep [] H3 (upd (upd H3 dx (.own x)) x (.ins C dx [])):=λc u ec _=>by
  rw[zad (zab ec hx),zad (zab ec hdx)];exact ec
 have qA:(upd (upd H3 dx (.own x)) x (.ins C dx [])) x=some (.ins C dx []):=zac
 generalize upd (upd H3 dx (.own x)) x (.ins C dx [])=H4 at k4 qA
 refine⟨x,dx,t,bs,es,cs,a8,rfl,qA,RW.keep k4,gn,λe he=>(hok e he).1,Ct,λd2 ts es2 H5 wt aD hX k5=>⟨rfl,?_⟩⟩
 have eU:Keep [] H3 H5:=λc u ec _=>k5 c u (k4 c u ec (by simp)) (by simpa using zab ec hx)
 have pR:=RW.keep eU
 have aA:(es.map (·.1)).Nodup:=Ct.nd
 have rp:(es.map λe:Ent=>(e.1,V.ref e.2.2)).map (·.1)=es.map (·.1):=by rw[Zr];rfl
 refine⟨_,rfl,t,bs,es.map λe=>(e.1,V.ref e.2.2),rfl,pR.ls,zg8 pR.ts,by rw[rp];exact aA,λd hd=>?_⟩
 have rE:((es.map λe:Ent=>(e.1,V.ref e.2.2)).map λp=>((Sum.inr p.1:Key),p.2))=es.map λe=>((Sum.inr e.1:Key),V.ref e.2.2):=by rw[Zr];rfl
 rw[rE]
 have k6:Keep [] H5 (upd H5 d (.dK (es.map λe=>((Sum.inr e.1:Key),V.ref e.2.2)))):=Keep.new hd
 have kh:(upd H5 d (.dK (es.map λe=>((Sum.inr e.1:Key),V.ref e.2.2)))) d=some (.dK (es.map λe=>((Sum.inr e.1:Key),V.ref e.2.2))):=zac
 generalize upd H5 d (.dK (es.map λe=>((Sum.inr e.1:Key),V.ref e.2.2)))=H6 at k6 kh
 have jO:(ts.map (·.1)).Perm (es.map (·.1)):=by rw[zcc hX];exact aD.map _
 have ai:=zet hX aD aA
 have Ct2:=zer Ct jO ai
 have eO:∀a b,b∈row (rsOf es) a↔b∈row (rsOf ts) a:=λa b=>by
  obtain⟨j,e⟩:=ai a
  rw[e,Qd]
  constructor
  ·intro h
   rw[←Yx j (row (rsOf es) a)]at h
   exact(Qd.mp h).symm
  ·rintro (h | h)
   ·exact Wd h
   ·exact Ys h
 have gA:ts.length=es.length:=by have:=jO.length_eq;rwa[Qa,Qa]at this
 have W:=wf_of Ct gn
 have Wt:=wf_of Ct2 (by omega)
 have wt6:WAt H6 C x dx d2 ts:=wt.keep k6 (by simp) (by simp) λ_ _=>by simp
 have aN:Pot H6 p b3 m3:=(aF.keep eU (by simp)).keep k6 (by simp)
 have ro6:∀e∈es,H6 e.2.2=some (.lst (e.2.1.map V.str)):=λe he=>k6 _ _ (pR.ro e he) (by simp)
 have lK:Keep [] H H6:=(iH.trans eU).trans k6
 refine⟨_,rfl,d,_,es.map (·.1),rfl,.inl kh,zgj es,λl7 ws cL ag _=>⟨(by show 1≤sizeLine;decide),λl8 mY=>?_⟩⟩
 have n78:l7≠l8:=zab (o:=_) zac mY
 have eJ:ws.length≤40:=by rw[ag.length_eq,Qa];exact gn
 refine⟨l7,l8,_,_,rfl,rfl,(by rw[zad n78];exact zac),zac,by rw[Qa];show ws.length+1≤sizeLine;omega,λnl fQ=>?_⟩
 have el:ws.map V.str++[V.str "nobody"]=(ws++[("nobody" : Str)]).map V.str:=by rw[Qs];rfl
 rw[el]
 have k9:Keep [] H6 (upd (upd (upd H6 l7 (.lst (ws.map V.str))) l8 (.lst [.str "nobody"])) nl (.lst ((ws++[("nobody" : Str)]).map V.str))):=((Keep.new cL).trans (Keep.new mY)).trans (Keep.new fQ)
 have ie:(upd (upd (upd H6 l7 (.lst (ws.map V.str))) l8 (.lst [.str "nobody"])) nl (.lst ((ws++[("nobody" : Str)]).map V.str))) nl=some (.lst ((ws++[("nobody" : Str)]).map V.str)):=zac
 generalize upd (upd (upd H6 l7 (.lst (ws.map V.str))) l8 (.lst [.str "nobody"])) nl (.lst ((ws++[("nobody" : Str)]).map V.str))=H9 at k9 ie
 have lM:ws++[("nobody" : Str)]≠[]:=by simp
 have eG:(ws++[("nobody" : Str)]).length≤41:=by rw[Qj];show ws.length+1≤41;omega
 generalize ws++[("nobody" : Str)]=zs at ie lM eG
 have wt9:WAt H9 C x dx d2 ts:=wt6.keep k9 (by simp) (by simp) λ_ _=>by simp
 have eR:=aN.keep k9 (by simp)
 have ph:=k9 _ _ kh (by simp)
 have oF:∀e∈es,H9 e.2.2=some (.lst (e.2.1.map V.str)):=λe he=>k9 _ _ (ro6 e he) (by simp)
 have kk9:Keep [] H H9:=lK.trans k9
 clear cL mY fQ k9 kh wt6 aN ro6 k6 pR eU aF k3 aG k2 k4 qA RW
 refine⟨(3:Int),rfl,by decide,by omega,?_⟩
 refine zcf (lo:=0) (λj σ H'=>Aj3 (Ex4 λx7 x8 x9 eF=>σ=[some (.ref a),some (.int i),some (.ref p),some (.ref t),some (.ref x),some (.ref d),some (.ref nl),x7,x8,x9,eF]) (Keep [p] H9 H') (Ex2 λb' m'=>Pot H' p b' m'))
  ⟨⟨_,_,_,_,rfl⟩,Keep.refl,_,_,eR⟩ ?_ ?_
 ·rintro j σ cC hj ⟨⟨y7,y8,y9,kO,rfl⟩,cU,lw,kU,i8⟩
  have ig:=cU _ _ ie (by simpa using zcy eR ie)
  have hzp:0<zs.length:=Wv.mpr lM
  refine⟨_,rfl,_,rfl,_,rfl,nl,_,rfl,.inl (SqL.of ig),p,lw,kU,_,rfl,i8,by rw[Qa];omega,by rw[Qa];omega,λqu u5 ql ja tV tU rG qo=>?_⟩
  have dw:Keep [p] H9 ja:=cU.trans (za5 qo)
  obtain⟨qu,rfl⟩:=Zh tV
  rw[Qa]at tU
  have hjz:qu<zs.length:=by omega
  have mJ:=dw _ _ ie (by simpa using zcy eR ie)
  have nP:=dw _ _ ph (by simpa using pot_nd eR ph)
  have R11:RF ja d es:=⟨.inl nP,aA,λe he=>dw _ _ (oF e he) (by simpa using zcy eR (oF e he))⟩
  refine⟨nl,_,_,_,rfl,rfl,SqL.of mJ,zav (by rw[Qt,Qc hjz];rfl),?_⟩
  generalize zs[qu]=rt
  refine⟨_,rfl,_,rfl,_,rfl,p,d,nl,es,zs,u5,ql,rfl,rG,nP,R11,W,mJ,lM,by omega,λl12 xs b12 m12 H12 mZ qa hx12 fl12 rF qm=>?_⟩
  have oM:Keep [p] H9 H12:=dw.trans qm
  refine⟨l12,rfl,⟨_,SqL.of mZ⟩,zbw (xs:=xs) (λq σ H'=>Aj2 (Ex2 λx9 eF=>σ=[some (.ref a),some (.int i),some (.ref p),some (.ref t),some (.ref x),some (.ref d),some (.ref nl),some (.int (0+(j:Int))),some (.str rt),x9,eF]) (Keep [] H12 H')) ⟨⟨_,_,rfl⟩,Keep.refl⟩ (λq σ H' _ hh=>SqL.of (hh.2 _ _ mZ (by simp))) ?_ ?_⟩
  ·rintro q v σ pS hv ⟨⟨y9,kO,rfl⟩,kY⟩
   obtain⟨u,s1,s2,rfl,qC⟩:=(qa.keep kY) v (Yo hv)
   have jj:Keep [p] H9 pS:=oM.trans (kY.sub (by simp))
   have pU:WAt pS C x dx d2 ts:=wt9.pot eR jj
   have R13:RF pS d es:=⟨.inl (jj _ _ ph (by simpa using pot_nd eR ph)),aA,λe he=>jj _ _ (oF e he) (by simpa using zcy eR (oF e he))⟩
   refine⟨u,_,rfl,SqT.of qC,rfl,_,_,rfl,_,_,rfl,rfl,_,rfl,_,rfl,_,rfl,_,rfl,_,rfl,x,dx,d2,d,ts,es,rt,s1,s2,rfl,pU,R13,W,Wt,eO,λy=>jO.mem_iff.symm,λH14 k14=>⟨true,rfl,iteF ⟨⟨_,_,rfl⟩,kY.trans k14⟩⟩⟩
  ·rintro σ pS ⟨⟨y9,kO,rfl⟩,kY⟩
   exact⟨⟨_,_,_,_,rfl⟩,oM.trans (kY.sub (by simp)),_,_,rF.keep kY (by simp)⟩
 ·rintro σ cC ⟨⟨y7,y8,y9,kO,rfl⟩,cU,lw,kU,i8⟩
  exact⟨λc u ec _=>cU _ _ (kk9 c u ec (by simp)) (by simpa using zab ec fpH),_,_,_,_,_,_,_,_,_,_,rfl⟩
end
end K21
end
section
namespace L2
open PySem
section
variable{K:Nb}{x qual p1 p2 p3 p4 p5:Str}{st:Stmt}{f:Nd}{fd:Nq}(F:Fun K x qual st f fd)
include F
theorem Fun.b1(h:∀(kV doc pm:Value) (an:Option Addr) (cdv ct a1:Value),bindArgs (PySem.W.fnOf x qual (zcp st) (zbz st) (zah st) .none kV doc pm an cdv ct) ⟨[a1],[]⟩=pure [(p1,a1)]):Binds K fd [p1] [] :=
 F.binds λkV doc pm an cdv ct us hl=>by
  obtain _ | ⟨a1,_ | ⟨z,t⟩⟩:=us
  ·cases hl
  ·exact h kV doc pm an cdv ct a1
  ·cases hl
theorem Fun.b2(h:∀(kV doc pm:Value) (an:Option Addr) (cdv ct a1 a2:Value),bindArgs (PySem.W.fnOf x qual (zcp st) (zbz st) (zah st) .none kV doc pm an cdv ct) ⟨[a1,a2],[]⟩=pure [(p1,a1),(p2,a2)]):Binds K fd [p1,p2] [] :=
 F.binds λkV doc pm an cdv ct us hl=>by
  obtain _ | ⟨a1,_ | ⟨a2,_ | ⟨z,t⟩⟩⟩:=us
  ·cases hl
  ·cases hl
  ·exact h kV doc pm an cdv ct a1 a2
  ·cases hl
theorem Fun.b3(h:∀(kV doc pm:Value) (an:Option Addr) (cdv ct a1 a2 a3:Value),bindArgs (PySem.W.fnOf x qual (zcp st) (zbz st) (zah st) .none kV doc pm an cdv ct) ⟨[a1,a2,a3],[]⟩=pure [(p1,a1),(p2,a2),(p3,a3)]):Binds K fd [p1,p2,p3] [] :=
 F.binds λkV doc pm an cdv ct us hl=>by
  obtain _ | ⟨a1,_ | ⟨a2,_ | ⟨a3,_ | ⟨z,t⟩⟩⟩⟩:=us
  ·cases hl
  ·cases hl
  ·cases hl
  ·exact h kV doc pm an cdv ct a1 a2 a3
  ·cases hl
theorem Fun.b4(h:∀(kV doc pm:Value) (an:Option Addr) (cdv ct a1 a2 a3 a4:Value),bindArgs (PySem.W.fnOf x qual (zcp st) (zbz st) (zah st) .none kV doc pm an cdv ct) ⟨[a1,a2,a3,a4],[]⟩=pure [(p1,a1),(p2,a2),(p3,a3),(p4,a4)]):Binds K fd [p1,p2,p3,p4] [] :=
 F.binds λkV doc pm an cdv ct us hl=>by
  obtain _ | ⟨a1,_ | ⟨a2,_ | ⟨a3,_ | ⟨a4,_ | ⟨z,t⟩⟩⟩⟩⟩:=us
  ·cases hl
  ·cases hl
  ·cases hl
  ·cases hl
  ·exact h kV doc pm an cdv ct a1 a2 a3 a4
  ·cases hl
theorem Fun.b5(h:∀(kV doc pm:Value) (an:Option Addr) (cdv ct a1 a2 a3 a4 a5:Value),bindArgs (PySem.W.fnOf x qual (zcp st) (zbz st) (zah st) .none kV doc pm an cdv ct) ⟨[a1,a2,a3,a4,a5],[]⟩=pure [(p1,a1),(p2,a2),(p3,a3),(p4,a4),(p5,a5)]):Binds K fd [p1,p2,p3,p4,p5] [] :=
 F.binds λkV doc pm an cdv ct us hl=>by
  obtain _ | ⟨a1,_ | ⟨a2,_ | ⟨a3,_ | ⟨a4,_ | ⟨a5,_ | ⟨z,t⟩⟩⟩⟩⟩⟩:=us
  ·cases hl
  ·cases hl
  ·cases hl
  ·cases hl
  ·cases hl
  ·exact h kV doc pm an cdv ct a1 a2 a3 a4 a5
  ·cases hl
end
end L2
namespace K21
open PySem L2 Wb PyProof.Rows
theorem all_mk{l:PySem.W.OpenLaw}{w:Nk}{K:Nb}{h:Nm}{mg:Ng}{fa C fL f0 f1 f2 f3 f4 f5 f6 f7 f8 f9 f10 f11 f12 f13 f14 f15 f16 f17 f18 f19 f20 f21 f22 f23 f24 f25 f26 f27 f28 f29 f30 g0 g1 g2 c0 c1 c2 c3 c4 c5:Nd}(X:K.In h)(G:h.Ns mainGlobals mg)(hfa:mg "law" = some (.ref fa))(af0:PySem.W.nsIn K mainGlobals "steps_behind" = some (some (.ref f0)))(hf0:∃fd,Fun K "steps_behind" "steps_behind" sSteps f0 fd)(af1:PySem.W.nsIn K mainGlobals "faces_of" = some (some (.ref f1)))(hf1:∃fd,Fun K "faces_of" "faces_of" zfh f1 fd)(af2:PySem.W.nsIn K mainGlobals "piece_from" = some (some (.ref f2)))(nF:∃fd,Fun K "piece_from" "piece_from" sPiece f2 fd)(af3:PySem.W.nsIn K mainGlobals "pieces_of" = some (some (.ref f3)))(hf3:∃fd,Fun K "pieces_of" "pieces_of" zhw f3 fd)(af4:PySem.W.nsIn K mainGlobals "tree" = some (some (.ref f4)))(hf4:∃fd,Fun K "tree" "tree" sTree f4 fd)(af5:PySem.W.nsIn K mainGlobals "way_to" = some (some (.ref f5)))(hf5:∃fd,Fun K "way_to" "way_to" sWay f5 fd)(af6:PySem.W.nsIn K mainGlobals "makes_ring" = some (some (.ref f6)))(hf6:∃fd,Fun K "makes_ring" "makes_ring" sMakes f6 fd)(af7:PySem.W.nsIn K mainGlobals "ring_in" = some (some (.ref f7)))(hf7:∃fd,Fun K "ring_in" "ring_in" sRing f7 fd)(af8:PySem.W.nsIn K mainGlobals "ring_of" = some (some (.ref f8)))(hf8:∃fd,Fun K "ring_of" "ring_of" zf3 f8 fd)(af9:PySem.W.nsIn K mainGlobals "is_name" = some (some (.ref f9)))(hf9:∃fd,Fun K "is_name" "is_name" zdz f9 fd)(uu:PySem.W.nsIn K mainGlobals "refuse_no_names" = some (some (.ref f10)))(sY:∃fd,Fun K "refuse_no_names" "refuse_no_names" zfs f10 fd)(ut:PySem.W.nsIn K mainGlobals "refuse_twice" = some (some (.ref f11)))(sX:∃fd,Fun K "refuse_twice" "refuse_twice" zdt f11 fd)(ur:PySem.W.nsIn K mainGlobals "refuse_one_way" = some (some (.ref f12)))(sW:∃fd,Fun K "refuse_one_way" "refuse_one_way" zhx f12 fd)(uq:PySem.W.nsIn K mainGlobals "refuse_not_flat" = some (some (.ref f13)))(sV:∃fd,Fun K "refuse_not_flat" "refuse_not_flat" zgu f13 fd)(uo:PySem.W.nsIn K mainGlobals "from_least" = some (some (.ref f14)))(sU:∃fd,Fun K "from_least" "from_least" sLeast f14 fd)(um:PySem.W.nsIn K mainGlobals "_law_pot" = some (some (.ref f15)))(sT:∃fd,Fun K "_law_pot" "_law_pot" sPot f15 fd)(ul:PySem.W.nsIn K mainGlobals "_law_digit" = some (some (.ref f16)))(sS:∃fd,Fun K "_law_digit" "_law_digit" zdu f16 fd)(uk:PySem.W.nsIn K mainGlobals "_law_counted" = some (some (.ref f17)))(sR:∃fd,Fun K "_law_counted" "_law_counted" sCount f17 fd)(uj:PySem.W.nsIn K mainGlobals "_law_names" = some (some (.ref f18)))(sQ:∃fd,Fun K "_law_names" "_law_names" sNames f18 fd)(ui:PySem.W.nsIn K mainGlobals "_law_behind" = some (some (.ref f19)))(sP:∃fd,Fun K "_law_behind" "_law_behind" zhy f19 fd)(uh:PySem.W.nsIn K mainGlobals "_law_steps" = some (some (.ref f20)))(sM:∃fd,Fun K "_law_steps" "_law_steps" zht f20 fd)(ug:PySem.W.nsIn K mainGlobals "_law_tie" = some (some (.ref f21)))(sL:∃fd,Fun K "_law_tie" "_law_tie" sTie f21 fd)(uf:PySem.W.nsIn K mainGlobals "_law_rounds" = some (some (.ref f22)))(sK:∃fd,Fun K "_law_rounds" "_law_rounds" zhu f22 fd)(ue:PySem.W.nsIn K mainGlobals "_law_rows" = some (some (.ref f23)))(sJ:∃fd,Fun K "_law_rows" "_law_rows" sRows f23 fd)(ud:PySem.W.nsIn K mainGlobals "_law_drawn" = some (some (.ref f24)))(sI:∃fd,Fun K "_law_drawn" "_law_drawn" sDrawn f24 fd)(uc:PySem.W.nsIn K mainGlobals "_law_parents" = some (some (.ref f25)))(sH:∃fd,Fun K "_law_parents" "_law_parents" zfr f25 fd)(ub:PySem.W.nsIn K mainGlobals "_law_ring" = some (some (.ref f26)))(sG:∃fd,Fun K "_law_ring" "_law_ring" sLRing f26 fd)(ua:PySem.W.nsIn K mainGlobals "_law_due" = some (some (.ref f27)))(sF:∃fd,Fun K "_law_due" "_law_due" sDue f27 fd)(u9:PySem.W.nsIn K mainGlobals "_law_told" = some (some (.ref f28)))(sE:∃fd,Fun K "_law_told" "_law_told" sTold f28 fd)(u8:PySem.W.nsIn K mainGlobals "_law_right" = some (some (.ref f29)))(sD:∃fd,Fun K "_law_right" "_law_right" sRight f29 fd)(u7:PySem.W.nsIn K mainGlobals "_law_pairs" = some (some (.ref f30)))(sC:∃fd,Fun K "_law_pairs" "_law_pairs" zfg f30 fd)(ag0:PySem.W.findIn K (.ref C) "__init__" = some (some (.ref g0)))(ig0:PySem.W.isFn K (.ref g0)=true)(kg0:PySem.W.keepIn K (.ref g0)=true)(hg0:∃fd,Fun K "__init__" "Web.__init__" sInit g0 fd)(ag1:PySem.W.findIn K (.ref C) "round_of" = some (some (.ref g1)))(ig1:PySem.W.isFn K (.ref g1)=true)(kg1:PySem.W.keepIn K (.ref g1)=true)(hg1:∃fd,Fun K "round_of" "Web.round_of" zhv g1 fd)(ag2:PySem.W.findIn K (.ref C) "is_tied" = some (some (.ref g2)))(ig2:PySem.W.isFn K (.ref g2)=true)(kg2:PySem.W.keepIn K (.ref g2)=true)(hg2:∃fd,Fun K "is_tied" "Web.is_tied" sTied g2 fd){odfL anfL:Option Addr}{slfL:Array (Option Value)}{ocfL kVfL dcfL pmfL cdfL ctfL:Value}(afL:PySem.W.nsIn K mainGlobals "law" = some (some (.ref fL)))(lfL:K.lookup fL=some ⟨ocfL,odfL,.func (PySem.W.fnOf "law" "law" (zcp sLaw) (zbz sLaw) (zah sLaw) .none kVfL dcfL pmfL anfL cdfL ctfL),slfL⟩)(cfL:PySem.W.codeIn K cdfL "law" = true)(kfL:PySem.W.keepIn K (.ref fL)=true)(aC:PySem.W.nsIn K mainGlobals "Web" = some (some (.ref C))){tkM:Tok}(aM:PySem.W.nsIn K mainGlobals "MOST_LETTERS" = some (some (.int 8 tkM)))(pg:PySem.W.plainGet K C Str.empty=true)(kb:PySem.W.hasDictIn K C=true)(po:PySem.W.plainOver K C=true)(sa:PySem.W.findIn K (.ref C) "__setattr__" = some (some (.builtin "object.__setattr__")))(mk:PySem.W.makesIn K C=true)(kc:PySem.W.keepIn K (.ref C)=true)(nR:PySem.W.findIn K (.ref C) "rounds" = some none)(e_NoPlace:PySem.W.nsIn K mainGlobals "NoPlace" = some (some (.ref c0)))(e_NoRing:PySem.W.nsIn K mainGlobals "NoRing" = some (some (.ref c1)))(e_NotOne:PySem.W.nsIn K mainGlobals "NotOne" = some (some (.ref c2)))(e_NoName:PySem.W.nsIn K mainGlobals "NoName" = some (some (.ref c3)))(e_Twice:PySem.W.nsIn K mainGlobals "Twice" = some (some (.ref c4)))(e_HueError:PySem.W.nsIn K mainGlobals "HueError" = some (some (.ref c5)))(gs:PySem.W.specialIn K (.builtin "object.__class__") "__get__" = some (some (.builtin "getset_descriptor.__get__")))(tk:PySem.W.takesIn K (.builtin "object.__class__")=some true)(x0:PySem.W.excIn K c0 bmVE "ValueError.__new__" = true)(p0:PySem.W.findIn K (.ref c0) "__getattribute__" = some (some (.builtin "BaseException.__getattribute__")))(n0:PySem.W.findIn K (.ref c0) "__getattr__" = some none)(j0:PySem.W.mroIn K c0 (.type "BaseException")=some true)(q0:PySem.W.findIn K (.ref c0) "__class__" = some (some (.builtin "object.__class__")))(r0:PySem.W.mroIn K c0 (.type "object")=some true)(u00:PySem.W.kitOne K (.ref c0) (.ref c0)=some true)(u01:PySem.W.kitOne K (.ref c0) (.ref c1)=some false)(u02:PySem.W.kitOne K (.ref c0) (.ref c2)=some false)(u03:PySem.W.kitOne K (.ref c0) (.ref c3)=some false)(u04:PySem.W.kitOne K (.ref c0) (.ref c4)=some false)(v0:PySem.W.kitOne K (.ref c0) (.type "ValueError")=some true)(y0:PySem.W.exmOne K (.ref c0) (.ref c5)=some true)(x1:PySem.W.excIn K c1 bmVE "ValueError.__new__" = true)(p1:PySem.W.findIn K (.ref c1) "__getattribute__" = some (some (.builtin "BaseException.__getattribute__")))(n1:PySem.W.findIn K (.ref c1) "__getattr__" = some none)(j1:PySem.W.mroIn K c1 (.type "BaseException")=some true)(q1:PySem.W.findIn K (.ref c1) "__class__" = some (some (.builtin "object.__class__")))(r1:PySem.W.mroIn K c1 (.type "object")=some true)(u10:PySem.W.kitOne K (.ref c1) (.ref c0)=some false)(u11:PySem.W.kitOne K (.ref c1) (.ref c1)=some true)(u12:PySem.W.kitOne K (.ref c1) (.ref c2)=some false)(u13:PySem.W.kitOne K (.ref c1) (.ref c3)=some false)(u14:PySem.W.kitOne K (.ref c1) (.ref c4)=some false)(v1:PySem.W.kitOne K (.ref c1) (.type "ValueError")=some true)(y1:PySem.W.exmOne K (.ref c1) (.ref c5)=some true)(z_len:PySem.W.nsIn K mainGlobals "len" = some none)(z_sorted:PySem.W.nsIn K mainGlobals "sorted" = some none)(z_range:PySem.W.nsIn K mainGlobals "range" = some none)(z_min:PySem.W.nsIn K mainGlobals "min" = some none)(z_max:PySem.W.nsIn K mainGlobals "max" = some none)(z_tuple:PySem.W.nsIn K mainGlobals "tuple" = some none)(z_list:PySem.W.nsIn K mainGlobals "list" = some none)(z_dict:PySem.W.nsIn K mainGlobals "dict" = some none)(z_set:PySem.W.nsIn K mainGlobals "set" = some none)(z_isinstance:PySem.W.nsIn K mainGlobals "isinstance" = some none)(z_str:PySem.W.nsIn K mainGlobals "str" = some none)(z_all:PySem.W.nsIn K mainGlobals "all" = some none)(z_sum:PySem.W.nsIn K mainGlobals "sum" = some none)(z_enumerate:PySem.W.nsIn K mainGlobals "enumerate" = some none)(z_ValueError:PySem.W.nsIn K mainGlobals "ValueError" = some none) :
  ∃fd:FuncData,(∀(s:Nh) (v:Value),BindsTo s fd ⟨[v],[]⟩ [("_law_script",v)])∧∀base:Heap,K.In base→base.Ns mainGlobals mg→FnOk l.prog w K mg base CX0 6 fa fd ["_law_script"] (spLaw K):=by
 have e:=hfa.symm.trans (Zg X G afL)
 cases e
 obtain⟨_,F0⟩:=hf0
 have b0:=F0.b1 (p1 := "rounds") λ_ _ _ _ _ _ _=>rfl
 have m0:=Zg X G af0
 obtain⟨_,F1⟩:=hf1
 have b1:=F1.b1 (p1 := "rounds") λ_ _ _ _ _ _ _=>rfl
 have m1:=Zg X G af1
 obtain⟨_,F2⟩:=nF
 have b2:=F2.b2 (p1 := "rounds") (p2 := "start") λ_ _ _ _ _ _ _ _=>rfl
 have m2:=Zg X G af2
 obtain⟨_,F3⟩:=hf3
 have b3:=F3.b1 (p1 := "rounds") λ_ _ _ _ _ _ _=>rfl
 have m3:=Zg X G af3
 obtain⟨_,F4⟩:=hf4
 have b4:=F4.b2 (p1 := "web") (p2 := "root") λ_ _ _ _ _ _ _ _=>rfl
 have m4:=Zg X G af4
 obtain⟨_,F5⟩:=hf5
 have b5:=F5.b2 (p1 := "parents") (p2 := "place") λ_ _ _ _ _ _ _ _=>rfl
 have m5:=Zg X G af5
 obtain⟨_,F6⟩:=hf6
 have b6:=F6.b4 (p1 := "web") (p2 := "parents") (p3 := "one") (p4 := "other") λ_ _ _ _ _ _ _ _ _ _=>rfl
 have m6:=Zg X G af6
 obtain⟨_,F7⟩:=hf7
 have b7:=F7.b3 (p1 := "parents") (p2 := "one") (p3 := "other") λ_ _ _ _ _ _ _ _ _=>rfl
 have m7:=Zg X G af7
 obtain⟨_,F8⟩:=hf8
 have b8:=F8.b4 (p1 := "web") (p2 := "root") (p3 := "one") (p4 := "other") λ_ _ _ _ _ _ _ _ _ _=>rfl
 have m8:=Zg X G af8
 obtain⟨_,F9⟩:=hf9
 have b9:=F9.b1 (p1 := "thing") λ_ _ _ _ _ _ _=>rfl
 have m9:=Zg X G af9
 obtain⟨_,uQ⟩:=sY
 have lw:=uQ.b1 (p1 := "rows") λ_ _ _ _ _ _ _=>rfl
 have kU:=Zg X G uu
 obtain⟨_,uP⟩:=sX
 have u5:=uP.b1 (p1 := "rows") λ_ _ _ _ _ _ _=>rfl
 have ql:=Zg X G ut
 obtain⟨_,uO⟩:=sW
 have b12:=uO.b1 (p1 := "rows") λ_ _ _ _ _ _ _=>rfl
 have m12:=Zg X G ur
 obtain⟨_,uN⟩:=sV
 have b13:=uN.b1 (p1 := "rounds") λ_ _ _ _ _ _ _=>rfl
 have m13:=Zg X G uq
 obtain⟨_,uM⟩:=sU
 have b14:=uM.b1 (p1 := "around") λ_ _ _ _ _ _ _=>rfl
 have m14:=Zg X G uo
 obtain⟨_,uL⟩:=sT
 have b15:=uL.b2 (p1 := "_law_script") (p2 := "_law_k") λ_ _ _ _ _ _ _ _=>rfl
 have m15:=Zg X G um
 obtain⟨_,iE⟩:=sS
 have kL:=iE.b2 (p1 := "_law_pot_here") (p2 := "_law_many") λ_ _ _ _ _ _ _ _=>rfl
 have je:=Zg X G ul
 obtain⟨_,uK⟩:=sR
 have b17:=uK.b2 (p1 := "_law_number") (p2 := "_law_letters") λ_ _ _ _ _ _ _ _=>rfl
 have m17:=Zg X G uk
 obtain⟨_,uJ⟩:=sQ
 have b18:=uJ.b2 (p1 := "_law_pot_here") (p2 := "_law_many") λ_ _ _ _ _ _ _ _=>rfl
 have m18:=Zg X G uj
 obtain⟨_,uI⟩:=sP
 have b19:=uI.b2 (p1 := "_law_around") (p2 := "_law_one") λ_ _ _ _ _ _ _ _=>rfl
 have m19:=Zg X G ui
 obtain⟨_,uH⟩:=sM
 have b20:=uH.b3 (p1 := "_law_rounds_here") (p2 := "_law_p") (p3 := "_law_q") λ_ _ _ _ _ _ _ _ _=>rfl
 have m20:=Zg X G uh
 obtain⟨_,uG⟩:=sL
 have b21:=uG.b2 (p1 := "_law_pot_here") (p2 := "_law_rounds_here") λ_ _ _ _ _ _ _ _=>rfl
 have m21:=Zg X G ug
 obtain⟨_,uF⟩:=sK
 have b22:=uF.b2 (p1 := "_law_pot_here") (p2 := "_law_most") λ_ _ _ _ _ _ _ _=>rfl
 have m22:=Zg X G uf
 obtain⟨_,uE⟩:=sJ
 have b23:=uE.b3 (p1 := "_law_pot_here") (p2 := "_law_rounds_here") (p3 := "_law_names_here") λ_ _ _ _ _ _ _ _ _=>rfl
 have m23:=Zg X G ue
 obtain⟨_,uD⟩:=sI
 have b24:=uD.b1 (p1 := "_law_pot_here") λ_ _ _ _ _ _ _=>rfl
 have m24:=Zg X G ud
 obtain⟨_,uC⟩:=sH
 have b25:=uC.b2 (p1 := "_law_rounds_here") (p2 := "_law_root") λ_ _ _ _ _ _ _ _=>rfl
 have m25:=Zg X G uc
 obtain⟨_,uB⟩:=sG
 have b26:=uB.b3 (p1 := "_law_parents_here") (p2 := "_law_one") (p3 := "_law_other") λ_ _ _ _ _ _ _ _ _=>rfl
 have m26:=Zg X G ub
 obtain⟨_,uA⟩:=sF
 have b27:=uA.b4 (p1 := "_law_rounds_here") (p2 := "_law_root") (p3 := "_law_one") (p4 := "_law_other") λ_ _ _ _ _ _ _ _ _ _=>rfl
 have m27:=Zg X G ua
 obtain⟨_,uz⟩:=sE
 have b28:=uz.b4 (p1 := "_law_web") (p2 := "_law_root") (p3 := "_law_one") (p4 := "_law_other") λ_ _ _ _ _ _ _ _ _ _=>rfl
 have m28:=Zg X G u9
 obtain⟨_,uy⟩:=sD
 have b29:=uy.b5 (p1 := "_law_web") (p2 := "_law_rounds_here") (p3 := "_law_root") (p4 := "_law_one") (p5 := "_law_other") λ_ _ _ _ _ _ _ _ _ _ _=>rfl
 have m29:=Zg X G u8
 obtain⟨_,ux⟩:=sC
 have b30:=ux.b3 (p1 := "_law_pot_here") (p2 := "_law_rounds_here") (p3 := "_law_names_here") λ_ _ _ _ _ _ _ _ _=>rfl
 have m30:=Zg X G u7
 obtain⟨_,FG0⟩:=hg0
 have bG0:=FG0.b2 (p1 := "self") (p2 := "rows") λ_ _ _ _ _ _ _ _=>rfl
 obtain⟨_,FG1⟩:=hg1
 have bG1:=FG1.b2 (p1 := "self") (p2 := "place") λ_ _ _ _ _ _ _ _=>rfl
 obtain⟨_,FG2⟩:=hg2
 have bG2:=FG2.b3 (p1 := "self") (p2 := "one") (p3 := "other") λ_ _ _ _ _ _ _ _ _=>rfl
 have FL:=fun_mk (st:=sLaw) lfL cfL kfL
 have cW:Cls K C:=⟨pg,kb,po,sa⟩
 have mC:=Zg X G aC
 have mM:=Zg X G aM
 have y_len:=Zz X G z_len
 have y_sorted:=Zz X G z_sorted
 have y_range:=Zz X G z_range
 have y_min:=Zz X G z_min
 have y_max:=Zz X G z_max
 have y_tuple:=Zz X G z_tuple
 have y_list:=Zz X G z_list
 have y_dict:=Zz X G z_dict
 have y_set:=Zz X G z_set
 have y_isinstance:=Zz X G z_isinstance
 have y_str:=Zz X G z_str
 have y_all:=Zz X G z_all
 have y_sum:=Zz X G z_sum
 have y_enumerate:=Zz X G z_enumerate
 have y_ValueError:=Zz X G z_ValueError
 refine⟨PySem.W.fnOf "law" "law" (zcp sLaw) (zbz sLaw) (zah sLaw) .none kVfL dcfL pmfL anfL cdfL ctfL,λs v=>.of_eq rfl,λbase _ _=>?_⟩
 have GTake:=ok_digit (P:=l.prog) (w:=w) (mg:=mg) (base:=base) iE
 have GPot:=ok_pot (P:=l.prog) (w:=w) (base:=base) uL y_len y_min y_max y_list
 have GCount:=ok_count (P:=l.prog) (w:=w) (base:=base) uK y_len
 have GNames:=ok_names (P:=l.prog) (w:=w) (base:=base) uJ iE kL je GTake uK b17 m17 GCount y_len y_range
 have GBehind:=ok_behind (P:=l.prog) (w:=w) (base:=base) uI y_len
 have GSteps0:=ok_steps0 (P:=l.prog) (w:=w) (base:=base) uH uI b19 m19 GBehind
 have GTie:=ok_tie (P:=l.prog) (w:=w) (base:=base) uG iE kL je GTake uH b20 m20 GSteps0 y_len
 have GRounds:=ok_rounds (P:=l.prog) (w:=w) (base:=base) uF iE kL je GTake uG b21 m21 GTie y_len y_range
 have GRows:=ok_rows (P:=l.prog) (w:=w) (base:=base) uE iE kL je GTake y_len y_range
 have GDrawn:=ok_drawn (P:=l.prog) (w:=w) (base:=base) uD iE kL je GTake uF b22 m22 GRounds uE b23 m23 GRows uJ b18 m18 GNames y_len
 have GRoundOf:=ok_roundof (P:=l.prog) (w:=w) (base:=base) FG1 cW nR y_list
 have GTree:=ok_tree (P:=l.prog) (w:=w) (base:=base) F4 cW nR ⟨ag1,ig1,kg1⟩ bG1 GRoundOf y_sorted
 have mNP:=Zg X G e_NoPlace
 have mNR:=Zg X G e_NoRing
 have GTreeX:=ok_treeX (P:=l.prog) (w:=w) (base:=base) F4 cW nR ⟨x0⟩ mNP
 have GTied:=ok_tied (P:=l.prog) (w:=w) (mg:=mg) (base:=base) FG2 cW nR
 have GWay:=ok_way (P:=l.prog) (w:=w) (mg:=mg) (base:=base) F5
 have GRing:=ok_ring (P:=l.prog) (w:=w) (base:=base) F7 F5 b5 m5 GWay y_len
 have GMakes:=ok_makes (P:=l.prog) (w:=w) (mg:=mg) (base:=base) F6 cW ⟨ag2,ig2,kg2⟩ bG2 GTied
 have GRingOf:=ok_ringof (P:=l.prog) (w:=w) (base:=base) F8 cW nR F4 b4 m4 GTree F6 b6 m6 GMakes F7 b7 m7 GRing
 have GRingX:=ok_ringX (P:=l.prog) (w:=w) (base:=base) F8 cW nR ⟨x0⟩ mNP ⟨x1⟩ mNR F4 b4 m4 GTree GTreeX F6 b6 m6 GMakes
 have kp:KW K c5 c0 c1 c2 c3 c4 c0 "place" := ⟨⟨p0,n0,j0,q0,gs,tk,r0⟩,y0,u00.trans (by decide +kernel),u01.trans (by decide +kernel),u02,u03,u04,v0,.inl rfl⟩
 have kr:KW K c5 c0 c1 c2 c3 c4 c1 "ring" := ⟨⟨p1,n1,j1,q1,gs,tk,r1⟩,y1,u10.trans (by decide +kernel),u11.trans (by decide +kernel),u12,u13,u14,v1,.inr rfl⟩
 have GTold:=ok_told (P:=l.prog) (w:=w) (base:=base) uz (Zg X G e_HueError) mNP mNR (Zg X G e_NotOne) (Zg X G e_NoName) (Zg X G e_Twice) y_isinstance y_ValueError F8 b8 m8 GRingOf GRingX
 have GParents:=ok_parents (P:=l.prog) (w:=w) (base:=base) uC y_sorted y_list
 have GLRing:=ok_lring (P:=l.prog) (w:=w) (mg:=mg) (base:=base) uB
 have GDue:=ok_due (P:=l.prog) (w:=w) (base:=base) uA uC b25 m25 GParents
 have GRight:=ok_right (P:=l.prog) (w:=w) (base:=base) uy y_isinstance y_list y_tuple y_range kp kr uA b27 m27 GDue uz b28 m28 GTold uB b26 m26 GLRing
 have GPairs:=ok_pairs (P:=l.prog) (w:=w) (base:=base) ux iE kL je GTake y_sorted y_len y_range
 have GIsName:=ok_isname (P:=l.prog) (w:=w) (base:=base) F9 mM y_isinstance y_str y_len y_all
 have GNo:=ok_nonames (P:=l.prog) (w:=w) (base:=base) uQ F9 b9 m9 GIsName
 have GTw:=ok_twice (P:=l.prog) (w:=w) (base:=base) uP y_len y_set
 have GOne:=ok_oneway (P:=l.prog) (w:=w) (base:=base) uO y_dict
 have GLeast:=ok_least (P:=l.prog) (w:=w) (base:=base) uM y_min y_tuple
 have GSteps:=ok_steps (P:=l.prog) (w:=w) (base:=base) F0 y_enumerate
 have GFaces:=ok_faces (P:=l.prog) (w:=w) (base:=base) F1 F0 b0 m0 GSteps y_sorted
 have GPiece:=ok_piece (P:=l.prog) (w:=w) (base:=base) F2 y_sorted
 have GPieces:=ok_pieces (P:=l.prog) (w:=w) (base:=base) F3 F2 b2 m2 GPiece y_sorted
 have GFlat:=ok_flat (P:=l.prog) (w:=w) (base:=base) uN F1 b1 m1 GFaces F3 b3 m3 GPieces y_len y_sum
 have GInit:=ok_init (P:=l.prog) (w:=w) (base:=base) FG0 cW nR uQ lw kU GNo uP u5 ql GTw uO b12 m12 GOne uM b14 m14 GLeast uN b13 m13 GFlat y_sorted
 exact ok_law FL uL b15 m15 GPot uD b24 m24 GDrawn ⟨mk,ag0,ig0,kc⟩ mC bG0 GInit iE kL je GTake ux b30 m30 GPairs uy b29 m29 GRight y_dict y_sorted y_range y_len y_min y_max
def walk{l:PySem.W.OpenLaw}{q:Nj}{loose:Nf}{XP:(Str→Option Value)→Heap→Prop}{d:DefRec}{K:Params→PySem.W.Frag}(hn:l.most=some 63)(nK:d.params.defaults=[])(F:∀ (w:Nk) (mg:Ng) (fa:Nd) (h:Nm),(K w.params).In h→h.Ns mainGlobals mg→mg d.name=some (.ref fa) →
   ∃fd:FuncData,(∀(s:Nh) (u:Value),BindsTo s fd ⟨[u],[]⟩ [("_law_script",u)])∧∀base:Heap,(K w.params).In base→base.Ns mainGlobals mg→FnOk l.prog w (K w.params) mg base CX0 6 fa fd ["_law_script"] (spLaw (K w.params))) :
  PySem.W.WalkO q loose XP (λw h=>(K w.params).In h) l.row.toRowW d [] (λf vs=>PySem.call f vs) :=
 L2.walk_of (n:=63) (k:=6) (x := "_law_script") (CX:=λ_=>CX0) (sp:=λw=>spLaw (K w.params)) hn (by decide) nK ⟨rfl,by decide,by decide⟩ (λ_ _ z=>z) F (λ_ _ a ns hl _ hS=>⟨a,ns,rfl,hS,hl,λ_=>rfl⟩) λ_ _ _ _ _ z=>z
end K21
end
section
set_option Elab.async false
set_option linter.all false
open PySem PySem.W PySem.W.X PyProof.Rows
def PySem.W.Fast.tw9178189172322193918:Unit:=()
def PySem.W.Fast.tw6529054501124251450:Unit:=()
def PySem.W.Fast.tw16669769640853767972:Unit:=()
def PySem.W.Fast.tw1751331930304510640:Unit:=()
def PySem.W.Fast.tw790931709599302676:Unit:=()
def PySem.W.Fast.tw967704178769585813:Unit:=()
def PySem.W.Fast.tw14980352708000393437:Unit:=()
def PySem.W.Fast.tw12982802736990024121:Unit:=()
def PySem.W.Fast.tw18248179683865469261:Unit:=()
def PySem.W.Fast.tw1941595408948992745:Unit:=()
def PySem.W.Fast.tw1043677866022723198:Unit:=()
def PySem.W.Fast.tw253495263627925782:Unit:=()
def PySem.W.Fast.tw5522107359991218546:Unit:=()
def PySem.W.Fast.tw10875282028418579009:Unit:=()
def PySem.W.Fast.tw6984632180491197993:Unit:=()
def PySem.W.Fast.tw3513513593902367222:Unit:=()
def PySem.W.Fast.tw12375992701338674004:Unit:=()
def PySem.W.Fast.tw14001434385059608099:Unit:=()
def PySem.W.Fast.tw6231054557001673969:Unit:=()
def PySem.W.Fast.tw3361380602870676920:Unit:=()
def PySem.W.Fast.tw4709071120372959312:Unit:=()
def PySem.W.Fast.tw7951187545297958839:Unit:=()
set_option maxRecDepth 100000 in
set_option maxHeartbeats 0 in
theorem PySem.Challenge.cw_fivehues_k72_rings_of_a_tree_holds : PySem.Challenge.rw_fivehues_k72_rings_of_a_tree.Holds := by
 w_on;o_law;z_head;(case hw=>w_witness2)
 k_fill
 intro w s0 s1 mg mb G y fa o pm cd doc dV kV ho hd hcd hD hmg hg args vals as L hpre hlay hrd hwl hlo
 z_open y L KX ZH ZN ZT
 refine K21.walk (l:=PySem.Challenge.rw_fivehues_k72_rings_of_a_tree) rfl rfl ?F w s0 s1 mg mb G KX fa o pm cd doc dV kV ho hd hcd hD hmg hg args vals as hpre hlay hrd hwl hlo
 case F =>
  clear KX ZH ZN ZT L y G hmg hg hpre hlay hrd hwl hlo ho hd hcd hD
  intro w mg fa h KX G hmg
  refine' K21.all_mk KX G hmg ?_ ?_ ?_ ?_ ?_ ?_ ?_ ?_ ?_ ?_ ?_ ?_ ?_ ?_ ?_ ?_ ?_ ?_ ?_ ?_ ?_ ?_ ?_ ?_ ?_ ?_ ?_ ?_ ?_ ?_ ?_ ?_ ?_ ?_ ?_ ?_ ?_ ?_ ?_ ?_ ?_ ?_ ?_ ?_ ?_ ?_ ?_ ?_ ?_ ?_ ?_ ?_ ?_ ?_ ?_ ?_ ?_ ?_ ?_ ?_ ?_ ?_ ?_ ?_ ?_ ?_ ?_ ?_ ?_ ?_ ?_ ?_ ?_ ?_ ?_ ?_ ?_ ?_ ?aC ?_ ?_ ?_ ?_ ?_ ?_ ?_ ?_ ?_ ?_ ?_ ?_ ?_ ?_ ?_ ?_ ?_ ?_ ?_ ?_ ?_ ?_ ?_ ?_ ?_ ?_ ?_ ?_ ?_ ?_ ?_ ?_ ?_ ?_ ?_ ?_ ?_ ?_ ?_ ?_ ?_ ?_ ?_ ?_ ?_ ?_ ?_ ?_ ?_ ?_ ?_ ?_ ?_ ?_ ?_ ?_ ?_
  (case aC=>k_is)
  all_goals(try first|k_is|kit_is|kts_exm|k_exc|exact⟨_,L2.fun_mk (by k_is) (by k_is) (by k_is)⟩)
end
