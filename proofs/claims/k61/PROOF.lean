import PyProof.Rows.All
import KE.KDictOf
import KE.KDictSum
import KE.KEqDict
import KE.KSortTup
import Lean
import OpenK.AllK
import PyProof.EqAt
import PyProof.EqKinds
import PyProof.TupleCall
import Wide.All
import Wide.FinOn
import PySem.Challenge.RW_fivehues_k61_whole_two_or_a_ring
set_option Elab.async false
set_option linter.all false
set_option maxRecDepth 100000
set_option maxHeartbeats 4000000
abbrev Qa:=@List.length_map
abbrev Qb:=@List.mem_singleton
abbrev Qc:=@List.mem_cons_self
abbrev Qd:=@List.mem_cons
abbrev Qe:=@List.mem_append
abbrev Qf:=@Nat.le_refl
abbrev Qg:=@List.getElem?_eq_getElem
abbrev Qh:=@List.mem_cons_of_mem
abbrev Qi:=@List.mem_append_right
abbrev Qj:=@PySem.Heap.get?_push_of_some
abbrev Qk:=@List.mem_map
abbrev Ql:=@List.mem_append_left
abbrev Qm:=@List.map_cons
abbrev Qn:=@List.take_succ_eq_append_getElem
abbrev Qo:=@List.length_append
abbrev Qp:=@Option.some.inj
abbrev Qq:=@List.getElem_mem
abbrev Qr:=@List.take_of_length_le
abbrev Qs:=@List.map_append
abbrev Qt:=@List.append_assoc
abbrev Qu:=@PySem.Heap.lt_size
abbrev Qv:=@List.nodup_cons
abbrev Qw:=@List.size_toArray
abbrev Qx:=@List.length_cons
abbrev Qy:=@List.nodup_append
abbrev Qz:=@List.getElem?_map
abbrev Za:=@PySem.Heap.get?_push_size
abbrev Zb:=@List.getElem?_eq_some_iff
abbrev Zc:=@Ne.symm
abbrev Zd:=@Nat.le_trans
abbrev Ze:=@Nat.ne_of_lt
abbrev Zf:=@List.sum_cons
abbrev Zg:=@Bool.false_ne_true
abbrev Zh:=@PySem.PassesOwn.never
abbrev Zi:=@Nat.zero_le
abbrev Zj:=@List.mem_filter
abbrev Zk:=@List.nodup_nil
abbrev Zl:=@PySem.W.mg_of
abbrev Zm:=@PySem.F.plainAttrs_list
abbrev Zn:=@List.length_take
abbrev Zo:=@List.getElem_of_mem
abbrev Zp:=@List.mem_flatten
abbrev Zq:=@List.map_map
abbrev Zr:=@PySem.W.mg_none_of
abbrev Zs:=@List.getElem_map
abbrev Zt:=@List.filter_cons_of_pos
abbrev Zu:=@List.filter_cons_of_neg
abbrev Zv:=@List.append_nil
abbrev Zw:=@Nat.lt_of_lt_of_le
abbrev Zx:=@PySem.boot_len
abbrev Zy:=@Array.toList_append
abbrev Zz:=@List.Perm.append_left
abbrev Ya:=@List.lt_irrefl
abbrev Yb:=@PySem.Paired.length
abbrev Yc:=@List.length_pos_of_mem
abbrev Yd:=@PyProof.Rows.boot_sorted
abbrev Yf:=@Bool.eq_iff_iff
abbrev Yh:=@List.getD_eq_getElem?_getD
abbrev Yi:=@Array.perm_iff_toList_perm
abbrev Yj:=@List.pairwise_singleton
abbrev Yl:=@Int.eq_ofNat_of_zero_le
abbrev Ym:=@List.any_eq_true
abbrev Yn:=@PySem.F.type_list_append
abbrev Yo:=@PySem.F.slot_list_append
abbrev Yp:=@List.length_erase_of_mem
abbrev Yq:=@List.filter_append
abbrev Yr:=@Nat.le_add_right
abbrev Ys:=@List.flatten_cons
abbrev Yu:=@Prod.mk.inj
abbrev Yv:=@List.mem_of_getElem?
abbrev Yw:=@Nat.ne_of_gt
abbrev Yx:=@List.append_of_mem
abbrev Yy:=@Nat.lt_irrefl
abbrev Yz:=@List.map_congr_left
abbrev Wa:=@Array.length_toList
abbrev Wc:=@List.take_append_drop
abbrev Wd:=@List.length_singleton
abbrev We:=@List.mem_of_mem_take
abbrev Wf:=@List.pairwise_iff_getElem
abbrev Wg:=@List.perm_append_comm
abbrev Wh:=@List.Nodup.sublist
abbrev Wi:=@Nat.lt_succ_self
abbrev Wj:=@List.find?_cons_of_pos
abbrev Wk:=@List.find?_cons_of_neg
abbrev Wl:=@Int.toNat_natCast
abbrev Wm:=@PySem.Around.under_plainId
abbrev Wn:=@PySem.mem_of_lookup
abbrev Wo:=@List.flatten_append
abbrev Wp:=@PySem.F.called_set
abbrev Wq:=@List.not_mem_nil
abbrev Wr:=@Sum.inr.inj
abbrev Ws:=@List.getElem_take
abbrev Wt:=@List.nil_append
abbrev Wu:=@List.length_nil
abbrev Wv:=@PySem.Heap.size_push
abbrev Ww:=@Nat.lt_trans
abbrev Wx:=@Nat.le_of_lt
abbrev Wy:=@Array.getD_eq_getD_getElem?
abbrev Wz:=@List.lookup_cons
abbrev Ua:=@List.all_eq_true
abbrev Ub:=@PySem.F.slot_dict_keyiterator_next
abbrev Uc:=@List.pairwise_cons
abbrev Ud:=@List.mem_range
abbrev Ue:=@List.mem_of_mem_erase
abbrev Uf:=@Array.getElem?_toList
abbrev Ug:=@PySem.Heap.get?_update_other
abbrev Uh:=@List.filter_nil
abbrev Ui:=@List.mem_of_mem_drop
abbrev Uj:=@List.map_take
abbrev Uk:=@List.map_drop
abbrev Ul:=@List.length_pos_iff
abbrev Um:=@List.cons_append
abbrev Uo:=@List.eq_nil_of_length_eq_zero
abbrev Uq:=@List.length_replicate
abbrev Ur:=@List.length_filter_le
abbrev Us:=@PyProof.Rows.callWith_type1
abbrev Ut:=@Nat.lt_of_succ_lt
abbrev Uu:=@List.flatMap_cons
abbrev Uv:=@List.filter_congr
abbrev Uw:=@List.perm_ext_iff_of_nodup
abbrev Ux:=@List.getElem?_append_right
abbrev Uy:=@PyProof.Rows.KeyOrd.kle_trans
abbrev Uz:=@List.mem_flatMap
abbrev Ja:=@List.length_drop
abbrev Jb:=@List.getElem_inj
abbrev Jc:=@Decidable.byContradiction
abbrev Jd:=@List.filter_eq_self
abbrev Je:=@List.Pairwise.imp_of_mem
abbrev Jf:=@PySem.F.slot_tuple_iterator_next
abbrev Jg:=@List.foldl_cons
abbrev Jh:=@List.find?_cons
abbrev Ji:=@List.ne_nil_of_mem
abbrev Jj:=@Int.emod_lt_of_pos
abbrev Jk:=@Nat.le_succ
abbrev Jl:=@Nat.lt_succ_of_lt
abbrev Jm:=@List.take_sublist
abbrev Jn:=@List.reverse_perm
abbrev Jo:=@List.reverse_cons
abbrev Jp:=@List.pairwise_map
abbrev Jq:=@List.map_nil
abbrev Jr:=@Bool.not_eq_true'
abbrev Js:=@Array.toList_push
abbrev Jt:=@PySem.SeqAt.EqAt.str_str
abbrev Ju:=@PyProof.Rows.boot_all
abbrev Jv:=@List.singleton_append
abbrev Jw:=@List.eq_nil_or_concat
abbrev Jx:=@List.concat_eq_append
abbrev Jy:=@List.perm_middle
abbrev Jz:=@Bool.and_eq_true
abbrev Ka:=@List.any_cons
abbrev Kb:=@List.perm_cons_erase
abbrev Kc:=@List.not_lt
abbrev Kd:=@List.getElem_toArray
abbrev Ke:=@Array.toList_reverse
abbrev Kf:=@PyProof.Rows.boot_isinstance
abbrev Kg:=@PyProof.Rows.KeyOrd.kle_refl
abbrev Kh:=@Int.emod_nonneg
abbrev Ki:=@List.perm_iff_count
abbrev Kj:=@List.length_reverse
abbrev Kk:=@List.filter_sublist
abbrev Kl:=@Prod.ext
abbrev Km:=@Nat.lt_of_le_of_lt
abbrev Kn:=@Bool.false_eq_true
abbrev Ko:=@PyProof.Rows.KeyOrd.kle_of_klt
abbrev Kp:=@List.sublist_append_right
abbrev Kq:=@List.extract_eq_take_drop
abbrev Kr:=@List.drop_eq_getElem_cons
abbrev Ks:=@Array.getElem?_eq_getElem
abbrev Kt:=@Nat.lt_trichotomy
abbrev Ku:=@List.length_range
abbrev Kv:=@List.count_append
abbrev Kw:=@List.Pairwise.map
abbrev Kx:=@PySem.Heap.SameBut.update
abbrev Ky:=@PySem.W.KasT.kasWp_bind
abbrev Kz:=@PySem.F.type_list_index
abbrev Xa:=@PySem.F.slot_list_index
abbrev Xb:=@PySem.F.plainAttrs_dict
abbrev Xc:=@PySem.Obj.data_mapFields
abbrev Xd:=@Nat.succ_ne_self
abbrev Xe:=@Nat.le_of_not_lt
abbrev Xf:=@List.cons_ne_nil
abbrev Xg:=@Array.toList_map
abbrev Xh:=@Array.toList_inj
abbrev Xi:=@PyProof.Rows.boot_list
abbrev Xj:=@List.count_cons
abbrev Xk:=@Bool.or_eq_true
abbrev Xl:=@PySem.W.methodCall_KW
abbrev Xm:=@PySem.F.slot_dict_get
abbrev Xn:=@List.getElem?_eq_none
abbrev Xo:=@PySem.F.slot_list_getattribute
abbrev Na:=PySem.W.Frag
abbrev Nb:=PySem.Value→PySem.Shared→Prop
abbrev Nc:=PySem.Addr
abbrev Nd:=List PySem.Str
abbrev Nf:=List (PySem.Addr×PySem.Obj)
abbrev Ng:=PySem.Str→Option PySem.Value
abbrev Nh:=PySem.Shared
abbrev Ni:=List PySem.Value
abbrev Nj:=PySem.Program
abbrev Nk:=List PySem.Addr
abbrev Nl:=PySem.World
abbrev Nm:=PySem.Heap
abbrev Nn:=PySem.Around
abbrev No:=PySem.Str→List PySem.Str
abbrev Np:=PySem.Str→Option PySem.Str
abbrev Nq:=List PySem.Expr
abbrev Nr:=List (PySem.Str×PySem.Str)
abbrev Nt:=List (Option Nat)
abbrev Nu:=PySem.Str→PySem.Str
abbrev Nv:=PySem.FuncData
abbrev Nw:=PySem.Result→PySem.Shared→Prop
section
set_option Elab.async false
inductive Ex1{T0:Sort _}(P:T0→Prop):Prop
 |mk (x0:T0) (h:P x0):Ex1 P
inductive Ex2{T0:Sort _}{T1:Sort _}(P:T0→T1→Prop):Prop
 |mk (x0:T0) (x1:T1) (h:P x0 x1):Ex2 P
inductive Ex3{T0:Sort _}{T1:Sort _}{T2:Sort _}(P:T0→T1→T2→Prop):Prop
 |mk (x0:T0) (x1:T1) (x2:T2) (h:P x0 x1 x2):Ex3 P
inductive Ex4{T0:Sort _}{T1:Sort _}{T2:Sort _}{T3:Sort _}(P:T0→T1→T2→T3→Prop):Prop
 |mk (x0:T0) (x1:T1) (x2:T2) (x3:T3) (h:P x0 x1 x2 x3):Ex4 P
inductive Ex5{T0:Sort _}{T1:Sort _}{T2:Sort _}{T3:Sort _}{T4:Sort _}(P:T0→T1→T2→T3→T4→Prop):Prop
 |mk (x0:T0) (x1:T1) (x2:T2) (x3:T3) (x4:T4) (h:P x0 x1 x2 x3 x4):Ex5 P
inductive Ex6{T0:Sort _}{T1:Sort _}{T2:Sort _}{T3:Sort _}{T4:Sort _}{T5:Sort _}(P:T0→T1→T2→T3→T4→T5→Prop):Prop
 |mk (x0:T0) (x1:T1) (x2:T2) (x3:T3) (x4:T4) (x5:T5) (h:P x0 x1 x2 x3 x4 x5):Ex6 P
inductive Ex7{T0:Sort _}{T1:Sort _}{T2:Sort _}{T3:Sort _}{T4:Sort _}{T5:Sort _}{T6:Sort _}(P:T0→T1→T2→T3→T4→T5→T6→Prop):Prop
 |mk (x0:T0) (x1:T1) (x2:T2) (x3:T3) (x4:T4) (x5:T5) (x6:T6) (h:P x0 x1 x2 x3 x4 x5 x6):Ex7 P
structure Aj2(p0 p1:Prop):Prop where
 h0:p0
 h1:p1
structure Aj3(p0 p1 p2:Prop):Prop where
 h0:p0
 h1:p1
 h2:p2
structure Aj4(p0 p1 p2 p3:Prop):Prop where
 h0:p0
 h1:p1
 h2:p2
 h3:p3
structure Aj5(p0 p1 p2 p3 p4:Prop):Prop where
 h0:p0
 h1:p1
 h2:p2
 h3:p3
 h4:p4
structure Aj6(p0 p1 p2 p3 p4 p5:Prop):Prop where
 h0:p0
 h1:p1
 h2:p2
 h3:p3
 h4:p4
 h5:p5
structure Aj7(p0 p1 p2 p3 p4 p5 p6:Prop):Prop where
 h0:p0
 h1:p1
 h2:p2
 h3:p3
 h4:p4
 h5:p5
 h6:p6
structure Aj8(p0 p1 p2 p3 p4 p5 p6 p7:Prop):Prop where
 h0:p0
 h1:p1
 h2:p2
 h3:p3
 h4:p4
 h5:p5
 h6:p6
 h7:p7
structure Aj9(p0 p1 p2 p3 p4 p5 p6 p7 p8:Prop):Prop where
 h0:p0
 h1:p1
 h2:p2
 h3:p3
 h4:p4
 h5:p5
 h6:p6
 h7:p7
 h8:p8
def zar1{a b:Nat}(h:a<b):b-(a+1)<b-a:=Nat.sub_lt_sub_left h (Wi a)
def zar3{a b:Nat}(h:a≤b)(k:¬a<b):a=b:=Nat.le_antisymm h (Xe k)
def zar4{a b:Nat}(h:a≤b):a+1≤b+1:=Nat.succ_le_succ h
def zar6{a b c:Nat}(e:a=b)(h:c<b):c<a:=e▸h
def zar7{a b c:Nat}(e:a=b)(h:c<a):c<b:=e▸h
def zar8{a b:Nat}(h:(a:Int)<(b:Int)):a<b:=Int.ofNat_lt.mp h
def zar9{a b:Nat}(h:a<b):(a:Int)<(b:Int):=Int.ofNat_lt.mpr h
def zar10{a b:Nat}(h:a<b)(k:b≤a):False:=Yy _ (Zw h k)
def zdz{a b c:Nat}(h:a≤b)(e:a=c):c≤b:=e▸h
def zar16{a b:Nat}(h:a≤b):a≤b+1:=Nat.le_succ_of_le h
end
section
set_option Elab.async false
set_option linter.all false
set_option maxRecDepth 100000
namespace L2
open PySem PySem.Spec PyProof.Rows
abbrev Key:=Sum Int Str
def keyIs:Key→Value→Bool
 |.inl k,v=>Value.isInt k v
 |.inr x,v=>Value.isStrOf x v
def keyH(w:Nl):Key→Int
 |.inl k=>hashInt k
 |.inr x=>hashStr w x
theorem za9:∀{k:Key} {v:Value},keyIs k v=true→(∃i t,k=Sum.inl i∧v=Value.int i t)∨(∃x t,k=Sum.inr x∧v=Value.str x t)
 |.inl i,v,h=>by
  obtain⟨t,e⟩:=Value.isInt_shape (k:=i) (v:=v) h
  exact .inl ⟨i,t,rfl,e⟩
 |.inr x,v,h=>by
  obtain⟨t,e⟩:=Value.isStrOf_shape (x:=x) (v:=v) h
  exact .inr ⟨x,t,rfl,e⟩
def keyIs_int(i:Int)(t:Tok):keyIs (.inl i) (.int i t)=true:=by simp[keyIs,Value.isInt]
def keyIs_str(x:Str)(t:Tok):keyIs (.inr x) (.str x t)=true:=by simp[keyIs,Value.isStrOf]
def key_ll(a b:Int):decide ((Sum.inl a:Key)=Sum.inl b)=(a==b):=by
 by_cases e:a=b
 ·subst e;simp
 ·have h:¬ (Sum.inl a:Key)=Sum.inl b:=fun q=>e (Sum.inl.inj q)
  rw[decide_eq_false h]
  exact(beq_eq_false_iff_ne.mpr e).symm
def key_rr(a b:Str):decide ((Sum.inr a:Key)=Sum.inr b)=decide (a=b):=by
 by_cases e:a=b
 ·subst e;simp
 ·have h:¬ (Sum.inr a:Key)=Sum.inr b:=fun q=>e (Wr q)
  rw[decide_eq_false h,decide_eq_false e]
def key_lr(a:Int)(b:Str):decide ((Sum.inl a:Key)=Sum.inr b)=false:=decide_eq_false (λq=>nomatch q)
def key_rl(a:Str)(b:Int):decide ((Sum.inr a:Key)=Sum.inl b)=false:=decide_eq_false (λq=>nomatch q)
def zap(prog:Nj)(w:Nl):PySem.KeyKind prog w Key where
 is:=keyIs
 hash:=keyH w
 inj:=λv a b ha hb=>by
  rcases za9 ha with⟨i,t,rfl,rfl⟩ | ⟨x,t,rfl,rfl⟩
  ·rcases za9 hb with ⟨j,u,rfl,e⟩ | ⟨y,u,rfl,e⟩
   ·injection e with e1 _;rw[e1]
   ·exact nomatch e
  ·rcases za9 hb with ⟨j,u,rfl,e⟩ | ⟨y,u,rfl,e⟩
   ·exact nomatch e
   ·injection e with e1 _;rw[e1]
 byValue:=λk v h=>by
  rcases za9 h with⟨i,t,rfl,rfl⟩ | ⟨x,t,rfl,rfl⟩<;>rfl
 pyHash:=λhv h=>by
  rcases za9 hv with⟨i,t,rfl,rfl⟩ | ⟨x,t,rfl,rfl⟩
  ·exact wpAny_pyHash_int h
  ·exact wpAny_pyHash_str h
 eqBool:=λhu hv h=>by
  rcases za9 hu with⟨i,t,rfl,rfl⟩ | ⟨x,t,rfl,rfl⟩
  ·rcases za9 hv with ⟨j,u,rfl,rfl⟩ | ⟨y,u,rfl,rfl⟩
   ·rw[key_ll]at h;exact wpAny_eqBool_int h
   ·rw[key_lr]at h;exact SeqAt.EqAt.int_str i t y u _ _ _ _ h
  ·rcases za9 hv with ⟨j,u,rfl,rfl⟩ | ⟨y,u,rfl,rfl⟩
   ·rw[key_rl]at h;exact SeqAt.EqAt.str_int x t j u _ _ _ _ h
   ·rw[key_rr]at h;exact wpAny_eqBool_str h
 «strs»:=λk x t v h=>by
  rcases za9 h with⟨i,u,rfl,e⟩ | ⟨y,u,rfl,e⟩
  ·exact nomatch e
  ·injection e with e1 _
   subst e1
   cases v<;>rfl
def mixKind_int(prog:Nj)(w:Nl)(i:Int)(t:Tok):(zap prog w).is (.inl i) (.int i t)=true:=keyIs_int i t
def zgd(prog:Nj)(w:Nl)(x:Str)(t:Tok):(zap prog w).is (.inr x) (.str x t)=true:=keyIs_str x t
end L2
namespace L2
open PySem PySem.Spec PyProof.Rows
inductive V where
 |non | bl (b:Bool) | int (i:Int) | str (x:Str) | byt (b:Array UInt8) | flt (b:UInt64) | ref (a:Nc) | ty (n:String)
 deriving DecidableEq
def RelV:V→Value→Prop
 |.non,u=>u=Value.none
 |.bl b,u=>u=Value.bool b
 |.int i,u=>∃t,u=Value.int i t
 |.str x,u=>∃t,u=Value.str x t
 |.byt b,u=>∃t,u=Value.bytes b t
 |.flt b,u=>∃t,u=Value.float b t
 |.ref a,u=>u=Value.ref a
 |.ty n,u=>u=Value.type n
abbrev Vals:List V→List Value→Prop:=Paired RelV
def Vals.length{xs:List V}{us:Ni}(r:Vals xs us):xs.length=us.length:=Yb r
theorem Vals.get:∀{xs:List V} {us:Ni} {i:Nat} {x:V},Vals xs us→xs[i]?=some x→∃u,us[i]?=some u∧RelV x u
 |_,_,_,_,.nil,e=>by simp at e
 |_,_,0,_,.cons r _,e=>by simp at e;subst e;exact⟨_,rfl,r⟩
 |_,_,i+1,x,.cons _ t,e=>by
  obtain⟨u,h1,h2⟩:=Vals.get (i:=i) (x:=x) t (by simpa using e)
  exact⟨u,by simpa using h1,h2⟩
theorem Vals.set(r:RelV x u):∀{xs:List V} {us:Ni} (i:Nat),Vals xs us→Vals (xs.set i x) (us.set i u)
 |_,_,_,.nil=>.nil
 |_,_,0,.cons _ t=>.cons r t
 |_,_,i+1,.cons q t=>.cons q (Vals.set r i t)
theorem Vals.append:∀{xs ys:List V} {us ws:Ni},Vals xs us→Vals ys ws→Vals (xs++ys) (us++ws)
 |_,_,_,_,.nil,s=>s
 |_,_,_,_,.cons r t,s=>.cons r (Vals.append t s)
theorem Vals.take:∀{xs:List V} {us:Ni} (n:Nat),Vals xs us→Vals (xs.take n) (us.take n)
 |_,_,0,_=>.nil
 |_,_,_+1,.nil=>.nil
 |_,_,n+1,.cons r t=>.cons r (Vals.take n t)
theorem Vals.drop:∀{xs:List V} {us:Ni} (n:Nat),Vals xs us→Vals (xs.drop n) (us.drop n)
 |_,_,0,r=>r
 |_,_,_+1,.nil=>.nil
 |_,_,n+1,.cons _ t=>Vals.drop n t
def RelO:Option V→Option Value→Prop
 |some v,some u=>RelV v u
 |none,none=>True
 |_,_=>False
def KV{κ:Type}:List (κ×V)→List (κ×Value)→Prop:=Paired λ(p:κ×V) (q:κ×Value)=>p.1=q.1∧RelV p.2 q.2
def kV:Key→V
 |.inl i=>.int i
 |.inr x=>.str x
inductive HO where
 /-- a list -/
 |lst (xs:List V)
 /-- a tuple (never changes) -/
 |tup (xs:List V)
 /-- a dict whose keys are ints and texts;one whose keys are tuples of ints and texts (the empty one is both) -/
 |dK (kvs:List (Key×V)) | dT (kvs:List (List Key×V))
 /-- a set of ints: a7 members,a7 size -/
 |set (S:Int→Bool) (n:Nat)
 /-- an instance of the class at C,a7 dict at dx,a7 attributes -/
 |ins (C dx:Nc) (fs:List (Str×V))
 /-- the dict of the instance at x -/
 |own (x:Nc)
 /-- the dict of an exception -/
 |xd (fs:List (Str×V))
 /-- a bound method,f of x -/
 |met (f x:Nc)
 /-- a range object lo,lo+1,.. below hi -/
 |rng (lo hi:Int)
 /-- a thing that is known to the object (the script;a dict while a loop walks it): read,never written while it is so -/
 |frz (o:Obj) (u:HO)
 /-- a code object's table -/
 |tbl (ps:Array Value)
 /-- any other thing,by what is true of a7 one object (a def of one's own: SetO a S n:=HO.ext λh=>..) -/
 |ext (φ:Heap→Prop)
abbrev Hp:=Addr→Option HO
def upd(H:Hp)(a:Nc)(o:HO):Hp:=λb=>if b=a then some o else H b
def zab{H:Hp}{a:Nc}{o:HO}:upd H a o a=some o:=by unfold upd;rw[if_pos rfl]
def zad{H:Hp}{a b:Nc}{o:HO}(h:b≠a):upd H a o b=H b:=by unfold upd;rw[if_neg h]
def upd_upd:upd (upd H a o) a u=upd H a u:=by
 funext b;unfold upd;split<;>rfl
def zay{H:Hp}{a b:Nc}{o u:HO}(h:H a=some o)(h':H b=some u)(d:o≠u):a≠b:=by
 intro e;subst e;rw[h]at h';exact d (Qp h')
def zaa{H:Hp}{a b:Nc}{o:HO}(h:H a=some o)(h':H b=none):a≠b:=by
 intro e;subst e;rw[h]at h';cases h'
section
variable(P:Nj)(w:Nl)
def zbp(H:Hp)(h:Nm)(a:Nc):HO→Prop
 |.lst xs=>xs.length≤sizeLine∧∃(a7:Ni) (n:Nat),Vals xs a7∧h.get? a=some {cls:=.type "list",data:=.seq a7.toArray n}
 |.tup xs=>xs.length≤sizeLine∧∃a7:List Value,Vals xs a7∧IsTup h a a7.toArray
 |.dK kvs=>kvs.length≤sizeLine∧(a==sysModules)=false∧∃vs,KV kvs vs∧h.DictOf (zap P w) a vs
 | .dT kvs=>kvs.length≤sizeLine∧(a == sysModules)=false∧∃ xs:List (List Key×Addr×Value),
   Paired (λ(p:List Key×V) (q:List Key×Addr×Value)=>p.1=q.1∧H q.2.1=some (.tup (p.1.map kV))∧RelV p.2 q.2.2) kvs xs ∧
   ∃o es ep,h.get? a=some o∧o.ExactDict∧o.data=.dict es ep∧es.toList=xs.map (entryOfKey (tupleKind (zap P w)))∧(xs.map (·.1)).Nodup
 |.set S n=>h.SetOf (intKind P w) a S n
 | .ins C dx fs=>H dx=some (.own a)∧fs.length≤1000∧dx≠a∧h.get? a=some (PySem.W.instObj C dx) ∧
   ∃mA,h.Ns1 dx mA∧(∀f,RelO (fs.lookup f) (mA f))∧PySem.Within mA (fs.map (·.1))
 |.own _=>∃o,h.get? a=some o
 |.xd fs=>∃mA,h.Ns1 a mA∧∀f,RelO (fs.lookup f) (mA f)
 |.rng lo hi=>∃t u v,h.get? a=some {cls:=.type "range",data:=.fields #[.int lo t,.int hi u,.int 1 v]}
 |.frz o u=>h.get? a=some o∧zbp H h a u
 |.tbl ps=>h.get? a=some {cls:=.none,data:=.fields ps}
 |.met f x=>h.get? a=some (PySem.W.methodObj (.ref f) (.ref x))
 |.ext φ=>φ h∧(∃o,h.get? a=some o)∧∀h1 h2:Heap,φ h1→(∀o,h1.get? a=some o→h2.get? a=some o)→φ h2
def HOk(H:Hp)(h:Nm):Prop:=∀a o,H a=some o→zbp P w H h a o
end
section
variable{P:Nj}{w:Nl}{H H':Hp}{h h':Nm}{a:Nc}{o:HO}
def zbp.lt(x:zbp P w H h a o):a<h.objs.size:=by
 cases o with
 |lst xs=>obtain⟨_,_,_,_,e⟩:=x;exact Qu e
 |tup xs=>obtain⟨_,_,_,p⟩:=x;exact p.lt
 |dK kvs=>obtain⟨_,_,_,_,o,_,_,e,_⟩:=x;exact Qu e
 |dT kvs=>obtain⟨_,_,_,_,o,_,_,e,_⟩:=x;exact Qu e
 |set S n=>obtain⟨o,_,_,_,e,_⟩:=x;exact Qu e
 |ins C dx fs=>obtain⟨_,_,_,e,_⟩:=x;exact Qu e
 |own y=>obtain⟨_,e⟩:=x;exact Qu e
 |xd fs=>obtain⟨_,⟨_,_,_,e,_⟩,_⟩:=x;exact Qu e
 |rng lo hi=>obtain⟨_,_,_,e⟩:=x;exact Qu e
 |frz ob u=>obtain⟨e,_⟩:=x;exact Qu e
 |tbl ps=>exact Qu (show h.get? a=some _ from x)
 |met f y=>exact Qu (show h.get? a=some _ from x)
 |ext φ=>obtain⟨_,⟨_,e⟩,_⟩:=x;exact Qu e
theorem Paired.mapP:∀{l₁:List α} {l₂:List β},Paired F l₁ l₂→(∀a b,F a b→G a b)→Paired G l₁ l₂
 |_,_,.nil,_=>.nil
 |_,_,.cons r t,f=>.cons (f _ _ r) (Paired.mapP t f)
def Paired.imp'{α β:Type}{F G:α→β→Prop}(f:∀a b,F a b→G a b){l₁:List α}{l₂:List β}(r:Paired F l₁ l₂):Paired G l₁ l₂:=Paired.mapP r f
def zbp.stay(x:zbp P w H h a o)(k:∀b u,(b=a∨H b=some (.own a))→h.get? b=some u→h'.get? b=some u)(ho:∀b,H b=some (.own a)→H' b=some (.own a))(ht:∀b xs,H b=some (.tup xs)→H' b=some (.tup xs)):zbp P w H' h' a o:=by
 induction o with
 |lst xs=>obtain⟨z,a7,n,r,e⟩:=x;exact⟨z,a7,n,r,k _ _ (.inl rfl) e⟩
 |tup xs=>obtain⟨z,a7,r,ob,e,c⟩:=x;exact⟨z,a7,r,ob,k _ _ (.inl rfl) e,c⟩
 |dK kvs=>obtain⟨z,y,vs,r,ob,es,ep,e,c⟩:=x;exact⟨z,y,vs,r,ob,es,ep,k _ _ (.inl rfl) e,c⟩
 |dT kvs =>
  obtain⟨z,y,xs,r,ob,es,ep,e,c⟩:=x
  exact⟨z,y,xs,Paired.mapP r λp q z=>⟨z.1,ht _ _ z.2.1,z.2.2⟩,ob,es,ep,k _ _ (.inl rfl) e,c⟩
 |set S n=>obtain⟨ob,es,ep,t,e,c⟩:=x;exact⟨ob,es,ep,t,k _ _ (.inl rfl) e,c⟩
 |ins C dx fs =>
  obtain⟨d,z,ne,e,mA,⟨od,es,ep,e2,c⟩,r⟩:=x
  exact⟨ho _ d,z,ne,k _ _ (.inl rfl) e,mA,⟨od,es,ep,k _ _ (.inr d) e2,c⟩,r⟩
 |own y=>obtain⟨ob,e⟩:=x;exact⟨ob,k _ _ (.inl rfl) e⟩
 |xd fs=>obtain⟨mA,⟨od,es,ep,e,c⟩,r⟩:=x;exact⟨mA,⟨od,es,ep,k _ _ (.inl rfl) e,c⟩,r⟩
 |rng lo hi=>obtain⟨t,u,v,e⟩:=x;exact⟨t,u,v,k _ _ (.inl rfl) e⟩
 |frz ob u ih=>obtain⟨e,q⟩:=x;exact⟨k _ _ (.inl rfl) e,ih q⟩
 |tbl ps =>
  have e:h.get? a=some {cls:=.none,data:=.fields ps}:=x
  show h'.get? a=some {cls:=.none,data:=.fields ps}
  exact k a _ (.inl rfl) e
 |met f y =>
  have e:h.get? a=some (PySem.W.methodObj (.ref f) (.ref y)):=x
  show h'.get? a=some (PySem.W.methodObj (.ref f) (.ref y))
  exact k a _ (.inl rfl) e
 |ext φ=>obtain⟨p,⟨o,e⟩,st⟩:=x;exact⟨st _ _ p λo q=>k _ _ (.inl rfl) q,⟨o,k _ _ (.inl rfl) e⟩,st⟩
def HOk.lt(x:HOk P w H h)(e:H a=some o):a<h.objs.size:=(x a o e).lt
def HOk.fresh(x:HOk P w H h)(e:h.objs.size≤a):H a=none:=by
 cases q:H a with
 |none=>rfl
 |some u=>exact absurd (Zw (x.lt q) e) (Yy _)
def HOk.kept(x:HOk P w H h)(k:∀b u,h.get? b=some u→h'.get? b=some u):HOk P w H h':=λa o e =>
 (x a o e).stay (λb u _ q=>k b u q) (λ_ q=>q) λ_ _ q=>q
def HOk.laid(x:HOk P w H h)(k:∀b u,h.get? b=some u→h'.get? b=some u)(hp:h.objs.size≤a)(new:zbp P w (upd H a o) h' a o):HOk P w (upd H a o) h':=λb u e=>by
 have hn:=x.fresh hp
 by_cases hb:b=a
 ·subst hb;rw[zab]at e;cases e;exact new
 ·rw [zad hb] at e
  exact(x b u e).stay (λc v _ q=>k c v q) (λc q=>by rw[zad (zaa q hn)];exact q) λc xs q=>by rw[zad (zaa q hn)];exact q
end
def Rd(H:Hp)(a:Nc)(u:HO):Prop:=H a=some u∨∃o,H a=some (.frz o u)
def Rd.ok{P:Nj}{w:Nl}{H:Hp}{h:Nm}{a:Nc}{u:HO}(r:Rd H a u)(x:HOk P w H h):zbp P w H h a u:=by
 rcases r with r | ⟨o,r⟩
 ·exact x a u r
 ·obtain ⟨_,q⟩:=x a _ r
  exact q
def Mut:Option HO→Prop
 |some (.lst _)=>True
 |some (.dK _)=>True
 |some (.dT _)=>True
 |some (.set _ _)=>True
 |some (.ins _ _ _)=>True
 |some (.ext _)=>True
 |_=>False
section
variable{P:Nj}{w:Nl}{H:Hp}{h h':Nm}{x e:Nc}{o':HO}
def HOk.write(ok:HOk P w H h)(mu:Mut (H x))(he:e=x∨H e=some (.own x))(k:∀ b u,b≠e→h.get? b=some u→h'.get? b=some u)(iH:∃ u,h'.get? e=some u)(new:zbp P w (upd H x o') h' x o'):HOk P w (upd H x o') h':=λb u q=>by
 have nown:∀c y,H c=some (.own y)→c≠x:=λc y r z=>by subst z;rw[r]at mu;exact mu
 have ntup:∀c xs,H c=some (.tup xs)→c≠x:=λc xs r z=>by subst z;rw[r]at mu;exact mu
 by_cases hb:b=x
 ·subst hb;rw[zab]at q;cases q;exact new
 ·rw [zad hb] at q
  by_cases lH:b=e
  ·have q':H b=some (.own x):=by
    rcases he with z | z
    ·exact absurd (lH.trans z) hb
    ·rw[lH];exact z
   rw[q]at q';cases q'
   obtain⟨v,hv⟩:=iH
   exact⟨v,by rw[lH];exact hv⟩
  ·refine (ok b u q).stay (fun c v hc r=>k c v ?_ r) (fun c r=>by rw [zad (nown c b r)];exact r) fun c xs r=>by rw [zad (ntup c xs r)];exact r
   rcases hc with rfl | hc
   ·exact lH
   ·rintro rfl
    rcases he with z | z
    ·exact nown c b hc z
    ·rw[hc]at z;cases z;exact hb rfl
end
structure Un(fs ex:Nk)(H H':Hp)(h h':Nm):Prop where
 keep:∀b o,h.get? b=some o→H b=none→b∉fs→b∉ex→h'.get? b=some o
 slot:∀b o,h.get? b=some o→H b=none→b∈fs→b∉ex→∃sl,h'.get? b=some {o with slots:=sl}
 free:∀b o,h.get? b=some o→H b=none→b∉ex→H' b=none
 there:∀b o,h.get? b=some o→b∉ex→∃o',h'.get? b=some o'
 tups:∀b xs,H b=some (.tup xs)→H' b=some (.tup xs)
 frzs:∀b o u,H b=some (.frz o u)→H' b=some (.frz o u)
 tbls:∀b ps,H b=some (.tbl ps)→∃more,H' b=some (.tbl (ps++more))
section
variable{fs fs' ex ql:Nk}{H H1 H2:Hp}{h h1 h2 h':Nm}{a x e:Nc}{o:HO}
def Un.any(u:Un fs ex H H1 h h1){b:Nc}{ob:Obj}(q:h.get? b=some ob)(n:H b=none)(hx:b∉ex):∃sl,h1.get? b=some {ob with slots:=sl}:=by
 by_cases hb:b∈fs
 ·exact u.slot b ob q n hb hx
 ·exact⟨ob.slots,u.keep b ob q n hb hx⟩
def Un.kept(k:∀b u,h.get? b=some u→h'.get? b=some u):Un fs ex H H h h' :=
 ⟨λb ob q _ _ _=>k b ob q,λb ob q _ _ _=>⟨ob.slots,k b ob q⟩,λ_ _ _ n _=>n,λb ob q _=>⟨ob,k b ob q⟩,λ_ _ q=>q,λ_ _ _ q=>q,λ_ ps q=>⟨#[],by rw[q];simp⟩⟩
def Un.refl:Un fs ex H H h h:=Un.kept λ_ _ q=>q
theorem Un.laid(k:∀b u,h.get? b=some u→h'.get? b=some u)(hp:h.objs.size≤a)(hn:H a=none):Un fs ex H (upd H a o) h h' where
 keep:=λb u q _ _ _=>k b u q
 slot:=λb u q _ _ _=>⟨u.slots,k b u q⟩
 free:=λb u q n _=>by rw[zad (Ze (Zw (Qu q) hp))];exact n
 there:=λb u q _=>⟨u,k b u q⟩
 tups:=λb xs q=>by rw[zad (zaa q hn)];exact q
 frzs:=λb u xs q=>by rw[zad (zaa q hn)];exact q
 tbls:=λb ps q=>⟨#[],by rw[zad (zaa q hn),q];simp⟩
def Un.write(mu:Mut (H x))(he:e=x∨H e=some (.own x))(k:∀b u,b≠e→h.get? b=some u→h'.get? b=some u)(iH:∃u,h'.get? e=some u):Un fs ex H (upd H x o) h h':=by
 have hx:∀b,H b=none→b≠x:=λb n z=>by subst z;rw[n]at mu;exact mu
 have hb:∀b,H b=none→b≠e:=λb n z=>by
  subst z
  rcases he with r | r
  ·exact hx b n r
  ·rw[n]at r;cases r
 have hm:∀b u,H b=some u→¬Mut (some u)→b≠x:=λb u q nm z=>by subst z;rw[q]at mu;exact nm mu
 refine⟨λb u q n _ _=>k b u (hb b n) q,λb u q n _ _=>⟨u.slots,k b u (hb b n) q⟩,λb u q n _=>by rw[zad (hx b n)];exact n,λb u q _=>?_,
  λb xs q=>by rw[zad (hm b _ q λz=>z)];exact q,λb u xs q=>by rw[zad (hm b _ q λz=>z)];exact q,λb ps q=>⟨#[],by rw[zad (hm b _ q λz=>z),q];simp⟩⟩
 by_cases lH:b=e
 ·subst lH;exact iH
 ·exact⟨u,k b u lH q⟩
end
def trk(h:Nm)(H:Hp):List Addr:=(List.range h.objs.size).filter λa=>(H a).isSome
def hidT(h:Nm)(H:Hp):Heap:=PySem.W.hideAll h (trk h H)
def hidT_size(h:Nm)(H:Hp):(hidT h H).objs.size=h.objs.size:=PySem.W.hideAll_size _ _
def hidT_get{h:Nm}{H:Hp}{b:Nc}{o:Obj}(e:h.get? b=some o)(n:H b=none):(hidT h H).get? b=some o :=
 PySem.W.hideAll_get _ e λhm=>by
  have q:(H b).isSome=true:=(Zj.mp hm).2
  rw[n]at q;simp at q
def of_hidT{h:Nm}{H:Hp}{b:Nc}{o:Obj}(e:(hidT h H).get? b=some o):h.get? b=some o∧H b=none:=by
 have e':h.get? b=some o:=PySem.W.of_hideAll (trk h H) e
 refine⟨e',?_⟩
 cases q:H b with
 |none=>rfl
 |some x =>
  have hm:b∈trk h H:=Zj.mpr ⟨Ud.mpr (Qu e'),by simp[q]⟩
  have z:(hidT h H).get? b=none:=PySem.W.hideAll_none (trk h H) hm
  rw[z]at e;cases e
end L2
namespace L2
open PySem PySem.Spec PyProof.Rows
structure Mod(K:Na)(mg:Ng)(base:Nm):Prop where
 kin:K.In base
 glob:base.Ns mainGlobals mg
 blt:∃mb,base.Ns builtinsNs mb∧∀x:Str,x ≠ "__name__" → mb x=bootBuiltins x
 nolimit:base.NoLimit
structure Cx where
 prog:Program
 w:World
 K:PySem.W.Frag
 mg:Str→Option Value
 base:Heap
 A:Around
 N:List Str
 s₀:Shared
 H₀:Hp
 env:Env
 outer:List Env
 stack:List Env
 ex:List Addr
 fn:Str→Bool
 calm:Bool
 pn:List (Addr×Obj)
 xe:Value→Shared→Prop
def frs(l:List Env):List Addr:=l.filterMap (·.frame)
abbrev Cx.fs(X:Cx):List Addr:=frs X.outer
def Vis(sc:Scope)(x:Str):Prop:=sc.names.lookup x=some .local∨sc.names.lookup x=some .cell∨sc.names.lookup x=some .free
def Loc(sc:Scope)(x:Str):Prop:=sc.names.lookup x=some .local∨sc.names.lookup x=some .cell
def Look(env:Env)(h:Nm)(m:Ng)(x:Str)(u:Value):Prop :=
 (env.kindOf x=some .local∧m x=some u)∨((env.kindOf x=some .cell∨env.kindOf x=some .free)∧∃c,env.cells.lookup x=some c∧h.IsCell c (some u))
structure Cx.Ok(X:Cx):Prop where
 mod:Mod X.K X.mg X.base
 kind:X.env.scope.kind=.function
 glob:X.env.globals=mainGlobals
 blt:X.env.builtins=builtinsNs
 above:X.s₀.heap.objs.size≤X.env.locals
 inj:∀x y c,X.env.cells.lookup x=some c→X.env.cells.lookup y=some c→x=y
 has:∀x,(X.env.kindOf x=some .cell∨X.env.kindOf x=some .free)→∃c,X.env.cells.lookup x=some c
 cab:∀x c,X.fn x=true→X.env.cells.lookup x=some c→X.s₀.heap.objs.size≤c
 hd:X.calm=true→X.A.handled=none
 frames:X.A.frames=some X.stack
 stk:X.stack=X.outer∨(X.stack=X.env::X.outer∧X.env.frame=some X.env.locals)
 exf:∀b∈X.ex,b≠X.env.locals∧∀x c,X.env.cells.lookup x=some c→c≠b
 bs:∀b o,X.base.get? b=some o→X.s₀.heap.get? b=some o∧X.H₀ b=none
 bsz:X.base.objs.size≤X.s₀.heap.objs.size
 noex:∀b o,X.base.get? b=some o→b∉X.ex
 exfs:∀b∈X.ex,b∉X.fs
 funs:X.s₀.heap.FunFrames X.base X.outer
 frf:∀b∈X.fs,X.H₀ b=none
structure Inv(X:Cx)(a0:Nf)(σ:List (Option V))(H:Hp)(s:Nh):Prop where
 ok:X.Ok
 os:s.os=X.s₀.os
 bare:AllBare s.gens
 base:Un X.fs X.ex X.H₀ H X.s₀.heap s.heap
 loc:∃m,s.heap.Ns X.env.locals m∧∀(i:Nat) (x:Str) (v:V),X.N[i]?=some x→σ[i]?=some (some v)→Vis X.env.scope x→∃u,RelV v u∧Look X.env s.heap m x u
 cell:∀x c,X.env.cells.lookup x=some c→∃v,s.heap.IsCell c v
 free:H X.env.locals=none
 freeC:∀x c,X.env.cells.lookup x=some c→H c=none
 pin:∀p∈X.pn++a0,s.heap.get? p.1=some p.2∧H p.1=none∧p.1≠X.env.locals∧p.1∉X.fs∧∀v,p.2.data≠.cell v
 hok:HOk X.prog X.w H s.heap
 len:σ.length=X.N.length
section
variable{X:Cx}{a0:Nf}{σ:List (Option V)}{H H':Hp}{s:Nh}{h':Nm}
def Cx.Ok.nofr(ok:X.Ok)(e:X.base.get? b=some o):b∉X.fs:=λhb=>by
 have:=(ok.funs.mem hb).1
 rw[e]at this;cases this
def Inv.bs(I:Inv X a0 σ H s):∀b o,X.base.get? b=some o→s.heap.get? b=some o∧H b=none:=λb o e =>
 ⟨I.base.keep b o (I.ok.bs b o e).1 (I.ok.bs b o e).2 (I.ok.nofr e) (I.ok.noex b o e),I.base.free b o (I.ok.bs b o e).1 (I.ok.bs b o e).2 (I.ok.noex b o e)⟩
def Inv.bk(I:Inv X a0 σ H s):∀b o,X.base.get? b=some o→s.heap.get? b=some o:=λb o e=>(I.bs b o e).1
def Inv.mod(I:Inv X a0 σ H s):Mod X.K X.mg X.base:=I.ok.mod
def Inv.kIn(I:Inv X a0 σ H s):X.K.In s.heap:=I.ok.mod.kin.keeps I.bk
def Inv.lt(I:Inv X a0 σ H s):X.env.locals<s.heap.objs.size:=let⟨_,hn,_⟩:=I.loc;hn.lt
def Inv.sz(I:Inv X a0 σ H s):X.s₀.heap.objs.size≤s.heap.objs.size:=Zd I.ok.above (Wx I.lt)
def Inv.nofs(I:Inv X a0 σ H s)(h:s.heap.objs.size≤a):a∉X.fs:=λhb=>by
 obtain⟨_,o,ho,_⟩:=I.ok.funs.mem hb
 exact absurd (Zw (Qu ho) (Zd I.sz h)) (Yy _)
def Inv.cne(I:Inv X a0 σ H s):∀x c,X.env.cells.lookup x=some c→c≠X.env.locals:=λx c e z=>by
 obtain⟨v,o,ho,hd⟩:=I.cell x c e
 obtain⟨m,⟨o',es,ep,dG,iI,_⟩,_⟩:=I.loc
 rw[z,dG]at ho;cases ho;rw[iI]at hd;cases hd
def Inv.funs(I:Inv X a0 σ H s):s.heap.FunFrames X.base X.outer:=by
 have all:∀(l:List Env),(∀b∈frs l,b∈X.fs)→X.s₀.heap.FunFrames X.base l→s.heap.FunFrames X.base l:=by
  intro l
  induction l with
  |nil=>intro _ _;trivial
  |cons env r ih =>
   intro hs hl
   obtain⟨hk,⟨L,o,hf,hn,ho,hd⟩,hr⟩:=hl
   have hL:L∈X.fs:=hs L (by unfold frs;rw[List.filterMap_cons,hf];exact List.mem_cons_self)
   obtain⟨sl,e⟩:=I.base.slot L o ho (I.ok.frf L hL) hL λz=>I.ok.exfs L z hL
   exact⟨hk,⟨L,_,hf,hn,e,hd⟩,ih (λb hb=>hs b (by unfold frs;rw[List.filterMap_cons,hf];exact List.mem_cons_of_mem _ hb)) hr⟩
 exact all X.outer (λ_ hb=>hb) I.ok.funs
def Inv.stack(I:Inv X a0 σ H s):s.heap.FunFrames X.base X.stack:=by
 rcases I.ok.stk with e | ⟨e,hf⟩
 ·rw[e];exact I.funs
 ·rw [e]
  obtain⟨m,hn,_⟩:=I.loc
  refine .cons (by rw[I.ok.kind];decide) hf hn ?_ I.funs
  exact Heap.get?_none_of_le (Zd I.ok.bsz I.ok.above)
def Inv.stkSub(I:Inv X a0 σ H s):∀b∈frs X.stack,b∈X.env.locals::X.fs:=λb hb=>by
 rcases I.ok.stk with e | ⟨e,hf⟩
 ·rw[e]at hb;exact Qh _ hb
 ·rw [e] at hb
  unfold frs at hb
  rw[List.filterMap_cons,hf]at hb
  exact hb
def Inv.stkFree(I:Inv X a0 σ H s):∀b∈frs X.stack,H b=none:=λb hb=>by
 rcases Qd.mp (I.stkSub b hb) with e | hb
 ·rw[e];exact I.free
 ·obtain ⟨_,o,ho,_⟩:=I.ok.funs.mem hb
  exact I.base.free b o ho (I.ok.frf b hb) λz=>I.ok.exfs b z hb
def Inv.step{g':Array GenState}{t':Nat}{d':Drawn}{ch:Nk}(I:Inv X a0 σ H s)(iL:∀b∈ch,(b∈X.ex∨X.s₀.heap.objs.size≤b)∧b≠X.env.locals∧(∀x c,X.env.cells.lookup x=some c→c≠b)∧∀p∈X.pn++a0,p.1≠b)(keep:∀b o,b≠X.env.locals→b∉X.fs→b∉ch→s.heap.get? b=some o→H b=none→h'.get? b=some o)(slot:∀b o,b≠X.env.locals→b∈X.fs→b∉ch→s.heap.get? b=some o→H b=none→∃sl,h'.get? b=some {o with slots:=sl})(free:∀b o,b∉ch→s.heap.get? b=some o→H b=none→H' b=none)(there:∀b o,b∉ch→s.heap.get? b=some o→∃o',h'.get? b=some o')(tups:∀b xs,H b=some (.tup xs)→H' b=some (.tup xs))(frzs:∀b o u,H b=some (.frz o u)→H' b=some (.frz o u))(tbls:∀b ps,H b=some (.tbl ps)→∃more,H' b=some (.tbl (ps++more)))(ns:∀m,s.heap.Ns X.env.locals m→h'.Ns X.env.locals m)(hok:HOk X.prog X.w H' h')(hg:AllBare g') :
  Inv X a0 σ H' {s with heap:=h',gens:=g',drawn:=d',toks:=t'}:=by
 have neL:∀b o,X.s₀.heap.get? b=some o→b≠X.env.locals:=λb o e=>Ze (Zw (Qu e) I.ok.above)
 have neC:∀b o,X.s₀.heap.get? b=some o→b∉X.ex→b∉ch:=λb o e hx hb=>by
  rcases(iL b hb).1 with z | z
  ·exact hx z
  ·exact absurd (Zw (Qu e) z) (Yy _)
 have cellK:∀x c,X.env.cells.lookup x=some c→∀v,s.heap.IsCell c v→h'.IsCell c v:=λx c e v ⟨o,ho,hd⟩=>by
  have nch:c∉ch:=λz=>(iL c z).2.2.1 x c e rfl
  by_cases hc:c∈X.fs
  ·obtain ⟨sl,q⟩:=slot c o (I.cne x c e) hc nch ho (I.freeC x c e)
   exact⟨_,q,hd⟩
  ·exact⟨o,keep c o (I.cne x c e) hc nch ho (I.freeC x c e),hd⟩
 refine⟨I.ok,I.os,hg,⟨λb o e n hb hx=>?_,λb o e n hb hx=>?_,λb o e n hx=>?_,λb o e hx=>?_,λb xs e=>tups b xs (I.base.tups b xs e),λb o xs e=>frzs b o xs (I.base.frzs b o xs e),λb ps e=>?_⟩,?_,λx c e=>?_,?_,λx c e=>?_,λp hp=>?_,hok,I.len⟩
 ·exact keep b o (neL b o e) hb (neC b o e hx) (I.base.keep b o e n hb hx) (I.base.free b o e n hx)
 ·obtain ⟨sl,e1⟩:=I.base.slot b o e n hb hx
  obtain⟨sl',e2⟩:=slot b _ (neL b o e) hb (neC b o e hx) e1 (I.base.free b o e n hx)
  exact⟨sl',e2⟩
 ·obtain ⟨o',e1⟩:=I.base.there b o e hx
  exact free b o' (neC b o e hx) e1 (I.base.free b o e n hx)
 ·obtain ⟨o',e1⟩:=I.base.there b o e hx
  exact there b o' (neC b o e hx) e1
 ·obtain ⟨m1,e1⟩:=I.base.tbls b ps e
  obtain⟨m2,e2⟩:=tbls b _ e1
  exact⟨m1++m2,by rw[e2,Array.append_assoc]⟩
 ·obtain ⟨m,hn,hl⟩:=I.loc
  refine⟨m,ns m hn,λi x v e1 e2 e3=>?_⟩
  obtain⟨u,r,l⟩:=hl i x v e1 e2 e3
  refine⟨u,r,?_⟩
  rcases l with l | ⟨k,c,e,z⟩
  ·exact .inl l
  ·exact .inr ⟨k,c,e,cellK x c e _ z⟩
 ·obtain ⟨v,z⟩:=I.cell x c e
  exact⟨v,cellK x c e v z⟩
 ·obtain ⟨m,⟨o,_,_,ho,_⟩,_⟩:=I.loc
  exact free _ o (λz=>(iL _ z).2.1 rfl) ho I.free
 ·obtain ⟨v,o,ho,hd⟩:=I.cell x c e
  exact free c o (λz=>(iL c z).2.2.1 x c e rfl) ho (I.freeC x c e)
 ·obtain ⟨e,n,ne,nf,d⟩:=I.pin p hp
  have nch:p.1∉ch:=λz=>(iL p.1 z).2.2.2 p hp rfl
  exact⟨keep p.1 p.2 ne nf nch e n,free p.1 p.2 nch e n,ne,nf,d⟩
def Inv.un{t':Nat}(I:Inv X a0 σ H s)(u:Un X.fs [] H H' s.heap h')(hok:HOk X.prog X.w H' h'):Inv X a0 σ H' {s with heap:=h',toks:=t'}:=by
 obtain⟨m,⟨o,es,ep,ho,r⟩,_⟩:=id I.loc
 obtain⟨sl,hL⟩:=u.any ho I.free (by simp)
 exact I.step (g':=s.gens) (d':=s.drawn) (ch:=[]) (λ_ z=>nomatch z) (λb o _ hb _ e n=>u.keep b o e n hb (by simp)) (λb o _ hb _ e n=>u.slot b o e n hb (by simp)) (λb o _ e n=>u.free b o e n (by simp)) (λb o _ e=>u.there b o e (by simp)) u.tups u.frzs u.tbls (λm' hm=>by
  obtain⟨o',ak,ep',dG,r'⟩:=hm
  rw[ho]at dG;cases dG
  exact⟨_,ak,ep',hL,r'⟩) hok I.bare
def Inv.call{g':Array GenState}{t':Nat}{d':Drawn}{ch:Nk}(I:Inv X a0 σ H s)(u:Un (frs X.stack) ch H H' s.heap h')(hok:HOk X.prog X.w H' h')(hg:AllBare g')(iL:∀b∈ch,(b∈X.ex∨X.s₀.heap.objs.size≤b)∧b≠X.env.locals∧(∀x c,X.env.cells.lookup x=some c→c≠b)∧∀p∈X.pn++a0,p.1≠b) :
  Inv X a0 σ H' {s with heap:=h',gens:=g',drawn:=d',toks:=t'}:=by
 obtain⟨m,⟨o,es,ep,ho,r⟩,_⟩:=id I.loc
 obtain⟨sl,hL⟩:=u.any ho I.free λz=>(iL _ z).2.1 rfl
 exact I.step (ch:=ch) iL (λb o hL hb hc e n=>u.keep b o e n (λz=>(Qd.mp (I.stkSub b z)).elim hL hb) hc) (λb o _ _ hc e n=>u.any e n hc) (λb o hc e n=>u.free b o e n hc) (λb o hc e=>u.there b o e hc) u.tups u.frzs u.tbls (λm' hm=>by
  obtain⟨o',ak,ep',dG,r'⟩:=hm
  rw[ho]at dG;cases dG
  exact⟨_,ak,ep',hL,r'⟩) hok hg
def Inv.turned{t':Nat}{it:Nc}(I:Inv X a0 σ H s)(k:∀b o,b≠it→s.heap.get? b=some o→h'.get? b=some o)(hn:H it=none)(hL:it≠X.env.locals)(h1:it∈X.ex∨X.s₀.heap.objs.size≤it)(h2:∀x c,X.env.cells.lookup x=some c→c≠it)(h3:∀p∈X.pn++a0,p.1≠it):Inv X a0 σ H {s with heap:=h',toks:=t'}:=by
 have nit:∀b u,H b=some u→b≠it:=λb u e z=>by rw[z,hn]at e;cases e
 refine I.step (g':=s.gens) (d':=s.drawn) (ch:=[it]) (λb hb=>?_) (λb o _ _ hc e _=>k b o (λz=>hc (by simp[z])) e) (λb o _ _ hc e _=>⟨o.slots,k b o (λz=>hc (by simp[z])) e⟩) (λ_ _ _ _ n=>n)
  (λb o hc e=>⟨o,k b o (λz=>hc (by simp[z])) e⟩) (λ_ _ e=>e) (λ_ _ _ e=>e) (λb ps e=>⟨#[],by rw[e];simp⟩) (λm hm=>?_) (λb u e=>?_) I.bare
 ·have e:b=it:=by simpa using hb
  subst e
  exact⟨h1,hL,h2,h3⟩
 ·obtain ⟨o,es,ep,ho,r⟩:=hm
  exact⟨o,es,ep,k _ o (Zc hL) ho,r⟩
 ·refine (I.hok b u e).stay (fun c v hc q=>k c v ?_ q) (fun _ q=>q) fun _ _ q=>q
  rcases hc with z | z
  ·rw[z];exact nit b u e
  ·exact nit c _ z
def Inv.tok(I:Inv X a0 σ H s)(t:Nat):Inv X a0 σ H {s with toks:=t}:=I.un (h':=s.heap) (t':=t) Un.refl I.hok
def Inv.kept{t':Nat}(I:Inv X a0 σ H s)(k:∀b u,s.heap.get? b=some u→h'.get? b=some u):Inv X a0 σ H {s with heap:=h',toks:=t'}:=I.un (Un.kept k) (I.hok.kept k)
def Inv.laid(I:Inv X a0 σ H s)(k:∀b u,s.heap.get? b=some u→h'.get? b=some u)(hp:s.heap.objs.size≤a)(new:zbp X.prog X.w (upd H a o) h' a o) :
  Inv X a0 σ (upd H a o) {s with heap:=h',toks:=t'}:=I.un (Un.laid k hp (I.hok.fresh hp)) (I.hok.laid k hp new)
def Inv.write(I:Inv X a0 σ H s)(mu:Mut (H x))(he:e=x∨H e=some (.own x))(k:∀b u,b≠e→s.heap.get? b=some u→h'.get? b=some u)(iH:∃u,h'.get? e=some u)(new:zbp X.prog X.w (upd H x o) h' x o):Inv X a0 σ (upd H x o) {s with heap:=h',toks:=t'}:=I.un (Un.write mu he k iH) (I.hok.write mu he k iH new)
def Inv.pins_of(I:Inv X a0 σ H s)(h:∀p∈pins',s.heap.get? p.1=some p.2∧H p.1=none∧p.1≠X.env.locals∧p.1∉X.fs∧∀v,p.2.data≠.cell v):Inv X pins' σ H s :=
 ⟨I.ok,I.os,I.bare,I.base,I.loc,I.cell,I.free,I.freeC,λp hp=>(Qe.mp hp).elim (λz=>I.pin p (Ql _ z)) (h p),I.hok,I.len⟩
def nodup_ix{N:Nd}(hN:N.Nodup){i j:Nat}{x:Str}(a:N[i]?=some x)(b:N[j]?=some x):i=j:=by
 obtain⟨h1,e1⟩:=Zb.mp a
 obtain⟨h2,e2⟩:=Zb.mp b
 exact(Jb hN).mp (e1.trans e2.symm)
def zft{M:Model}{A:Nn}{E:Nb}{i:Nat}{x:Str}{v:V}{u:Value}{Q:Unit→Shared→Prop}(I:Inv X a0 σ H s)(hN:X.N.Nodup)(hi:X.N[i]?=some x)(hx:Loc X.env.scope x)(r:RelV v u)(h:∀s',Inv X a0 (σ.set i (some v)) H s'→(∃a,Heap.SameBut a s.heap s'.heap∧(a=X.env.locals∨X.env.cells.lookup x=some a))→Q () s')(hf:X.fn x=true∨X.env.scope.names.lookup x=some .local:=by first | exact .inl rfl | exact .inr rfl | assumption):wpAny M A (storeName X.env x u) Q E s:=by
 obtain⟨m,hn,hl⟩:=id I.loc
 have v4:(X.env.scope.kind==.class||(X.env.scope.kind==.module&&X.env.locals != X.env.globals))=false:=by rw[I.ok.kind];rfl
 have hiσ:i<σ.length:=by rw[I.len];exact(Zb.mp hi).1
 have cne:=I.cne
 have tracked:∀{a:Nc} {h':Nm},(∃o,s.heap.get? a=some o∧H a=none)→Heap.SameBut a s.heap h'→HOk X.prog X.w H h':=λ{a h'} ha hs b ob e=>by
  obtain⟨_,_,bH⟩:=ha
  refine(I.hok b ob e).stay (λc w' hc q=>(hs.2 c ?_).trans q) (λ_ q=>q) λ_ _ q=>q
  rintro rfl
  rcases hc with rfl | hc
  ·rw[bH]at e;cases e
  ·rw[bH]at hc;cases hc
 rcases hx with hk | hk
 ·refine wpAny_storeName_local hk hn (fun h' jj hs=>?_) v4
  obtain⟨oL,_,_,hoL,_⟩:=id hn
  refine h _ ⟨I.ok,I.os,I.bare,⟨λb o e n hb hx=>?_,λb o e n hb hx=>?_,I.base.free,λb o e hx=>?_,I.base.tups,I.base.frzs,I.base.tbls⟩,⟨_,jj,λj y v' e1 e2 e3=>?_⟩,λy c e=>?_,I.free,I.freeC,λp hp=>?_,tracked ⟨oL,hoL,I.free⟩ hs,by simpa using I.len⟩ ⟨_,hs,.inl rfl⟩
  ·exact(hs.2 b (Ze (Zw (Qu e) I.ok.above))).trans (I.base.keep b o e n hb hx)
  ·obtain ⟨sl,e1⟩:=I.base.slot b o e n hb hx
   exact⟨sl,(hs.2 b (Ze (Zw (Qu e) I.ok.above))).trans e1⟩
  ·obtain ⟨o',e1⟩:=I.base.there b o e hx
   exact⟨o',(hs.2 b (Ze (Zw (Qu e) I.ok.above))).trans e1⟩
  ·by_cases hj:j=i
   ·subst hj
    rw[hi]at e1;cases e1
    rw[List.getElem?_set_self hiσ]at e2
    cases e2
    exact⟨u,r,.inl ⟨hk,by simp⟩⟩
   ·rw [List.getElem?_set_ne (Zc hj)] at e2
    obtain⟨u',r',q⟩:=hl j y v' e1 e2 e3
    refine⟨u',r',?_⟩
    rcases q with⟨k,e⟩ | ⟨k,c,e,z⟩
    ·refine .inl ⟨k,?_⟩
     have:y≠x:=λe=>hj (nodup_ix hN e1 (e▸hi))
     simp[this,e]
    ·exact .inr ⟨k,c,e,z.sameBut hs (cne y c e)⟩
  ·obtain ⟨w',z⟩:=I.cell y c e
   exact⟨w',z.sameBut hs (cne y c e)⟩
  ·obtain ⟨e,n,ne,nf,d⟩:=I.pin p hp
   exact⟨(hs.2 p.1 ne).trans e,n,ne,nf,d⟩
 ·have ut:X.fn x=true:=by
   rcases hf with z | z
   ·exact z
   ·rw[z]at hk;cases hk
  obtain⟨c,hc⟩:=I.ok.has x (.inl hk)
  obtain⟨w',z⟩:=I.cell x c hc
  refine wpAny_storeName_cell I.ok.kind hk hc z (λh' cb hs=>?_)
  obtain⟨oc,hoc,tR⟩:=id z
  refine h {s with heap:=h'} ⟨I.ok,I.os,I.bare,⟨λb o e n hb hx=>?_,λb o e n hb hx=>?_,I.base.free,λb o e hx=>?_,I.base.tups,I.base.frzs,I.base.tbls⟩,⟨m,hn.sameBut hs (Zc (cne x c hc)),λj y v' e1 e2 e3=>?_⟩,λy c' e=>?_,I.free,I.freeC,λp hp=>?_,tracked ⟨oc,hoc,I.freeC x c hc⟩ hs,by simpa using I.len⟩ ⟨c,hs,.inr hc⟩
  ·exact(hs.2 b (Ze (Zw (Qu e) (I.ok.cab x c ut hc)))).trans (I.base.keep b o e n hb hx)
  ·obtain ⟨sl,e1⟩:=I.base.slot b o e n hb hx
   exact⟨sl,(hs.2 b (Ze (Zw (Qu e) (I.ok.cab x c ut hc)))).trans e1⟩
  ·obtain ⟨o',e1⟩:=I.base.there b o e hx
   exact⟨o',(hs.2 b (Ze (Zw (Qu e) (I.ok.cab x c ut hc)))).trans e1⟩
  ·by_cases hj:j=i
   ·subst hj
    rw[hi]at e1;cases e1
    rw[List.getElem?_set_self hiσ]at e2
    cases e2
    exact⟨u,r,.inr ⟨.inl hk,c,hc,cb⟩⟩
   ·rw [List.getElem?_set_ne (Zc hj)] at e2
    obtain⟨u',r',q⟩:=hl j y v' e1 e2 e3
    refine⟨u',r',?_⟩
    rcases q with q | ⟨k,c',e,z'⟩
    ·exact .inl q
    ·refine .inr ⟨k,c',e,z'.sameBut hs ?_⟩
     rintro rfl
     exact hj (nodup_ix hN e1 (I.ok.inj _ _ _ e hc▸hi))
  ·by_cases eI:c'=c
   ·subst eI;exact⟨_,cb⟩
   ·obtain ⟨w2,z2⟩:=I.cell y c' e
    exact⟨w2,z2.sameBut hs eI⟩
  ·obtain ⟨e,n,ne,nf,d⟩:=I.pin p hp
   refine⟨(hs.2 p.1 ?_).trans e,n,ne,nf,d⟩
   intro q
   rw[q,hoc]at e
   have q':oc=p.2:=Qp e
   exact d w' (by rw[←q'];exact tR)
def store_ok(I:Inv X a0 σ H s)(hN:X.N.Nodup)(hi:X.N[i]?=some x)(hx:Loc X.env.scope x)(r:RelV v u)(h:∀s',Inv X a0 (σ.set i (some v)) H s'→Q () s')(hf:X.fn x=true∨X.env.scope.names.lookup x=some .local:=by first | exact .inl rfl | exact .inr rfl | assumption):wpAny M A (storeName X.env x u) Q E s :=
 zft I hN hi hx r (λs' I' _=>h s' I') hf
def Inv.call'(I:Inv X a0 σ H s)(ho:s'.os=s.os)(u:Un (frs X.stack) ch H H' s.heap s'.heap)(hok:HOk X.prog X.w H' s'.heap)(hg:AllBare s'.gens)(iL:∀b∈ch,(b∈X.ex∨X.s₀.heap.objs.size≤b)∧b≠X.env.locals∧(∀x c,X.env.cells.lookup x=some c→c≠b)∧∀p∈X.pn++a0,p.1≠b):Inv X a0 σ H' s':=by
 obtain⟨h',g',d',t',o'⟩:=s'
 have e:o'=s.os:=ho
 subst e
 exact I.call (g':=g') (t':=t') (d':=d') u hok hg iL
end
abbrev XK:=Value→Option Addr→Hp→Prop
abbrev St:=List (Option V)
abbrev VK:=V→Hp→Prop
abbrev TE:=St→Hp→VK→Prop
abbrev TT:=St→Hp→(Bool→Hp→Prop)→Prop
abbrev TA:=St→Hp→(List V→Hp→Prop)→Prop
structure Ends where
 nx:St→Hp→Prop
 rt:VK
 bk:St→Hp→Prop:=λ_ _=>False
 ct:St→Hp→Prop:=λ_ _=>False
abbrev TS:=Ends→St→Hp→Prop
inductive EP(X:Cx)(a0:Nf)(σ:St)(Q:VK)(u:Value)(s':Nh):Prop
 |mk (v:V) (H':Hp) (i:Inv X a0 σ H' s') (r:RelV v u) (q:Q v H'):EP X a0 σ Q u s'
inductive TP(X:Cx)(a0:Nf)(σ:St)(Q:Bool→Hp→Prop)(b:Bool)(s':Nh):Prop
 |mk (H':Hp) (i:Inv X a0 σ H' s') (q:Q b H'):TP X a0 σ Q b s'
inductive AP(X:Cx)(a0:Nf)(σ:St)(Q:List V→Hp→Prop)(us:Ni)(s':Nh):Prop
 |mk (vs:List V) (H':Hp) (i:Inv X a0 σ H' s') (r:Vals vs us) (q:Q vs H'):AP X a0 σ Q us s'
def SP(X:Cx)(a0:Nf)(D:Ends)(f:Flow)(s':Nh):Prop :=
 match f with
 |.next=>Ex2 λ σ' H'=>Aj2 (Inv X a0 σ' H' s') (D.nx σ' H')
 |.brk=>Ex2 λ σ' H'=>Aj2 (Inv X a0 σ' H' s') (D.bk σ' H')
 |.cont=>Ex2 λ σ' H'=>Aj2 (Inv X a0 σ' H' s') (D.ct σ' H')
 |.ret u=>Ex3 λv σ' H'=>Aj3 (Inv X a0 σ' H' s') (RelV v u) (D.rt v H')
def PE(X:Cx)(e:Expr)(t:TE):Prop :=
 ∀(a0:Nf) (s:Nh) (σ:St) (H:Hp) (Q:VK),Inv X a0 σ H s→t σ H Q→wpAny (model X.prog X.w) X.A (eval e X.env) (EP X a0 σ Q) X.xe s
def PT(X:Cx)(e:Expr)(t:TT):Prop :=
 ∀(a0:Nf) (s:Nh) (σ:St) (H:Hp) (Q:Bool→Hp→Prop),Inv X a0 σ H s→t σ H Q→wpAny (model X.prog X.w) X.A (isTrue e X.env (eval e X.env)) (TP X a0 σ Q) X.xe s
def PW(X:Cx)(e:Expr)(t:TT):Prop :=
 ∀(whole:Sem Value) (a0:Nf) (s:Nh) (σ:St) (H:Hp) (Q:Bool→Hp→Prop),Inv X a0 σ H s→t σ H Q→wpAny (model X.prog X.w) X.A (isTrue e X.env whole) (TP X a0 σ Q) X.xe s
def PW.pt(h:PW X e t):PT X e t:=h _
def PA(X:Cx)(es:Nq)(t:TA):Prop :=
 ∀(pos:Pos) (a0:Nf) (s:Nh) (σ:St) (H:Hp) (Q:List V→Hp→Prop),Inv X a0 σ H s→t σ H Q→wpAny (model X.prog X.w) X.A (spliced (backTo pos (starEach es X.env))) (AP X a0 σ Q) X.xe s
def PS(X:Cx)(st:Stmt)(t:TS):Prop :=
 ∀(a0:Nf) (s:Nh) (σ:St) (H:Hp) (D:Ends),Inv X a0 σ H s→t D σ H→wpAny (model X.prog X.w) X.A (exec st X.env) (SP X a0 D) X.xe s
def PSs(X:Cx)(st:List Stmt)(t:TS):Prop :=
 ∀(a0:Nf) (s:Nh) (σ:St) (H:Hp) (D:Ends),Inv X a0 σ H s→t D σ H→wpAny (model X.prog X.w) X.A (execs st X.env) (SP X a0 D) X.xe s
def thn{α:Type}{t:Sem α}{Q Q':α→Shared→Prop}{M:Model}{A:Nn}{E:Nb}{s:Nh}(h:wpAny M A t Q E s)(hQ:∀a s,Q a s→Q' a s):wpAny M A t Q' E s:=wpAny_mono h hQ λ_ _ x=>x
end L2
namespace L2
open PySem PySem.Spec PyProof.Rows
section
variable{X:Cx}
def bin{a b:Expr}{ta tb:TE}(ha:PE X a ta)(hb:PE X b tb){a0:Nf}{s:Nh}{σ:St}{H:Hp}{R:V→V→Hp→Prop}(I:Inv X a0 σ H s)(h:ta σ H λx H1=>tb σ H1 λy H2=>R x y H2){α:Type}{Q:α→Shared→Prop}{f:Value→Value→Sem α}(hf:∀v u s2 x y H2,Inv X a0 σ H2 s2→RelV x v→RelV y u→R x y H2→wpAny (model X.prog X.w) X.A (f v u) Q X.xe s2) :
  wpAny (model X.prog X.w) X.A (eval a X.env) (λv s₁=>wpAny (model X.prog X.w) X.A (eval b X.env) (λu s₂=>wpAny (model X.prog X.w) X.A (f v u) Q X.xe s₂) X.xe s₁) X.xe s:=by
 refine thn (ha a0 s σ H _ I h) λv s1 ⟨x,H1,I1,r1,q1⟩=>?_
 refine thn (hb a0 s1 σ H1 _ I1 q1) λu s2 ⟨y,H2,I2,r2,q2⟩=>?_
 exact hf v u s2 x y H2 I2 r1 r2 q2
inductive RVar(o:Option (Option V))(H:Hp)(Q:VK):Prop
 |mk (v:V) (e:o=some (some v)) (q:Q v H):RVar o H Q
def tVar(i:Nat):TE:=λ σ H Q=>RVar σ[i]? H Q
def tC(v:V):TE:=λ_ H Q=>Q v H
def pe_var(hN:X.N[i]?=some x)(hv:Vis X.env.scope x)(hd:(x==("__debug__" : Str))=false:=by decide)(au:(x==("__classdict__" : Str))=false:=by decide):PE X (.Name x pos) (tVar i):=by
 intro a0 s σ H Q I h
 obtain⟨v,e,h⟩:=h
 obtain⟨m,hn,hl⟩:=I.loc
 obtain⟨u,r,l⟩:=hl i x v hN e hv
 have fin:EP X a0 σ Q u s:=⟨v,H,I,r,h⟩
 rcases l with⟨hk,hm⟩ | ⟨hk,c,hc,jX⟩
 ·exact wpAny_Name (wpAny_loadName_local I.ok.kind hk hn hm fin) hd
 ·rcases hk with hk | hk
  ·exact wpAny_Name (wpAny_loadName_cell I.ok.kind hk hc jX fin) hd
  ·exact wpAny_Name (wpAny_loadName_free I.ok.kind hk hc jX fin au) hd
def zal{i j pos}:PE X (.Constant (.int i) j pos) (tC (.int i)):=λ_ _ _ H _ I h=>wpAny_Constant_int ⟨.int i,H,I.tok _,⟨_,rfl⟩,h⟩
def pe_bl{b j pos}:PE X (.Constant (.bool b) j pos) (tC (.bl b)):=λ_ _ _ H _ I h=>Constant_bool ⟨.bl b,H,I,rfl,h⟩
def pe_non{j pos}:PE X (.Constant .none j pos) (tC .non):=λ_ _ _ H _ I h=>Constant_none ⟨.non,H,I,rfl,h⟩
def ze9{x j pos}:PE X (.Constant (.str x) j pos) (tC (.str x)):=λ_ _ _ H _ I h=>Calls.Constant_str ⟨.str x,H,I.tok _,⟨_,rfl⟩,h⟩
def Gl(X:Cx)(x:Str):Prop:=X.env.kindOf x=some .globalImplicit
def ld_glob(I:Inv X a0 σ H s)(hg:Gl X x)(hm:X.mg x=some u)(h:Q u s)(hd:(x==("__debug__" : Str))=false:=by decide):wpAny (model X.prog X.w) X.A (eval (.Name x pos) X.env) Q E s :=
 Calls.Name_function_global I.ok.kind hg (Calls.loadGlobal_global (by rw[I.ok.glob];exact I.mod.glob.keeps I.bk) hm h) hd
def zg8(I:Inv X a0 σ H s)(hg:Gl X x)(hm:X.mg x=none)(hv:bootBuiltins x=some u)(h:Q u s)(hn:x ≠ "__name__" := by decide)(hd:(x==("__debug__" : Str))=false:=by decide):wpAny (model X.prog X.w) X.A (eval (.Name x pos) X.env) Q E s:=by
 obtain⟨mb,h1,h2⟩:=I.mod.blt
 exact Calls.Name_function_global I.ok.kind hg (Calls.loadGlobal_builtin (by rw[I.ok.glob];exact I.mod.glob.keeps I.bk) hm (by rw[I.ok.blt];exact h1.keeps I.bk) ((h2 x hn).trans hv) h) hd
def pe_glob(hg:Gl X x)(hm:X.mg x=some u)(r:RelV v u)(hd:(x==("__debug__" : Str))=false:=by decide):PE X (.Name x pos) (tC v) :=
 λ_ _ _ H _ I h=>ld_glob I hg hm ⟨v,H,I,r,h⟩ hd
variable{a b:Expr}{ta tb:TE}{pos:Pos}
def PC(X:Cx)(op:CmpOp)(a b:Expr)(t:TE):Prop :=
 ∀(a0:Nf) (s:Nh) (σ:St) (H:Hp) (Q:VK),Inv X a0 σ H s→t σ H Q →
  wpAny (model X.prog X.w) X.A (eval a X.env) (λv s₁=>wpAny (model X.prog X.w) X.A (eval b X.env) (λu s₂=>wpAny (model X.prog X.w) X.A (compareOp op v u) (EP X a0 σ Q) X.xe s₂) X.xe s₁) X.xe s
def nobehind(b:Expr){op:CmpOp}(h:op≠.In)(h2:op≠.NotIn):behindInMarks op b=false:=by
 have e1:(op==CmpOp.In)=false:=by cases op<;>first | rfl | exact absurd rfl h
 have e2:(op==CmpOp.NotIn)=false:=by cases op<;>first | rfl | exact absurd rfl h2
 cases b<;>simp[behindInMarks,e1,e2]
def tNotN(ta:TE):TE:=λ σ H Q=>ta σ H λx H1=>Q (.bl (!decide (x=.non))) H1
def RelV.none_iff{x:V}{v:Value}(r:RelV x v):(v==Value.none)=decide (x=.non):=by
 cases x with
 |non=>cases r;rfl
 |bl _=>cases r;rfl
 |int _=>obtain⟨t,rfl⟩:=r;rfl
 |str _=>obtain⟨t,rfl⟩:=r;rfl
 |byt _=>obtain⟨t,rfl⟩:=r;rfl
 |flt _=>obtain⟨t,rfl⟩:=r;rfl
 |ref _=>cases r;rfl
 |ty _=>cases r;rfl
def pc_notN{j bY}(ha:PE X a ta):PC X .IsNot a (.Constant .none j bY) (tNotN ta):=by
 intro a0 s σ H Q I h
 refine thn (ha a0 s σ H _ I h) λv s1 ⟨x,H1,I1,r1,q1⟩=>?_
 exact Constant_none (isnot_none_gen ⟨.bl _,H1,I1,by rw[r1.none_iff];rfl,q1⟩)
inductive RB(x:V)(H:Hp)(Q:Bool→Hp→Prop):Prop
 |mk (c:Bool) (e:x=.bl c) (q:Q c H):RB x H Q
def tB(t:TE):TT:=λ σ H Q=>t σ H λx H1=>RB x H1 Q
def pe_cmp(h:PC X op a b t)(h1:behindInMarks op b=false:=by first | exact nobehind _ (by decide) (by decide) | rfl):PE X (.Compare a [op] [b] pos) t:=λa0 s σ H Q I hw=>wpAny_Compare1 (h a0 s σ H Q I hw) h1
def zdq{op:CmpOp}{t:TE}(h:PC X op a b t)(h1:behindInMarks op b=false:=by first | exact nobehind _ (by decide) (by decide) | rfl):PT X (.Compare a [op] [b] pos) (tB t):=by
 intro a0 s σ H Q I hw
 refine wpAny_isTrue_Compare1 (thn (h a0 s σ H _ I hw) λv s1 h1=>thn h1 λu s2 h2=>thn h2 λc s3 ⟨x,H1,I1,r1,q1⟩=>?_) h1
 obtain⟨d,rfl,q⟩:=q1
 cases r1
 exact wpAny_truthy_bool ⟨H1,I1,q⟩
def zf2{e:Expr}{t:TE}(h:PE X e t)(he:∀whole,isTrue e X.env whole=(do let v ←whole;standAt e.pos;holding [v] (truthy v)):=by intro _;rfl):PT X e (tB t):=by
 intro a0 s σ H Q I hw
 refine isTrue_plain (thn (h a0 s σ H _ I hw) λv s1 ⟨x,H1,I1,r1,q1⟩=>?_) (he _)
 obtain⟨d,rfl,q⟩:=q1
 cases r1
 exact wpAny_truthy_bool ⟨H1,I1,q⟩
variable{tA qz:TT}{rest:Nq}
def tAnd(t u:TT):TT:=λ σ H Q=>t σ H λc H1=>if c=true then u σ H1 Q else Q false H1
def tOr(t u:TT):TT:=λ σ H Q=>t σ H λc H1=>if c=true then Q true H1 else u σ H1 Q
def tNot(t:TT):TT:=λ σ H Q=>t σ H λc H1=>Q (!c) H1
def pw_and1(ha:PT X a tA):PW X (.BoolOp .And [a] pos) tA:=by
 intro wh a0 s σ H Q I h
 refine isTrue_and (thn (ha a0 s σ H Q I h) λc s1 e=>?_)
 cases c with
 |true=>exact isTrue_and_nil e
 |false=>exact e
def zg3(ha:PT X a tA):PW X (.BoolOp .Or [a] pos) tA:=by
 intro wh a0 s σ H Q I h
 refine isTrue_or (thn (ha a0 s σ H Q I h) λc s1 e=>?_)
 cases c with
 |false=>exact isTrue_or_nil e
 |true=>exact e
def pw_and(ha:PT X a tA)(hb:PW X (.BoolOp .And (b::rest) pos) qz):PW X (.BoolOp .And (a::b::rest) pos) (tAnd tA qz):=by
 intro wh a0 s σ H Q I h
 refine isTrue_and (thn (ha a0 s σ H _ I h) λc s1 ⟨H1,I1,q1⟩=>?_)
 cases c with
 |true=>exact hb wh a0 s1 σ H1 Q I1 q1
 |false=>exact⟨H1,I1,q1⟩
def zhz(ha:PT X a tA)(hb:PW X (.BoolOp .Or (b::rest) pos) qz):PW X (.BoolOp .Or (a::b::rest) pos) (tOr tA qz):=by
 intro wh a0 s σ H Q I h
 refine isTrue_or (thn (ha a0 s σ H _ I h) λc s1 ⟨H1,I1,q1⟩=>?_)
 cases c with
 |true=>exact⟨H1,I1,q1⟩
 |false=>exact hb wh a0 s1 σ H1 Q I1 q1
def pt_not(ha:PT X a tA):PT X (.UnaryOp .Not a pos) (tNot tA):=by
 intro a0 s σ H Q I h
 exact isTrue_not (wpAny_mono (ha a0 s σ H (λc H1=>Q (!c) H1) I h) (λc s2 z=>by obtain⟨a,b,d⟩:=z;exact⟨a,b,d⟩) λ_ _ e=>e)
def tAndV(ta tb:TE):TE:=λ σ H Q=>ta σ H λx H1=>RB x H1 λc H1=>if c=true then tb σ H1 Q else Q (.bl false) H1
def pe_one{op}(h:PE X a t):PE X (.BoolOp op [a] pos) t:=λa0 s σ H Q I hw=>BoolOp_one (h a0 s σ H Q I hw)
def pe_and(ha:PE X a ta)(hb:PE X (.BoolOp .And (b::rest) pos) tb):PE X (.BoolOp .And (a::b::rest) pos) (tAndV ta tb):=by
 intro a0 s σ H Q I h
 refine BoolOp_and (thn (ha a0 s σ H _ I h) λv s1 ⟨x,H1,I1,r1,q1⟩=>?_)
 obtain⟨c,rfl,q1⟩:=q1
 cases r1
 refine wpAny_truthy_bool ?_
 cases c with
 |true=>exact hb a0 s1 σ H1 Q I1 q1
 |false=>exact⟨.bl false,H1,I1,rfl,q1⟩
def tIf(t:TT)(ta tb:TE):TE:=λ σ H Q=>t σ H λc H1=>if c=true then ta σ H1 Q else tb σ H1 Q
def pe_ifExp{c:Expr}(hc:PT X c tA)(ha:PE X a ta)(hb:PE X b tb):PE X (.IfExp c a b pos) (tIf tA ta tb):=by
 intro a0 s σ H Q I h
 refine wpAny_IfExp (thn (hc a0 s σ H _ I h) λd s1 ⟨H1,I1,q1⟩=>?_)
 cases d with
 |true=>exact ha a0 s1 σ H1 Q I1 q1
 |false=>exact hb a0 s1 σ H1 Q I1 q1
end
end L2
namespace L2
open PySem PySem.Spec PyProof.Rows
def SqL(K:Na)(H:Hp)(a:Nc)(xs:List V):Prop :=
 Rd H a (.lst xs) ∨
  ∃(o:Obj) (a7:Array Value) (n:Nat),K.lookup a=some o∧o.cls=.type "list" ∧ o.dict=none∧o.data=.seq a7 n∧a7.size≤sizeLine∧Vals xs a7.toList
def SqT(K:Na)(H:Hp)(a:Nc)(xs:List V):Prop :=
 Rd H a (.tup xs) ∨
  ∃(o:Obj) (a7:Array Value) (n:Nat),K.lookup a=some o∧o.cls=.type "tuple" ∧ o.data=.seq a7 n∧a7.size≤sizeLine∧Vals xs a7.toList
def absV:Value→Option V
 |.none=>some .non
 |.bool b=>some (.bl b)
 |.int i _=>some (.int i)
 |.str x _=>some (.str x)
 |.bytes b _=>some (.byt b)
 |.float b _=>some (.flt b)
 |.ref a=>some (.ref a)
 |.type n=>some (.ty n)
 |_=>none
def RelV.abs(r:RelV x u):absV u=some x:=by
 cases x with
 |non=>cases r;rfl
 |bl _=>cases r;rfl
 |int _=>obtain⟨t,rfl⟩:=r;rfl
 |str _=>obtain⟨t,rfl⟩:=r;rfl
 |byt _=>obtain⟨t,rfl⟩:=r;rfl
 |flt _=>obtain⟨t,rfl⟩:=r;rfl
 |ref _=>cases r;rfl
 |ty _=>cases r;rfl
def RelV.inj{x y:V}{u:Value}(r:RelV x u)(q:RelV y u):x=y:=Qp (r.abs.symm.trans q.abs)
theorem Vals.inj:∀{xs ys:List V} {us:Ni},Vals xs us→Vals ys us→xs=ys
 |_,_,_,.nil,.nil=>rfl
 |_,_,_,.cons r t,.cons r' t'=>by rw[r.inj r',Vals.inj t t']
section
variable{X:Cx}{a0:Nf}{σ:St}{H:Hp}{s:Nh}{a:Nc}{xs ys:List V}
def SqL.of{K:Na}(h:H a=some (.lst xs)):SqL K H a xs:=.inl (.inl h)
def SqT.of{K:Na}(h:H a=some (.tup xs)):SqT K H a xs:=.inl (.inl h)
def Inv.list(I:Inv X a0 σ H s)(h:SqL X.K H a xs):∃a7:List Value,Vals xs a7∧PlainL s.heap a a7.toArray∧xs.length≤sizeLine:=by
 rcases h with h | ⟨o,a7,n,hk,hc,hd,hs,hz,r⟩
 ·obtain ⟨z,a7,n,r,e⟩:=h.ok I.hok
  exact⟨a7,r,⟨_,n,e,rfl,rfl,rfl⟩,z⟩
 ·refine ⟨a7.toList,r,⟨o,n,I.kIn a o hk,hc,hd,by simpa using hs⟩,?_⟩
  have e:=r.length
  simp only[Wa]at e
  lia
def Inv.tuple(I:Inv X a0 σ H s)(h:SqT X.K H a xs):∃a7:List Value,Vals xs a7∧IsTup s.heap a a7.toArray∧xs.length≤sizeLine:=by
 rcases h with h | ⟨o,a7,n,hk,hc,hs,hz,r⟩
 ·obtain ⟨z,a7,r,p⟩:=h.ok I.hok
  exact⟨a7,r,p,z⟩
 ·refine ⟨a7.toList,r,⟨o,I.kIn a o hk,hc,n,by simpa using hs⟩,?_⟩
  have e:=r.length
  simp only[Wa]at e
  lia
def Inv.list_inj(I:Inv X a0 σ H s)(h:SqL X.K H a xs)(h':SqL X.K H a ys):xs=ys:=by
 obtain⟨a7,r,⟨o,n,e,_,_,d⟩,_⟩:=I.list h
 obtain⟨its',r',⟨o',n',e',_,_,d'⟩,_⟩:=I.list h'
 rw[e]at e';cases e'
 rw[d]at d'
 injection d' with d1 _
 have:a7=its':=by simpa using congrArg Array.toList d1
 subst this
 exact r.inj r'
def Inv.tuple_inj(I:Inv X a0 σ H s)(h:SqT X.K H a xs)(h':SqT X.K H a ys):xs=ys:=by
 obtain⟨a7,r,⟨o,e,_,n,d⟩,_⟩:=I.tuple h
 obtain⟨its',r',⟨o',e',_,n',d'⟩,_⟩:=I.tuple h'
 rw[e]at e';cases e'
 rw[d]at d'
 injection d' with d1 _
 have:a7=its':=by simpa using congrArg Array.toList d1
 subst this
 exact r.inj r'
end
abbrev Cx.wish(X:Cx)(E:Nb):Cx:={X with xe:=E}
abbrev Cx.nox(X:Cx):Cx:=X.wish λ_ _=>False
def Cx.Ok.wish{X:Cx}(ok:X.Ok)(E:Nb):(X.wish E).Ok :=
 ⟨ok.mod,ok.kind,ok.glob,ok.blt,ok.above,ok.inj,ok.has,ok.cab,ok.hd,ok.frames,ok.stk,ok.exf,ok.bs,ok.bsz,ok.noex,ok.exfs,ok.funs,ok.frf⟩
def Cx.Ok.unwish{X:Cx}{E:Nb}(ok:(X.wish E).Ok):X.Ok :=
 ⟨ok.mod,ok.kind,ok.glob,ok.blt,ok.above,ok.inj,ok.has,ok.cab,ok.hd,ok.frames,ok.stk,ok.exf,ok.bs,ok.bsz,ok.noex,ok.exfs,ok.funs,ok.frf⟩
section
variable{X:Cx}{a0:Nf}{σ:St}{H:Hp}{s:Nh}{E:Nb}
def Inv.wish(I:Inv X a0 σ H s)(E:Nb):Inv (X.wish E) a0 σ H s:=⟨I.ok.wish E,I.os,I.bare,I.base,I.loc,I.cell,I.free,I.freeC,I.pin,I.hok,I.len⟩
def Inv.unwish(I:Inv (X.wish E) a0 σ H s):Inv X a0 σ H s:=⟨I.ok.unwish,I.os,I.bare,I.base,I.loc,I.cell,I.free,I.freeC,I.pin,I.hok,I.len⟩
def SP.unwish(h:SP (X.wish E) a0 D f s'):SP X a0 D f s':=by
 cases f with
 |next=>obtain⟨σ',H',I,q⟩:=h;exact⟨σ',H',I.unwish,q⟩
 |brk=>obtain⟨σ',H',I,q⟩:=h;exact⟨σ',H',I.unwish,q⟩
 |cont=>obtain⟨σ',H',I,q⟩:=h;exact⟨σ',H',I.unwish,q⟩
 |ret u=>obtain⟨v,σ',H',I,r,q⟩:=h;exact⟨v,σ',H',I.unwish,r,q⟩
def PSs.nox{st:List Stmt}{t:TS}(h:PSs X.nox st t):PSs X st t:=λa0 s σ H D I hw =>
 wpAny_mono (h a0 s σ H D (I.wish _) hw) (λ_ _ q=>q.unwish) λ_ _ z=>False.elim z
end
section
variable{X:Cx}{st:Stmt}{rest:List Stmt}{t u:TS}{e:Expr}{te:TE}{pos:Pos}
def tNext:TS:=λD σ H=>D.nx σ H
def tSeq(t u:TS):TS:=λD σ H=>t {D with nx:=u D} σ H
def za0:PSs X [] tNext:=λ_ _ σ H _ I h=>wpAny_execs_nil ⟨σ,H,I,h⟩
def zae(h1:PS X st t)(h2:PSs X rest u):PSs X (st::rest) (tSeq t u):=by
 intro a0 s σ H D I h
 refine wpAny_execs_cons (thn (h1 a0 s σ H {D with nx:=u D} I h) λf s1 q=>?_)
 cases f with
 |next =>
  obtain⟨σ',H',I',q⟩:=q
  exact h2 a0 s1 σ' H' D I' q
 |ret v=>exact q
 |brk=>exact q
 |cont=>exact q
def zah(h1:PS X st t):PSs X [st] t:=by
 intro a0 s σ H D I h
 refine wpAny_execs_cons (thn (h1 a0 s σ H D I h) λf s1 q=>?_)
 cases f with
 |next=>exact wpAny_execs_nil q
 |ret v=>exact q
 |brk=>exact q
 |cont=>exact q
def Inv.quiet{a0:Nf}{σ:St}{H:Hp}{s:Nh}(I:Inv X a0 σ H s):interactive X.env=false:=by simp[interactive,I.ok.kind]
def tDrop(te:TE):TS:=λD σ H=>te σ H λ_ H1=>D.nx σ H1
def za6(he:PE X e te)(hs:swapsWith e none pos.line X.env=pure false:=by rfl):PS X (.Expr e pos) (tDrop te):=by
 intro a0 s σ H D I h
 exact wpAny_Expr_any (thn (he a0 s σ H _ I h) λv s1 ⟨x,H1,I1,r1,q1⟩=>⟨σ,H1,I1,q1⟩) I.quiet hs
def tRet(te:TE):TS:=λD σ H=>te σ H D.rt
def zbe(he:PE X e te):PS X (.Return (some e) pos) (tRet te):=by
 intro a0 s σ H D I h
 exact wpAny_Return_some (thn (he a0 s σ H _ I h) λv s1 ⟨x,H1,I1,r1,q1⟩=>⟨x,σ,H1,I1,r1,q1⟩)
def tRetN:TS:=λD _ H=>D.rt .non H
def ps_retN:PS X (.Return none pos) tRetN:=λ_ _ σ H _ I h=>wpAny_Return_none ⟨.non,σ,H,I,rfl,h⟩
def tIfS(c:TT)(t u:TS):TS:=λD σ H=>c σ H λb H1=>if b=true then t D σ H1 else u D σ H1
def zb5{c:Expr}{a b:List Stmt}{tc:TT}(hc:PT X c tc)(ha:PSs X a t)(hb:PSs X b u):PS X (.If c a b pos) (tIfS tc t u):=by
 intro a0 s σ H D I h
 refine wpAny_If (thn (hc a0 s σ H _ I h) λd s1 ⟨H1,I1,q1⟩=>?_)
 cases d with
 |true=>exact ha a0 s1 σ H1 D I1 q1
 |false=>exact hb a0 s1 σ H1 D I1 q1
end
abbrev TG:=V→St→Hp→(St→Hp→Prop)→Prop
abbrev TGs:=List V→St→Hp→(St→Hp→Prop)→Prop
def PG(X:Cx)(target:Expr)(t:TG):Prop :=
 ∀(a0:Nf) (s:Nh) (σ:St) (H:Hp) (v:V) (u:Value) (Q:St→Hp→Prop),Inv X a0 σ H s→RelV v u→t v σ H Q →
  wpAny (model X.prog X.w) X.A (assign target X.env u) (λ_ s'=>Ex2 λ σ' H'=>Aj2 (Inv X a0 σ' H' s') (Q σ' H')) X.xe s
def PGs(X:Cx)(ts:Nq)(t:TGs):Prop :=
 ∀(a0:Nf) (s:Nh) (σ:St) (H:Hp) (vs:List V) (us:Ni) (Q:St→Hp→Prop),Inv X a0 σ H s→Vals vs us→t vs σ H Q →
  wpAny (model X.prog X.w) X.A (assignInOrder ((assignEach ts X.env).map (·.2)) us) (λ_ s'=>Ex2 λ σ' H'=>Aj2 (Inv X a0 σ' H' s') (Q σ' H')) X.xe s
abbrev TSet:=V→V→V→Hp→(Hp→Prop)→Prop
def PSet(X:Cx)(t:TSet):Prop :=
 ∀(a0:Nf) (s:Nh) (σ:St) (H:Hp) (o i v:V) (ov iv u:Value) (Q:Hp→Prop),Inv X a0 σ H s→RelV o ov→RelV i iv→RelV v u→t o i v H Q →
  wpAny (model X.prog X.w) X.A (setItem ov iv u) (λ_ s'=>∃H',Inv X a0 σ H' s'∧Q H') X.xe s
section
variable{X:Cx}{pos:Pos}
def gName(i:Nat):TG:=λv σ H Q=>Q (σ.set i (some v)) H
def zaj(hN:X.N.Nodup)(hi:X.N[i]?=some x)(hx:Loc X.env.scope x)(hf:X.fn x=true∨X.env.scope.names.lookup x=some .local:=by first | exact .inl rfl | exact .inr rfl | assumption):PG X (.Name x pos) (gName i):=by
 intro a0 s σ H v u Q I r h
 exact wpAny_assign_Name (store_ok I hN hi hx r (λs' I'=>⟨_,H,I',h⟩) hf)
def gNil:TGs:=λvs σ H Q=>vs=[]∧Q σ H
inductive RGC(vs:List V)(R:V→List V→Prop):Prop
 |mk (v:V) (r:List V) (e:vs=v::r) (q:R v r):RGC vs R
def gCons(t:TG)(u:TGs):TGs:=λvs σ H Q=>RGC vs λv r=>t v σ H λ σ' H'=>u r σ' H' Q
def zcj:PGs X [] gNil:=by
 intro a0 s σ H vs us Q I r h
 obtain⟨e,h⟩:=h
 subst e
 cases r
 exact assignInOrder_nil ⟨σ,H,I,h⟩
def zax{e:Expr}{es:Nq}{t:TG}{u:TGs}(h1:PG X e t)(h2:PGs X es u)(hs:(assignEach (e::es) X.env).map (·.2)=assign e X.env::(assignEach es X.env).map (·.2):=by rfl):PGs X (e::es) (gCons t u):=by
 intro a0 s σ H vs us Q I r h
 obtain⟨v,vr,e1,h⟩:=h
 subst e1
 cases r with
 |cons r rr =>
  rw[hs]
  refine assignInOrder_cons (thn (h1 a0 s σ H _ _ _ I r h) λ_ s1 ⟨σ1,H1,I1,q1⟩=>?_)
  exact h2 a0 s1 σ1 H1 _ _ Q I1 rr q1
inductive RGT(K:Na)(n:Nat)(v:V)(H:Hp)(R:List V→Prop):Prop
 |mk (a:Nc) (xs:List V) (e:v=.ref a) (s:SqT K H a xs) (l:xs.length=n) (q:R xs):RGT K n v H R
def gTup(K:Na)(n:Nat)(t:TGs):TG:=λv σ H Q=>RGT K n v H λxs=>t xs σ H Q
def ze8(hc:X.calm=true)(h:PGs X es t)(hn:(assignEach es X.env).length=n:=by rfl)(aQ:(assignEach es X.env).findIdx? (·.1)=none:=by rfl):PG X (.Tuple es k pos) (gTup X.K n t):=by
 intro a0 s σ H v u Q I r hw
 obtain⟨a,xs,e1,hq,hl,hw⟩:=hw
 subst e1
 cases r
 obtain⟨a7,rv,ht,hz⟩:=I.tuple hq
 refine assign_Tuple_tuple (I.ok.hd hc) ht (by simp[hn,←hl,rv.length]) aQ λh' hx=>?_
 have I1:Inv X a0 σ H {s with heap:=h'}:=I.kept (t':=s.toks) λb o e=>hx b o (Ze (Qu e)) e
 exact h a0 _ σ H xs _ Q I1 (by simpa using rv) hw
def gSub(to ti:TE)(t:TSet):TG:=λv σ H Q=>to σ H λo H1=>ti σ H1 λi H2=>t o i v H2 λH3=>Q σ H3
def pg_sub{o i:Expr}{to ti:TE}{t:TSet}(ho:PE X o to)(hi:PE X i ti)(hs:PSet X t)(ha:∀ v,assign (.Subscript o i pos) X.env v=(do
   let ov ←holding [v] (eval o X.env)
   let iv ←holding [v,ov] (eval i X.env)
   standAt pos
   holding [v,ov,iv] (setItem ov iv v)
   release [v,ov,iv] []):=by intro _;rfl):PG X (.Subscript o i pos) (gSub to ti t):=by
 intro a0 s σ H v u Q I r h
 rw[ha]
 refine wpAny_bind (wpAny_holding (thn (ho a0 s σ H _ I h) λov s1 ⟨x,H1,I1,r1,q1⟩=>?_))
 refine wpAny_bind (wpAny_holding (thn (hi a0 s1 σ H1 _ I1 q1) λiv s2 ⟨y,H2,I2,r2,q2⟩=>?_))
 refine wpAny_bind (wpAny_standAt (wpAny_bind (wpAny_holding (thn (hs a0 s2 σ H2 x y v ov iv u _ I2 r1 r2 r q2) λ_ s3 ⟨H3,I3,q3⟩=>?_))))
 exact wpAny_release ⟨σ,H3,I3,q3⟩
def tAsg(te:TE)(g:TG):TS:=λD σ H=>te σ H λx H1=>g x σ H1 D.nx
def ps_asg{tg e:Expr}{te:TE}{g:TG}(he:PE X e te)(hg:PG X tg g)(hs:swapsWithSole [tg] e pos.line X.env=pure false:=by rfl)(hw:swappedStores [tg] e X.env=pure none:=by rfl)(h1:(assignEach [tg] X.env).map (·.2)=[assign tg X.env]:=by rfl):PS X (.Assign [tg] e pos) (tAsg te g):=by
 intro a0 s σ H D I h
 refine wpAny_Assign_stores (thn (he a0 s σ H _ I h) λv s1 ⟨x,H1,I1,r1,q1⟩=>?_) hs hw
 rw[h1]
 exact thn (hg a0 s1 σ H1 x v _ I1 r1 q1) λ_ s2 q=>q
def zam{i:Nat}{x:Str}{e:Expr}{te:TE}{bY:Pos}(hN:X.N.Nodup)(hi:X.N[i]?=some x)(hx:Loc X.env.scope x)(he:PE X e te)(hs:swapsWith e (some (.Name x bY)) pos.line X.env=pure false:=by rfl)(hf:X.fn x=true∨X.env.scope.names.lookup x=some .local:=by first | exact .inl rfl | exact .inr rfl | assumption) :
  PS X (.Assign [.Name x bY] e pos) (tAsg te (gName i)):=by
 intro a0 s σ H D I h
 refine wpAny_Assign_Name (thn (he a0 s σ H _ I h) λv s1 ⟨y,H1,I1,r1,q1⟩=>?_) hs
 exact store_ok I1 hN hi hx r1 (λs2 I2=>⟨_,H1,I2,q1⟩) hf
end
section
variable{X:Cx}{pos:Pos}
def tWhile(c:TT)(tb:TS):TS:=λD σ H=>∃W:Nat→St→Hp→Prop,(∃m,W m σ H)∧∀m σ H,W m σ H →
 c σ H λb H1=>if b=true then ∃N:St→Hp→Prop,(∀σ' H',N σ' H'→∃m',m'<m∧W m' σ' H')∧tb {D with nx:=N,ct:=N,bk:=D.nx} σ H1 else D.nx σ H1
def zdl(hp:PassesOwn (model X.prog X.w) X.A X.env X.xe)(hc:PT X c tc)(hb:PSs X body tb):PS X (.While c body [] pos) (tWhile tc tb):=by
 intro a0 s σ H D I h
 obtain⟨W,⟨m0,w0⟩,turn⟩:=h
 refine wpAny_While (codeAny_whileLoop (λn s'=>∃σ' H',Inv X a0 σ' H' s'∧W n σ' H') ?_ m0 ⟨σ,H,I,w0⟩)
 rintro n s1 ⟨σ1,H1,I1,w1⟩
 refine wpAny_passesOwn hp (thn (hc a0 s1 σ1 H1 _ I1 (turn n σ1 H1 w1)) λb s2 ⟨H2,I2,q2⟩=>?_)
 cases b with
 | true =>
  obtain⟨N,hN,q2⟩:=q2
  rw[if_pos rfl]
  refine wpAny_passesOwn hp (thn (hb a0 s2 σ1 H2 _ I2 q2) λf s3 q3=>?_)
  cases f with
  |next =>
   obtain⟨σ3,H3,I3,n3⟩:=q3
   obtain⟨m',hm,w3⟩:=hN σ3 H3 n3
   exact⟨m',hm,σ3,H3,I3,w3⟩
  |cont =>
   obtain⟨σ3,H3,I3,n3⟩:=q3
   obtain⟨m',hm,w3⟩:=hN σ3 H3 n3
   exact⟨m',hm,σ3,H3,I3,w3⟩
  |brk=>exact q3
  |ret v=>exact q3
 |false =>
  rw[if_neg Zg]
  exact wpAny_execs_nil ⟨σ1,H2,I2,q2⟩
end
structure It where
 go:Nat→Hp→Prop
 yld:Nat→Hp→V→Hp→Prop
 stop:Nat→Hp→Prop
def FpOk(X:Cx)(a0:Nf)(H:Hp)(b:Nc):Prop :=
 H b=none∧b≠X.env.locals∧b∉X.fs∧(b∈X.ex∨X.s₀.heap.objs.size≤b)∧(∀x c,X.env.cells.lookup x=some c→c≠b)∧∀p∈X.pn++a0,p.1≠b
def Inv.fpOk{X:Cx}{a0:Nf}{σ:St}{H H':Hp}{s:Nh}{b:Nc}(I:Inv X a0 σ H s)(hb:s.heap.objs.size≤b)(hn:H' b=none):FpOk X a0 H' b:=by
 refine⟨hn,Yw (Zw I.lt hb),I.nofs hb,.inr (Zd I.sz hb),λx c e z=>?_,λp hp z=>?_⟩
 ·obtain ⟨v,q⟩:=I.cell x c e
  exact absurd (Zw q.lt (by rw[z];exact hb)) (Yy _)
 ·exact absurd (Zw (Qu (I.pin p hp).1) (by rw[z];exact hb)) (Yy _)
structure Turn(P:Nj)(w:Nl)(K:Na)(tg:Expr)(J:It)(fp:Nk)(it:Nc)(tn:Nat→Heap→Prop):Prop where
 mem:it∈fp
 obj:∀i h,tn i h→∀b∈fp,∃o,h.get? b=some o∧∀v,o.data≠.cell v
 keep:∀i h h',tn i h→(∀b∈fp,∀o,h.get? b=some o→h'.get? b=some o)→tn i h'
 item:∀(X:Cx),X.prog=P→X.w=w→X.K=K→X.calm=true→∀(i:Nat) (a0:Nf) (s:Nh) (σ:St) (H:Hp) (E:Nb),Inv X a0 σ H s→(∀b∈fp,FpOk X a0 H b)→tn i s.heap→J.go i H →
  wpAny (model P w) X.A (pyNext (.ref it)) (λr s1=>∃u,r=some u ∧
   wpAny (model P w) X.A (letOwnedTupleGo tg (.ref it) u) (λ_ s2=>∃x H',Inv X a0 σ H' s2∧RelV x u∧J.yld i H x H'∧tn (i+1) s2.heap∧∀b∈fp,H' b=none) E s1) E s
 done:∀(X:Cx),X.prog=P→X.w=w→X.K=K→X.calm=true→∀(i:Nat) (a0:Nf) (s:Nh) (σ:St) (H:Hp) (E:Nb),Inv X a0 σ H s→(∀b∈fp,FpOk X a0 H b)→tn i s.heap→J.stop i H →
  wpAny (model P w) X.A (pyNext (.ref it)) (λr s1=>r=none∧Inv X a0 σ H s1) E s
 self:∀(A:Nn) (i:Nat) (s:Nh) (Q:Nb) (E:Nb),tn i s.heap→Q (.ref it) s→wpAny (model P w) A (pyIter (.ref it)) Q E s
abbrev TI:=St→Hp→(It→Hp→Prop)→Prop
inductive PIE(X:Cx)(a0:Nf)(σ:St)(tg:Expr)(R:It→Hp→Prop)(itv:Value)(s2:Nh):Prop
 |mk (it:Nc) (fp:Nk) (tn:Nat→Heap→Prop) (J:It) (H':Hp) (h0:itv=.ref it) (h1:Inv X a0 σ H' s2) (h2:Turn X.prog X.w X.K tg J fp it tn) (h3:tn 0 s2.heap) (h4:(∀b∈fp,FpOk X a0 H' b)) (h5:R J H'):PIE X a0 σ tg R itv s2
def PI(X:Cx)(tg iter:Expr)(wi:TI):Prop :=
 ∀(a0:Nf) (s:Nh) (σ:St) (H:Hp) (R:It→Hp→Prop),Inv X a0 σ H s→wi σ H R →
  wpAny (model X.prog X.w) X.A (eval iter X.env) (λv s1=>wpAny (model X.prog X.w) X.A (pyIter v) (PIE X a0 σ tg R) X.xe s1) X.xe s
def go_of(ho:s.heap.get? it=some o)(hc:o.cls=.type n)(hd:o.data=.fields vs)(hn:["enumerate", "zip", "dict_itemiterator", "dict_reverseitemiterator", "odict_iterator", "itertools.zip_longest", "itertools.pairwise"].contains n=false)(hQ:Q () s):wpAny M A (letOwnedTupleGo tg (.ref it) u) Q E s:=by
 unfold letOwnedTupleGo
 cases tg <;> first
  |exact wpAny_pure hQ
  | (cases u <;> first
    |exact wpAny_pure hQ
    | (refine wpAny_bind (wpAny_load ho ?_)
       rw[hc,hd]
       show wpAny M A (if(["enumerate", "zip", "dict_itemiterator", "dict_reverseitemiterator", "odict_iterator", "itertools.zip_longest", "itertools.pairwise"].contains n&&vs[0]?==some (rawInt _))=true then _ else _) Q E s
       rw[if_neg (by intro h;rw[hn,Bool.false_and]at h;cases h)]
       exact wpAny_pure hQ))
def Itl(K:Na)(a:Nc):It :=
 ⟨λi H=>∃xs x,SqL K H a xs∧xs[i]?=some x,λi H x H'=>H'=H∧∀xs,SqL K H a xs→xs[i]?=some x,λi H=>∃xs,SqL K H a xs∧xs.length≤i⟩
def Itt(K:Na)(a:Nc):It :=
 ⟨λi H=>∃xs x,SqT K H a xs∧xs[i]?=some x,λi H x H'=>H'=H∧∀xs,SqT K H a xs→xs[i]?=some x,λi H=>∃xs,SqT K H a xs∧xs.length≤i⟩
def Itr(lo:Int)(n:Nat):It:=⟨λi _=>i<n,λi H x H'=>H'=H∧x=.int (lo+i),λi _=>n≤i⟩
theorem turn_list{P:Nj}{w:Nl}{K:Na}{tg:Expr}(a it:Nc):Turn P w K tg (Itl K a) [it] it (λi h=>h.IsListIter it a i) where
 mem:=by simp
 obj:=λi h st b hb=>by
  have e:b=it:=by simpa using hb
  subst e
  obtain⟨o,e,c,d⟩:=st
  exact⟨o,e,λv z=>by rw[d]at z;cases z⟩
 keep:=λi h h' st k=>st.at λo e=>k it (by simp) o e
 item:=by
  intro X hP hw hK hc i a0 s σ H E I hf st hg
  subst hP hw hK
  obtain⟨xs,x,hq,hx⟩:=hg
  obtain⟨a7,rv,p,hz⟩:=I.list hq
  obtain⟨u,hu,ru⟩:=rv.get hx
  obtain⟨f0,f1,f2,f3,f4,f5⟩:=hf it (by simp)
  refine wpAny_pyNext_list_item st p.isList (x:=u) (by simpa using hu) λh' a8 sb=>?_
  have I1:Inv X a0 σ H {s with heap:=h'}:=I.turned (t':=s.toks) (λb o hb e=>(sb.2 b hb).trans e) f0 f1 f3 f4 f5
  obtain⟨o,e,c,d⟩:=id a8
  exact⟨u,rfl,go_of (s:={s with heap:=h'}) e c d (by decide) ⟨x,H,I1,ru,⟨rfl,λys hy=>by rw[I.list_inj hy hq];exact hx⟩,a8,λb hb=>(hf b hb).1⟩⟩
 done:=by
  intro X hP hw hK hc i a0 s σ H E I hf st hg
  subst hP hw hK
  obtain⟨xs,hq,hx⟩:=hg
  obtain⟨a7,rv,p,hz⟩:=I.list hq
  obtain⟨f0,f1,f2,f3,f4,f5⟩:=hf it (by simp)
  have hl:=rv.length
  exact wpAny_pyNext_list_end (I.ok.hd hc) st p.isList (by simp;exact zdz ‹_› ‹_›) λh' eb=>⟨rfl,I.turned (t':=s.toks) (λb o hb e=>eb b o hb e) f0 f1 f3 f4 f5⟩
 self:=λ_ _ _ _ _ st h=>wpAny_pyIter_listiter st h
theorem turn_tuple{P:Nj}{w:Nl}{K:Na}{tg:Expr}(a it:Nc):Turn P w K tg (Itt K a) [it] it (λi h=>h.IsTupleIter it a i) where
 mem:=by simp
 obj:=λi h st b hb=>by
  have e:b=it:=by simpa using hb
  subst e
  obtain⟨o,e,c,d⟩:=st
  exact⟨o,e,λv z=>by rw[d]at z;cases z⟩
 keep:=λi h h' st k=>st.at λo e=>k it (by simp) o e
 item:=by
  intro X hP hw hK hc i a0 s σ H E I hf st hg
  subst hP hw hK
  obtain⟨xs,x,hq,hx⟩:=hg
  obtain⟨a7,rv,p,hz⟩:=I.tuple hq
  obtain⟨u,hu,ru⟩:=rv.get hx
  obtain⟨f0,f1,f2,f3,f4,f5⟩:=hf it (by simp)
  refine wpAny_pyNext_tuple_item st (show s.heap.IsTuple a a7.toArray from p) (x:=u) (by simpa using hu) λh' a8 sb=>?_
  have I1:Inv X a0 σ H {s with heap:=h'}:=I.turned (t':=s.toks) (λb o hb e=>(sb.2 b hb).trans e) f0 f1 f3 f4 f5
  obtain⟨o,e,c,d⟩:=id a8
  exact⟨u,rfl,go_of (s:={s with heap:=h'}) e c d (by decide) ⟨x,H,I1,ru,⟨rfl,λys hy=>by rw[I.tuple_inj hy hq];exact hx⟩,a8,λb hb=>(hf b hb).1⟩⟩
 done:=by
  intro X hP hw hK hc i a0 s σ H E I hf st hg
  subst hP hw hK
  obtain⟨xs,hq,hx⟩:=hg
  obtain⟨a7,rv,p,hz⟩:=I.tuple hq
  obtain⟨f0,f1,f2,f3,f4,f5⟩:=hf it (by simp)
  have hl:=rv.length
  exact wpAny_pyNext_tuple_end (I.ok.hd hc) st (show s.heap.IsTuple a a7.toArray from p) (by simp;exact zdz ‹_› ‹_›) λh' eb=>⟨rfl,I.turned (t':=s.toks) (λb o hb e=>eb b o hb e) f0 f1 f3 f4 f5⟩
 self:=λ_ _ _ _ _ st h=>wpAny_pyIter_tupleiter st h
theorem turn_range{P:Nj}{w:Nl}{K:Na}{tg:Expr}(it:Nc)(lo:Int)(n:Nat):Turn P w K tg (Itr lo n) [it] it (λi h=>IsRangeIter h it (lo+(i:Nat)*1) ((n:Int)-(i:Nat)) 1) where
 mem:=by simp
 obj:=λi h st b hb=>by
  have e:b=it:=by simpa using hb
  subst e
  exact⟨_,st,λv z=>by
   have z':Data.fields _=Data.cell v:=z
   cases z'⟩
 keep:=λi h h' st k=>k it (by simp) _ st
 item:=by
  intro X hP hw hK hc i a0 s σ H E I hf st hg
  subst hP hw hK
  obtain⟨f0,f1,f2,f3,f4,f5⟩:=hf it (by simp)
  have W:=Walks.range (prog:=X.prog) (w:=X.w) (I.ok.hd hc) it lo 1 n
  refine W.item i s _ _ hg st λv h' tk hv a8 kk=>?_
  obtain⟨t,rfl⟩:=hv
  have I1:Inv X a0 σ H {s with heap:=h',toks:=tk}:=I.turned (λb o hb e=>kk b o (by simpa using hb) e) f0 f1 f3 f4 f5
  refine⟨_,rfl,go_of (s:={s with heap:=h',toks:=tk}) (n := "range_iterator") a8 rfl rfl (by decide) ⟨.int (lo+i),H,I1,⟨t,?_⟩,⟨rfl,rfl⟩,a8,λb hb=>(hf b hb).1⟩⟩
  rw[Int.mul_one]
 done:=by
  intro X hP hw hK hc i a0 s σ H E I hf st hg
  subst hP hw hK
  obtain⟨f0,f1,f2,f3,f4,f5⟩:=hf it (by simp)
  exact wpAny_pyNext_range_end (I.ok.hd hc) st (by have:n≤i:=hg;lia) λh' eb=>⟨rfl,I.turned (t':=s.toks) (λb o hb e=>eb b o hb e) f0 f1 f3 f4 f5⟩
 self:=λ_ _ _ _ _ st h=>wpAny_pyIter_rangeiter st h
end L2
namespace L2
open PySem PySem.Spec PyProof.Rows
section
variable{X:Cx}{tg:Expr}
inductive RI1(x:V)(S R:Addr→Prop):Prop
 |mk (a:Nc) (e:x=.ref a) (s:S a) (q:R a):RI1 x S R
def iList(K:Na)(tl:TE):TI:=λ σ H R=>tl σ H λx H1=>RI1 x (λa=>∃xs,SqL K H1 a xs) λa=>R (Itl K a) H1
def iTup(K:Na)(tl:TE):TI:=λ σ H R=>tl σ H λx H1=>RI1 x (λa=>∃xs,SqT K H1 a xs) λa=>R (Itt K a) H1
def zav{l:Expr}{tl:TE}(hl:PE X l tl):PI X tg l (iList X.K tl):=by
 intro a0 s σ H R I h
 refine thn (hl a0 s σ H _ I h) λv s1 ⟨x,H1,I1,r1,q1⟩=>?_
 obtain⟨a,e,⟨xs,hq⟩,q⟩:=q1
 subst e
 cases r1
 obtain⟨a7,rv,p,hz⟩:=I1.list hq
 refine wpAny_pyIter_list p.isList ?_
 refine⟨s1.heap.objs.size,[s1.heap.objs.size],_,_,H1,rfl,I1.kept (t':=s1.toks) λb o e=>Qj _ e,turn_list a _,⟨_,Za _ rfl,rfl,rfl⟩,λb hb=>?_,q⟩
 have e:b=s1.heap.objs.size:=by simpa using hb
 subst e
 exact I1.fpOk (Qf _) (I1.hok.fresh (Qf _))
def pi_tup{l:Expr}{tl:TE}(hl:PE X l tl):PI X tg l (iTup X.K tl):=by
 intro a0 s σ H R I h
 refine thn (hl a0 s σ H _ I h) λv s1 ⟨x,H1,I1,r1,q1⟩=>?_
 obtain⟨a,e,⟨xs,hq⟩,q⟩:=q1
 subst e
 cases r1
 obtain⟨a7,rv,p,hz⟩:=I1.tuple hq
 refine wpAny_pyIter_tuple (show s1.heap.IsTuple a a7.toArray from p) ?_
 refine⟨s1.heap.objs.size,[s1.heap.objs.size],_,_,H1,rfl,I1.kept (t':=s1.toks) λb o e=>Qj _ e,turn_tuple a _,⟨_,Za _ rfl,rfl,rfl⟩,λb hb=>?_,q⟩
 have e:b=s1.heap.objs.size:=by simpa using hb
 subst e
 exact I1.fpOk (Qf _) (I1.hok.fresh (Qf _))
def range_it{a0:Nf}{σ:St}{H:Hp}{s:Nh}{R:It→Hp→Prop}{E:Nb}{lo hi:Int}{t u v:Tok}{tk:Nat}(I:Inv X a0 σ H s)(h1:-(2 ^ 62)≤lo)(h2:lo<2 ^ 62)(h3:-(2 ^ 62)≤hi)(h4:hi<2 ^ 62)(q:R (Itr lo (hi-lo).toNat) H):wpAny (model X.prog X.w) X.A (pyIter (.ref s.heap.objs.size)) (PIE X a0 σ tg R) E {s with heap:=s.heap.push {cls:=.type "range",data:=.fields #[.int lo t,.int hi u,.int 1 v]},toks:=tk}:=by
 refine wpAny_pyIter_range (IsRange.new ..) (small_one h1 h2 h3 h4) ?_
 have I1:Inv X a0 σ H {s with heap:=s.heap.push {cls:=.type "range",data:=.fields #[.int lo t,.int hi u,.int 1 v]},toks:=tk}:=I.kept λb o e=>Qj _ e
 refine⟨(s.heap.push {cls:=.type "range",data:=.fields #[.int lo t,.int hi u,.int 1 v]}).objs.size,[(s.heap.push {cls:=.type "range",data:=.fields #[.int lo t,.int hi u,.int 1 v]}).objs.size],_,_,H,rfl,
  I1.kept (t':=tk) λb o e=>Qj _ e,turn_range _ lo (hi-lo).toNat,?_,λb hb=>?_,q⟩
 ·have e1:lo+((0:Nat):Int)*1=lo:=by simp
  have e2:(((hi-lo).toNat:Nat):Int)-((0:Nat):Int)=Builtin.Range.rangeSize lo hi 1:=by rw[rangeSize_one];split<;>lia
  show IsRangeIter _ _ (lo+((0:Nat):Int)*1) ((((hi-lo).toNat:Nat):Int)-((0:Nat):Int)) 1
  rw[e1,e2]
  exact Za _ rfl
 ·have e:b=(s.heap.push { cls:=.type "range",data:=.fields #[.int lo t,.int hi u,.int 1 v] }).objs.size:=by simpa using hb
  subst e
  exact I1.fpOk (Qf _) (I1.hok.fresh (Qf _))
inductive RR1(vs:List V)(R:Int→Prop):Prop
 |mk (j:Int) (e:vs=[.int j]) (l:-(2 ^ 62)≤j) (u:j<2 ^ 62) (q:R j):RR1 vs R
def iRng1(ta:TA):TI:=λ σ H R=>ta σ H λvs H1=>RR1 vs λj=>R (Itr 0 j.toNat) H1
def zc8{a:Expr}{ta:TA}{p pos:Pos}(hg:Gl X "range")(hm:X.mg "range" = none)(ha:PA X [a] ta)(hs:starEach [a] X.env=[(false,eval a X.env)]:=by rfl):PI X tg (.Call (.Name "range" p) [a] [] pos) (iRng1 ta):=by
 intro a0 s σ H R I h
 refine Call_ (zg8 I hg hm boot_range (Us (thn (ha pos a0 s σ H _ I h) λus s1 ⟨vs,H1,I1,r1,q1⟩=>?_) hs rfl))
 obtain⟨j,e,q1,q2,q⟩:=q1
 subst e
 cases r1 with
 |cons r rr =>
  cases rr
  obtain⟨t,rfl⟩:=r
  exact call_range_1 (range_it I1 (by lia) (by lia) q1 q2 (by simpa using q))
def tFor(wi:TI)(g:TG)(tb:TS):TS:=λD σ H=>wi σ H λJ H1=>∃W:Nat→Nat→St→Hp→Prop,(∃m,W 0 m σ H1)∧∀i m σ H,W i m σ H →
 (J.stop i H∧D.nx σ H)∨(J.go i H∧∃N:St→Hp→Prop,(∀σ' H',N σ' H'→∃m',m'<m∧W (i+1) m' σ' H')∧∀x H',J.yld i H x H'→g x σ H' λ σ2 H2=>tb {D with nx:=N,ct:=N,bk:=D.nx} σ2 H2)
def za7(fp:Nk)(h:Nm):List (Addr×Obj):=fp.filterMap λb=>(h.get? b).map λo=>(b,o)
def za1(hb:b∈fp)(e:h.get? b=some o):(b,o)∈za7 fp h:=List.mem_filterMap.mpr ⟨b,hb,by rw[e];rfl⟩
def zcu(hp:p∈za7 fp h):p.1∈fp∧h.get? p.1=some p.2:=by
 obtain⟨b,hb,e⟩:=List.mem_filterMap.mp hp
 cases q:h.get? b with
 |none=>rw[q]at e;cases e
 |some o =>
  rw[q]at e
  have e':(b,o)=p:=Qp e
  subst e'
  exact⟨hb,q⟩
def Inv.pinned(I:Inv X a0 σ H s)(hf:∀b∈fp,FpOk X a0 H b)(ho:∀b∈fp,∃o,s.heap.get? b=some o∧∀v,o.data≠.cell v):Inv X (a0++za7 fp s.heap) σ H s :=
 I.pins_of λp hp=>(Qe.mp hp).elim (λz=>I.pin p (Qi _ z)) λz=>by
  obtain⟨hb,e⟩:=zcu z
  obtain⟨f0,f1,f2,_⟩:=hf p.1 hb
  obtain⟨o,e',d⟩:=ho p.1 hb
  rw[e]at e';cases e'
  exact⟨e,f0,f1,f2,d⟩
def Inv.unpinned(I:Inv X (a0++pl) σ H s):Inv X a0 σ H s:=I.pins_of λp hp=>I.pin p (Qi _ (Ql _ hp))
def zbc(hp:PassesOwn (model X.prog X.w) X.A X.env X.xe)(hc:X.calm=true)(hi:PI X tg iter wi)(hg:PG X tg g)(hb:PSs X body tb)(hs:∀x,foldedSetIterable iter X.env x=pure x:=by intro _;rfl):PS X (.For tg iter body [] pos) (tFor wi g tb):=by
 intro a0 s σ H D I h
 refine wpAny_For (thn (hi a0 s σ H _ I h) λv s1 h1=>thn h1 λitv s2 h2=>?_) hs
 obtain⟨it,fp,tn,J,H2,e,I2,T,bJ,f2,W,⟨m0,w0⟩,turn⟩:=h2
 subst e
 have stat:∀{H':Hp},(∀b∈fp,H' b=none)→∀b∈fp,FpOk X a0 H' b:=λhn b hb=>⟨hn b hb,(f2 b hb).2⟩
 refine codeAny_forLoop_any (λn s'=>Ex3 λi σ' H'=>Aj4 (Inv X a0 σ' H' s') (tn i s'.heap) (∀b∈fp,H' b=none) (W i n σ' H')) ?_ m0 ⟨0,σ,H2,I2,bJ,λb hb=>(f2 b hb).1,w0⟩
 rintro n s3 ⟨i,σ3,H3,I3,av,fr3,w3⟩
 rcases turn i n σ3 H3 w3 with⟨stop,qn⟩ | ⟨go,N,hN,step⟩
 ·refine wpAny_passesOwn hp (thn (T.done X rfl rfl rfl hc i a0 s3 σ3 H3 X.xe I3 (stat fr3) av stop) fun r s4 ⟨hr,I4⟩=>?_)
  subst hr
  exact wpAny_execs_nil ⟨σ3,H3,I4,qn⟩
 ·refine wpAny_passesOwn hp (thn (T.item X rfl rfl rfl hc i a0 s3 σ3 H3 X.xe I3 (stat fr3) av go) fun r s4 ⟨u,hr,h4⟩=>?_)
  subst hr
  refine wpAny_passesOwn hp (thn h4 λ_ s5 ⟨x,H5,I5,r5,y5,ny,fr5⟩=>?_)
  have fI:=I5.pinned (stat fr5) (T.obj _ _ ny)
  refine wpAny_passesOwn hp (thn (hg _ s5 σ3 H5 x u _ fI r5 (step x H5 y5)) λ_ s6 ⟨σ6,H6,I6,q6⟩=>?_)
  refine wpAny_passesOwn hp (thn (hb _ s6 σ6 H6 _ I6 q6) λf s7 q7=>?_)
  have again:∀{σ7:St} {H7:Hp},Inv X (a0++za7 fp s5.heap) σ7 H7 s7→N σ7 H7→∃m,m<n∧Ex3 λi σ' H'=>Aj4 (Inv X a0 σ' H' s7) (tn i s7.heap) (∀b∈fp,H' b=none) (W i m σ' H'):=λ{σ7 H7} I7 n7=>by
   obtain⟨m',hm,w7⟩:=hN σ7 H7 n7
   refine⟨m',hm,i+1,σ7,H7,I7.unpinned,T.keep _ _ _ ny λb hb o e=>(I7.pin (b,o) (Qi _ (Qi _ (za1 hb e)))).1,λb hb=>?_,w7⟩
   obtain⟨o,e,d⟩:=T.obj _ _ ny b hb
   exact(I7.pin (b,o) (Qi _ (Qi _ (za1 hb e)))).2.1
  cases f with
  |next=>obtain⟨σ7,H7,I7,n7⟩:=q7;exact again I7 n7
  |cont=>obtain⟨σ7,H7,I7,n7⟩:=q7;exact again I7 n7
  |brk=>obtain⟨σ7,H7,I7,q7⟩:=q7;exact⟨σ7,H7,I7.unpinned,q7⟩
  |ret v=>obtain⟨x7,σ7,H7,I7,r7,q7⟩:=q7;exact⟨x7,σ7,H7,I7.unpinned,r7,q7⟩
end
def zbr{K:Na}{a:Nc}{xs:List V}{g:TG}{tb:TS}{D:Ends}{σ:St}{H:Hp}(Pv:Nat→St→Hp→Prop)(h0:Pv 0 σ H)(hl:∀i σ H,i≤xs.length→Pv i σ H→SqL K H a xs)(hs:∀i x σ H,xs[i]?=some x→Pv i σ H→g x σ H λ σ2 H2=>tb {D with nx:=Pv (i+1),ct:=Pv (i+1),bk:=D.nx} σ2 H2)(hd:∀σ H,Pv xs.length σ H→D.nx σ H) :
  ∃W:Nat→Nat→St→Hp→Prop,(∃m,W 0 m σ H)∧∀i m σ H,W i m σ H →
   ((Itl K a).stop i H∧D.nx σ H)∨((Itl K a).go i H∧∃N:St→Hp→Prop,(∀σ' H',N σ' H'→∃m',m'<m∧W (i+1) m' σ' H')∧∀x H',(Itl K a).yld i H x H'→g x σ H' λ σ2 H2=>tb {D with nx:=N,ct:=N,bk:=D.nx} σ2 H2):=by
 refine⟨λi m σ H=>m=xs.length-i∧i≤xs.length∧Pv i σ H,⟨xs.length,by simp,Zi _,h0⟩,?_⟩
 rintro i m σ H ⟨rfl,hi,p⟩
 have q:=hl i σ H hi p
 by_cases aa:i<xs.length
 ·refine .inr ⟨⟨xs,xs[i],q,by simp [aa]⟩,Pv (i+1),fun σ' H' p'=>⟨xs.length - (i+1),by exact zar1 ‹_›,rfl,aa,p'⟩,fun x H' y=>?_⟩
  obtain⟨e,y⟩:=y
  subst e
  exact hs i x σ _ (y xs q) p
 ·have e:i=xs.length:=by exact zar3 ‹_› ‹_›
  subst e
  exact .inl ⟨⟨xs,q,Qf _⟩,hd σ H p⟩
def for_tup{K:Na}{a:Nc}{xs:List V}{g:TG}{tb:TS}{D:Ends}{σ:St}{H:Hp}(Pv:Nat→St→Hp→Prop)(h0:Pv 0 σ H)(hl:∀i σ H,i≤xs.length→Pv i σ H→SqT K H a xs)(hs:∀i x σ H,xs[i]?=some x→Pv i σ H→g x σ H λ σ2 H2=>tb {D with nx:=Pv (i+1),ct:=Pv (i+1),bk:=D.nx} σ2 H2)(hd:∀σ H,Pv xs.length σ H→D.nx σ H) :
  ∃W:Nat→Nat→St→Hp→Prop,(∃m,W 0 m σ H)∧∀i m σ H,W i m σ H →
   ((Itt K a).stop i H∧D.nx σ H)∨((Itt K a).go i H∧∃N:St→Hp→Prop,(∀σ' H',N σ' H'→∃m',m'<m∧W (i+1) m' σ' H')∧∀x H',(Itt K a).yld i H x H'→g x σ H' λ σ2 H2=>tb {D with nx:=N,ct:=N,bk:=D.nx} σ2 H2):=by
 refine⟨λi m σ H=>m=xs.length-i∧i≤xs.length∧Pv i σ H,⟨xs.length,by simp,Zi _,h0⟩,?_⟩
 rintro i m σ H ⟨rfl,hi,p⟩
 have q:=hl i σ H hi p
 by_cases aa:i<xs.length
 ·refine .inr ⟨⟨xs,xs[i],q,by simp [aa]⟩,Pv (i+1),fun σ' H' p'=>⟨xs.length - (i+1),by exact zar1 ‹_›,rfl,aa,p'⟩,fun x H' y=>?_⟩
  obtain⟨e,y⟩:=y
  subst e
  exact hs i x σ _ (y xs q) p
 ·have e:i=xs.length:=by exact zar3 ‹_› ‹_›
  subst e
  exact .inl ⟨⟨xs,q,Qf _⟩,hd σ H p⟩
def zef{lo:Int}{n:Nat}{g:TG}{tb:TS}{D:Ends}{σ:St}{H:Hp}(Pv:Nat→St→Hp→Prop)(h0:Pv 0 σ H)(hs:∀i σ H,i<n→Pv i σ H→g (.int (lo+i)) σ H λ σ2 H2=>tb {D with nx:=Pv (i+1),ct:=Pv (i+1),bk:=D.nx} σ2 H2)(hd:∀σ H,Pv n σ H→D.nx σ H) :
  ∃W:Nat→Nat→St→Hp→Prop,(∃m,W 0 m σ H)∧∀i m σ H,W i m σ H →
   ((Itr lo n).stop i H∧D.nx σ H)∨((Itr lo n).go i H∧∃N:St→Hp→Prop,(∀σ' H',N σ' H'→∃m',m'<m∧W (i+1) m' σ' H')∧∀x H',(Itr lo n).yld i H x H'→g x σ H' λ σ2 H2=>tb {D with nx:=N,ct:=N,bk:=D.nx} σ2 H2):=by
 refine⟨λi m σ H=>m=n-i∧i≤n∧Pv i σ H,⟨n,by simp,Zi _,h0⟩,?_⟩
 rintro i m σ H ⟨rfl,hi,p⟩
 by_cases aa:i<n
 ·refine .inr ⟨aa,Pv (i+1),fun σ' H' p'=>⟨n - (i+1),by exact zar1 ‹_›,rfl,aa,p'⟩,fun x H' y=>?_⟩
  obtain⟨e,y⟩:=y
  subst e y
  exact hs i σ _ aa p
 ·have e:i=n:=by exact zar3 ‹_› ‹_›
  subst e
  exact .inl ⟨Qf _,hd σ H p⟩
end L2
namespace L2
open PySem PySem.Spec PyProof.Rows
abbrev R2:=V→V→Hp→VK→Prop
def OpR(X:Cx)(f:Value→Value→Sem Value)(r:R2):Prop :=
 ∀(a0:Nf) (s:Nh) (σ:St) (H:Hp) (x y:V) (v u:Value) (Q:VK),Inv X a0 σ H s→RelV x v→RelV y u→r x y H Q →
  wpAny (model X.prog X.w) X.A (f v u) (EP X a0 σ Q) X.xe s
def UnR(X:Cx)(f:Value→Sem Value)(r:V→Hp→VK→Prop):Prop :=
 ∀(a0:Nf) (s:Nh) (σ:St) (H:Hp) (x:V) (v:Value) (Q:VK),Inv X a0 σ H s→RelV x v→r x H Q →
  wpAny (model X.prog X.w) X.A (f v) (EP X a0 σ Q) X.xe s
def zb4(X:Cx)(f:Value)(r:List V→Hp→VK→Prop):Prop :=
 ∀(a0:Nf) (s:Nh) (σ:St) (H:Hp) (xs:List V) (us:Ni) (Q:VK),Inv X a0 σ H s→Vals xs us→r xs H Q →
  wpAny (model X.prog X.w) X.A (call f us) (EP X a0 σ Q) X.xe s
def TruR(X:Cx)(r:V→Hp→(Bool→Hp→Prop)→Prop):Prop :=
 ∀(a0:Nf) (s:Nh) (σ:St) (H:Hp) (x:V) (v:Value) (Q:Bool→Hp→Prop),Inv X a0 σ H s→RelV x v→r x H Q →
  wpAny (model X.prog X.w) X.A (truthy v) (TP X a0 σ Q) X.xe s
def tOp(r:R2)(ta tb:TE):TE:=λ σ H Q=>ta σ H λx H1=>tb σ H1 λy H2=>r x y H2 Q
def tUn(r:V→Hp→VK→Prop)(ta:TE):TE:=λ σ H Q=>ta σ H λx H1=>r x H1 Q
inductive RrI(C:Int→Int→Prop)(g:Int→Int→V)(x:V)(y:V)(H:Hp)(Q:VK):Prop
 |mk (i:_) (j:_) (h0:x=.int i) (h1:y=.int j) (h2:C i j) (h3:Q (g i j) H):RrI C g x y H Q
def rI(C:Int→Int→Prop)(g:Int→Int→V):R2:=λx y H Q=>RrI C g x y H Q
inductive RrI0(g:Int→Int→V)(x:V)(y:V)(H:Hp)(Q:VK):Prop
 |mk (i:_) (j:_) (h0:x=.int i) (h1:y=.int j) (h2:Q (g i j) H):RrI0 g x y H Q
def rI0(g:Int→Int→V):R2:=λx y H Q=>RrI0 g x y H Q
def rU(g:Int→V):V→Hp→VK→Prop:=λx H Q=>∃i,x=.int i∧Q (g i) H
section
variable{X:Cx}{a b c:Expr}{ta tb tc:TE}{pos:Pos}
def binT(ha:PE X a ta)(hb:PE X b tb){a0:Nf}{s:Nh}{σ:St}{H:Hp}{R:V→V→Hp→Prop}(I:Inv X a0 σ H s)(h:ta σ H λx H1=>tb σ H1 λy H2=>R x y H2){Q:Nb}{f:Value→Value→Sem Value}(hf:∀v u s2 x y H2,Inv X a0 σ H2 s2→RelV x v→RelV y u→R x y H2→wpAny (model X.prog X.w) X.A (f v u) Q X.xe s2) :
  wpAny (model X.prog X.w) X.A (eval a X.env) (λv s₁=>wpAny (model X.prog X.w) X.A (eval b X.env) (λu s₂=>wpAny (model X.prog X.w) X.A (f v u) Q X.xe s₂) X.xe s₁) X.xe s:=by
 refine thn (ha a0 s σ H _ I h) λv s1 ⟨x,H1,I1,r1,q1⟩=>?_
 refine thn (hb a0 s1 σ H1 _ I1 q1) λu s2 ⟨y,H2,I2,r2,q2⟩=>?_
 exact hf v u s2 x y H2 I2 r1 r2 q2
def zbd{op:Operator}{r:R2}(ho:OpR X (binaryOp op) r)(ha:PE X a ta)(hb:PE X b tb):PE X (.BinOp a op b pos) (tOp r ta tb):=by
 intro a0 s σ H Q I h
 exact wpAny_BinOp (binT ha hb I h λv u s2 x y H2 I2 rx ry q=>ho a0 s2 σ H2 x y v u Q I2 rx ry q)
def pe_un(ho:UnR X (unaryOp op) r)(ha:PE X a ta):PE X (.UnaryOp op a pos) (tUn r ta):=by
 intro a0 s σ H Q I h
 exact UnaryOp_ (thn (ha a0 s σ H _ I h) λv s1 ⟨x,H1,I1,r1,q1⟩=>ho a0 s1 σ H1 x v Q I1 r1 q1)
def opI{f:Value→Value→Sem Value}{C:Int→Int→Prop}{g:Int→Int→Int}(rule:∀(i j:Int) (t u:Tok) (s:Nh) (Q:Nb) (E:Nb),C i j→Q (.int (g i j) s.toks) {s with toks:=s.toks+1}→wpAny (model X.prog X.w) X.A (f (.int i t) (.int j u)) Q E s) :
  OpR X f (rI C λi j=>.int (g i j)):=by
 intro a0 s σ H x y v u Q I rx ry h
 obtain⟨i,j,rfl,rfl,hc,q⟩:=h
 obtain⟨t,rfl⟩:=rx
 obtain⟨t',rfl⟩:=ry
 exact rule i j t t' s _ _ hc ⟨.int (g i j),H,I.tok _,⟨_,rfl⟩,q⟩
def opI0{f:Value→Value→Sem Value}{g:Int→Int→Int}(rule:∀(i j:Int) (t u:Tok) (s:Nh) (Q:Nb) (E:Nb),Q (.int (g i j) s.toks) {s with toks:=s.toks+1}→wpAny (model X.prog X.w) X.A (f (.int i t) (.int j u)) Q E s) :
  OpR X f (rI0 λi j=>.int (g i j)):=by
 intro a0 s σ H x y v u Q I rx ry h
 obtain⟨i,j,rfl,rfl,q⟩:=h
 obtain⟨t,rfl⟩:=rx
 obtain⟨t',rfl⟩:=ry
 exact rule i j t t' s _ _ ⟨.int (g i j),H,I.tok _,⟨_,rfl⟩,q⟩
def opB0{f:Value→Value→Sem Value}{g:Int→Int→Bool}(rule:∀(i j:Int) (t u:Tok) (s:Nh) (Q:Nb) (E:Nb),Q (.bool (g i j)) s→wpAny (model X.prog X.w) X.A (f (.int i t) (.int j u)) Q E s) :
  OpR X f (rI0 λi j=>.bl (g i j)):=by
 intro a0 s σ H x y v u Q I rx ry h
 obtain⟨i,j,rfl,rfl,q⟩:=h
 obtain⟨t,rfl⟩:=rx
 obtain⟨t',rfl⟩:=ry
 exact rule i j t t' s _ _ ⟨.bl (g i j),H,I,rfl,q⟩
def CDiv(i j:Int):Prop:=0<j∧j<1073741824
def CPow(i j:Int):Prop:=0≤j∧j≤1000000∧i.natAbs<2 ^ 64
def CMul(i j:Int):Prop:=(-(2 ^ 64)<i∧i<2 ^ 64)∨(-(2 ^ 64)<j∧j<2 ^ 64)
def CMul.ok{i j:Int}(h:CMul i j):IntMulOk i j:=by
 rcases h with⟨h1,h2⟩ | ⟨h1,h2⟩
 ·exact .of_left (intBits_le_64 h1 h2)
 ·exact .of_right (intBits_le_64 h1 h2)
def zc9:OpR X (binaryOp .Add) (rI0 λi j=>.int (i+j)):=opI0 λ_ _ _ _ _ _ _ q=>add_int q
def op_sub:OpR X (binaryOp .Sub) (rI0 λi j=>.int (i-j)):=opI0 λ_ _ _ _ _ _ _ q=>sub_int q
def op_mul:OpR X (binaryOp .Mult) (rI CMul λi j=>.int (i*j)):=opI λ_ _ _ _ _ _ _ hc q=>mul_int q hc.ok
def op_fdiv:OpR X (binaryOp .FloorDiv) (rI CDiv λi j=>.int (i/j)):=opI λi j _ _ _ _ _ hc q=>by
 have h1:(0:Int)<j:=hc.1
 have h2:j<1073741824:=hc.2
 exact floordiv_int (by lia) (by rw[Int.fdiv_eq_ediv_of_nonneg i (by lia)];exact q) (.inl (PyProof.noPylong_small (by lia)))
def zfb:OpR X (binaryOp .Mod) (rI (λ_ j=>0<j) λi j=>.int (i%j)):=opI λi j _ _ _ _ _ hc q=>by
 have h1:(0:Int)<j:=hc
 exact mod_int' (by lia) (by rw[Int.fmod_eq_emod_of_nonneg i (by lia)];exact q)
def op_pow:OpR X (binaryOp .Pow) (rI CPow λi j=>.int (i ^ j.toNat)):=opI λ_ _ _ _ _ _ _ hc q=>pow_int_small hc.1 hc.2.1 hc.2.2 q
def unI{f:Value→Sem Value}{g:Int→Int}(rule:∀(i:Int) (t:Tok) (s:Nh) (Q:Nb) (E:Nb),Q (.int (g i) s.toks) {s with toks:=s.toks+1}→wpAny (model X.prog X.w) X.A (f (.int i t)) Q E s) :
  UnR X f (rU λi=>.int (g i)):=by
 intro a0 s σ H x v Q I rx h
 obtain⟨i,rfl,q⟩:=h
 obtain⟨t,rfl⟩:=rx
 exact rule i t s _ _ ⟨.int (g i),H,I.tok _,⟨_,rfl⟩,q⟩
def un_neg:UnR X (unaryOp .USub) (rU λi=>.int (-i)):=unI λ_ _ _ _ _ q=>neg_int q
end
def scal:V→V→Bool
 |.non,.non=>true | .non,.int _=>true | .int _,.non=>true | .non,.bl _=>true | .bl _,.non=>true | .non,.str _=>true | .str _,.non=>true
 |.int _,.int _=>true | .bl _,.bl _=>true | .str _,.str _=>true | .byt _,.byt _=>true
 |.int _,.str _=>true | .str _,.int _=>true | .bl _,.str _=>true | .str _,.bl _=>true
 |_,_=>false
def rEq:R2:=λx y H Q=>scal x y=true∧Q (.bl (decide (x=y))) H
def rNe:R2:=λx y H Q=>scal x y=true∧Q (.bl (!decide (x=y))) H
def dec_int:decide (V.int i=V.int j)=(i==j):=by
 rw[Yf]
 simp
def dec_bl:decide (V.bl i=V.bl j)=(i==j):=by
 rw[Yf]
 simp
def dec_str:decide (V.str i=V.str j)=(i==j):=by
 rw[Yf]
 simp
def dec_byt:decide (V.byt i=V.byt j)=(i.toList==j.toList):=by
 rw[Yf]
 cases i
 cases j
 simp
section
variable{X:Cx}{a b c:Expr}{ta tb tc:TE}{pos:Pos}
def za4(I:Inv X a0 σ H s)(q:Q (.bl k) H)(e:k=k'):EP X a0 σ Q (.bool k') s:=by
 subst e
 exact⟨.bl k,H,I,rfl,q⟩
def op_eq:OpR X (compareOp .Eq) rEq:=by
 intro a0 s σ H x y v u Q I rx ry h
 obtain⟨hs,q⟩:=h
 cases x with
 |non =>
  cases rx
  cases y with
  |non=>cases ry;exact PySem.EqNone.eq_none_none (za4 I q (by simp))
  |bl j=>cases ry;exact PySem.EqNone.eq_none_bool (za4 I q (by simp))
  |int j=>obtain⟨t',rfl⟩:=ry;exact PySem.EqNone.eq_none_int (za4 I q (by simp))
  |str j=>obtain⟨t',rfl⟩:=ry;exact PySem.EqNone.eq_none_str (za4 I q (by simp))
  |_=>exact absurd (show false=true from hs) Zg
 |bl i =>
  cases rx
  cases y with
  |non=>cases ry;exact PySem.EqNone.eq_bool_none (za4 I q (by simp))
  |bl j=>cases ry;exact eq_bool (za4 I q dec_bl)
  |str j=>obtain⟨t',rfl⟩:=ry;exact PySem.EqMixed.eq_bool_str (za4 I q (by simp))
  |_=>exact absurd (show false=true from hs) Zg
 |int i =>
  obtain⟨t,rfl⟩:=rx
  cases y with
  |non=>cases ry;exact PySem.EqNone.eq_int_none (za4 I q (by simp))
  |int j=>obtain⟨t',rfl⟩:=ry;exact eq_int (za4 I q dec_int)
  |str j=>obtain⟨t',rfl⟩:=ry;exact PySem.EqMixed.eq_int_str (za4 I q (by simp))
  |_=>exact absurd (show false=true from hs) Zg
 |str i =>
  obtain⟨t,rfl⟩:=rx
  cases y with
  |non=>cases ry;exact PySem.EqNone.eq_str_none (za4 I q (by simp))
  |bl j=>cases ry;exact PySem.EqMixed.eq_str_bool (za4 I q (by simp))
  |int j=>obtain⟨t',rfl⟩:=ry;exact PySem.EqMixed.eq_str_int (za4 I q (by simp))
  |str j=>obtain⟨t',rfl⟩:=ry;exact eq_str (za4 I q dec_str)
  |_=>exact absurd (show false=true from hs) Zg
 |byt i =>
  obtain⟨t,rfl⟩:=rx
  cases y with
  |byt j=>obtain⟨t',rfl⟩:=ry;exact PySem.W.eq_bytes (za4 I q dec_byt)
  |_=>exact absurd (show false=true from hs) Zg
 |_=>cases y<;>exact absurd (show false=true from hs) Zg
def op_ne:OpR X (compareOp .NotEq) rNe:=by
 intro a0 s σ H x y v u Q I rx ry h
 obtain⟨hs,q⟩:=h
 cases x with
 |non =>
  cases rx
  cases y with
  |non=>cases ry;exact PySem.EqNone.ne_none_none (za4 I q (by simp))
  |bl j=>cases ry;exact PySem.EqNone.ne_none_bool (za4 I q (by simp))
  |int j=>obtain⟨t',rfl⟩:=ry;exact PySem.EqNone.ne_none_int (za4 I q (by simp))
  |str j=>obtain⟨t',rfl⟩:=ry;exact PySem.EqNone.ne_none_str (za4 I q (by simp))
  |_=>exact absurd (show false=true from hs) Zg
 |bl i =>
  cases rx
  cases y with
  |non=>cases ry;exact PySem.EqNone.ne_bool_none (za4 I q (by simp))
  |bl j=>cases ry;exact ne_bool (za4 I q (congrArg not dec_bl))
  |str j=>obtain⟨t',rfl⟩:=ry;exact PySem.EqMixed.ne_bool_str (za4 I q (by simp))
  |_=>exact absurd (show false=true from hs) Zg
 |int i =>
  obtain⟨t,rfl⟩:=rx
  cases y with
  |non=>cases ry;exact PySem.EqNone.ne_int_none (za4 I q (by simp))
  |int j=>obtain⟨t',rfl⟩:=ry;exact ne_int (za4 I q (congrArg not dec_int))
  |str j=>obtain⟨t',rfl⟩:=ry;exact PySem.EqMixed.ne_int_str (za4 I q (by simp))
  |_=>exact absurd (show false=true from hs) Zg
 |str i =>
  obtain⟨t,rfl⟩:=rx
  cases y with
  |non=>cases ry;exact PySem.EqNone.ne_str_none (za4 I q (by simp))
  |bl j=>cases ry;exact PySem.EqMixed.ne_str_bool (za4 I q (by simp))
  |int j=>obtain⟨t',rfl⟩:=ry;exact PySem.EqMixed.ne_str_int (za4 I q (by simp))
  |str j=>obtain⟨t',rfl⟩:=ry;exact ne_str (za4 I q (congrArg not dec_str))
  |_=>exact absurd (show false=true from hs) Zg
 |byt i =>
  obtain⟨t,rfl⟩:=rx
  cases y with
  |byt j=>obtain⟨t',rfl⟩:=ry;exact PySem.W.ne_bytes (za4 I q (congrArg not dec_byt))
  |_=>exact absurd (show false=true from hs) Zg
 |_=>cases y<;>exact absurd (show false=true from hs) Zg
def op_lt:OpR X (compareOp .Lt) (rI0 λi j=>.bl (decide (i<j))):=opB0 λ_ _ _ _ _ _ _ q=>lt_int q
def op_le:OpR X (compareOp .LtE) (rI0 λi j=>.bl (decide (i≤j))):=opB0 λ_ _ _ _ _ _ _ q=>le_int q
def op_gt:OpR X (compareOp .Gt) (rI0 λi j=>.bl (decide (j<i))):=opB0 λ_ _ _ _ _ _ _ q=>gt_int q
def op_lt_str:OpR X (compareOp .Lt) (λx y H Q=>Ex2 λi j=>Aj3 (x=.str i) (y=.str j) (Q (.bl (decide (i.cps.toList<j.cps.toList))) H)):=by
 intro a0 s σ H x y v u Q I rx ry h
 obtain⟨i,j,rfl,rfl,q⟩:=h
 obtain⟨t,rfl⟩:=rx
 obtain⟨t',rfl⟩:=ry
 exact lt_str (za4 I q rfl)
def op_notN:OpR X (compareOp .IsNot) (λx y H Q=>y=.non∧Q (.bl (!decide (x=.non))) H):=by
 intro a0 s σ H x y v u Q I rx ry h
 obtain⟨rfl,q⟩:=h
 cases ry
 refine isnot_none_gen (za4 I q ?_)
 cases x<;>first
  |(cases rx;rfl)
  |(obtain⟨t,rfl⟩:=rx;rfl)
def zbf(b:Expr)(h:op≠.In:=by decide)(h2:op≠.NotIn:=by decide):behindInMarks op b=false:=by
 have e1:(op==CmpOp.In)=false:=by cases op<;>first | rfl | exact absurd rfl h
 have e2:(op==CmpOp.NotIn)=false:=by cases op<;>first | rfl | exact absurd rfl h2
 cases b<;>simp[behindInMarks,e1,e2]
def pe_cmpR{op:CmpOp}{r:R2}(ho:OpR X (compareOp op) r)(ha:PE X a ta)(hb:PE X b tb)(hm:behindInMarks op b=false):PE X (.Compare a [op] [b] pos) (tOp r ta tb):=by
 intro a0 s σ H Q I h
 exact wpAny_Compare1 (binT ha hb I h λv u s2 x y H2 I2 rx ry q=>ho a0 s2 σ H2 x y v u Q I2 rx ry q) hm
def tTest(t:TE):TT:=λ σ H Q=>t σ H λx H'=>RB x H' Q
def zas(ho:OpR X (compareOp op) r)(ha:PE X a ta)(hb:PE X b tb)(hm:behindInMarks op b=false):PT X (.Compare a [op] [b] pos) (tTest (tOp r ta tb)):=by
 intro a0 s σ H Q I h
 refine wpAny_isTrue_Compare1 (thn (ha a0 s σ H _ I h) λv s1 ⟨x,H1,I1,r1,q1⟩=>thn (hb a0 s1 σ H1 _ I1 q1) λu s2 ⟨y,H2,I2,r2,q2⟩ =>
  thn (ho a0 s2 σ H2 x y v u _ I2 r1 r2 q2) λc s3 ⟨z,H3,I3,r3,k,e,q3⟩=>?_) hm
 subst e
 cases r3
 exact wpAny_truthy_bool ⟨H3,I3,q3⟩
def tChain(r r':R2)(ta tb tc:TE):TE:=λ σ H Q=>ta σ H λx H1=>tb σ H1 λy H2=>r x y H2 λz H3=>RB z H3 λk H3 =>
 (if k=true then tc σ H3 λw' H4=>r' y w' H4 Q else Q (.bl false) H3)
def pe_chain(ho:OpR X (compareOp op) r)(dG:OpR X (compareOp op') r')(ha:PE X a ta)(hb:PE X b tb)(hc:PE X c tc)(hm:lastMarks [op,op'] [b,c]=false:=by with_unfolding_all rfl):PE X (.Compare a [op,op'] [b,c] pos) (tChain r r' ta tb tc):=by
 intro a0 s σ H Q I h
 refine Compare_chain (thn (ha a0 s σ H _ I h) λv s1 ⟨x,H1,I1,r1,q1⟩=>chain_link (thn (hb a0 s1 σ H1 _ I1 q1) λu s2 ⟨y,H2,I2,r2,q2⟩ =>
  thn (ho a0 s2 σ H2 x y v u _ I2 r1 r2 q2) λd s3 ⟨z,H3,I3,r3,k,e,q3⟩=>?_)) hm
 subst e
 cases r3
 refine wpAny_truthy_bool ?_
 cases k with
 |false=>exact ite_ff ⟨.bl false,H3,I3,rfl,q3⟩
 |true=>exact ite_tt (chain_last (thn (hc a0 s3 σ H3 _ I3 q3) λw' s4 ⟨z',H4,I4,r4,q4⟩=>dG a0 s4 σ H4 y z' u w' Q I4 r2 r4 q4))
def TruV(K:Na)(x:V)(H:Hp)(k:Bool):Prop :=
 match x with
 |.non=>k=false
 |.bl b=>k=b
 |.int i=>k=(i != 0)
 |.str y=>y.length≤sizeLine∧k=((y.length:Int) != 0)
 |.byt y=>y.size≤sizeLine∧k=((y.size:Int) != 0)
 |.ref p=>(∃xs,SqL K H p xs∧k=!xs.isEmpty)∨(∃xs,SqT K H p xs∧k=!xs.isEmpty)∨∃kvs,H p=some (.dK kvs)∧k=!kvs.isEmpty
 |_=>False
def isEmpty_kv{κ:Type}{kvs:List (κ×V)}{vs:List (κ×Value)}(r:KV kvs vs):(!vs.isEmpty)=!kvs.isEmpty:=by
 cases r<;>rfl
def zha{xs:List V}{a7:Ni}(r:Vals xs a7):(!a7.toArray.isEmpty)=!xs.isEmpty:=by
 cases r<;>simp
def zec:(sizeLine:Nat)<2 ^ 63:=by rw[sizeLine_eq];decide
inductive RTr(K:Na)(x:V)(H:Hp)(Q:Bool→Hp→Prop):Prop
 |mk (k:Bool) (t:TruV K x H k) (q:Q k H):RTr K x H Q
def tru_ok:TruR X (λx H Q=>RTr X.K x H Q):=by
 intro a0 s σ H x v Q I rx h
 obtain⟨k,e,q⟩:=h
 have hl:=zec
 have hs:sizeLine=16777216:=sizeLine_eq
 cases x with
 |non =>
  cases rx
  have e':k=false:=e
  subst e'
  exact truthy_none ⟨H,I,q⟩
 |bl b =>
  cases rx
  have e':k=b:=e
  subst e'
  exact wpAny_truthy_bool ⟨H,I,q⟩
 |int i =>
  obtain⟨t,rfl⟩:=rx
  have e':k=(i != 0):=e
  subst e'
  exact PySem.P.truthy_int ⟨H,I,q⟩
 |str y =>
  obtain⟨t,rfl⟩:=rx
  obtain⟨hy,e'⟩:y.length≤sizeLine∧k=((y.length:Int) != 0):=e
  subst e'
  exact PySem.P.truthy_str (by lia) ⟨H,I.tok _,q⟩
 |byt y =>
  obtain⟨t,rfl⟩:=rx
  obtain⟨hy,e'⟩:y.size≤sizeLine∧k=((y.size:Int) != 0):=e
  subst e'
  exact PySem.W.truthy_bytes (by lia) ⟨H,I.tok _,q⟩
 | ref p =>
  cases rx
  have e':(∃xs,SqL X.K H p xs∧k=!xs.isEmpty)∨(∃xs,SqT X.K H p xs∧k=!xs.isEmpty)∨∃kvs,H p=some (.dK kvs)∧k=!kvs.isEmpty:=e
  rcases e' with⟨xs,hx,e'⟩ | ⟨xs,hx,e'⟩ | ⟨kvs,hx,e'⟩
  ·subst e'
   obtain⟨a7,r,pl,hz⟩:=I.list hx
   have a9:=r.length
   exact wpAny_truthy_list pl.isList (by simp only[Qw];lia) ⟨H,I.tok _,by rw[zha r];exact q⟩
  ·subst e'
   obtain⟨a7,r,pl,hz⟩:=I.tuple hx
   have a9:=r.length
   exact truthy_tuple pl (by simp only[Qw];lia) ⟨H,I.tok _,by rw[zha r];exact q⟩
  ·subst e'
   obtain⟨hz,hS,vs,r,m⟩:kvs.length≤sizeLine∧(p==sysModules)=false∧∃vs,KV kvs vs∧s.heap.DictOf (zap X.prog X.w) p vs:=I.hok p _ hx
   have a9:kvs.length=vs.length:=Yb r
   exact wpAny_truthy_dict hS m (by lia) ⟨H,I.tok _,by rw[isEmpty_kv r];exact q⟩
 |_=>exact(show False from e).elim
def zd8(ha:PE X a ta)(he:∀whole,isTrue a X.env whole=(do let v ←whole;standAt a.pos;holding [v] (truthy v))) :
  PT X a (λ σ H Q=>ta σ H λx H'=>RTr X.K x H' Q):=by
 intro a0 s σ H Q I h
 exact isTrue_plain (thn (ha a0 s σ H _ I h) λv s1 ⟨x,H1,I1,r1,q1⟩=>tru_ok a0 s1 σ H1 x v Q I1 r1 q1) (he _)
def op_add_str:OpR X (binaryOp .Add) (λx y H Q=>Ex2 λi j=>Aj4 (x=.str i) (y=.str j) (i.length+j.length≤sizeLine) (Q (.str (i++j)) H)):=by
 intro a0 s σ H x y v u Q I rx ry h
 obtain⟨i,j,rfl,rfl,hz,q⟩:=h
 obtain⟨t,rfl⟩:=rx
 obtain⟨t',rfl⟩:=ry
 exact add_str (λt' tk=>⟨.str (i++j),H,I.tok _,⟨_,rfl⟩,q⟩) hz
def vals1(r:Vals [x] us):∃u,us=[u]∧RelV x u:=by
 cases r with
 |cons r1 r2=>cases r2;exact⟨_,rfl,r1⟩
def vals2(r:Vals [x,y] us):∃u w',us=[u,w']∧RelV x u∧RelV y w':=by
 cases r with
 |cons r1 r2 =>
  cases r2 with
  |cons r3 r4=>cases r4;exact⟨_,_,rfl,r1,r3⟩
def call_abs:zb4 X (.builtin "abs") (λxs H Q=>Ex1 λi=>Aj2 (xs=[.int i]) (Q (.int (if i<0 then -i else i)) H)):=by
 intro a0 s σ H xs us Q I r h
 obtain⟨i,rfl,q⟩:=h
 obtain⟨u,rfl,t,rfl⟩:=vals1 r
 exact call_abs_int λu tk=>⟨.int (if i<0 then -i else i),H,I.tok _,⟨_,rfl⟩,q⟩
def call_max2(hc:X.calm=true):zb4 X (.builtin "max") (λxs H Q=>Ex2 λi j=>Aj2 (xs=[.int i,.int j]) (Q (.int (if j>i then j else i)) H)):=by
 intro a0 s σ H xs us Q I r h
 obtain⟨i,j,rfl,q⟩:=h
 obtain⟨u,w',rfl,⟨t,rfl⟩,⟨t',rfl⟩⟩:=vals2 r
 refine max_two_ints (I.ok.hd hc) λh' tk k=>⟨_,H,I.kept k,?_,q⟩
 by_cases hj:j>i
 ·rw[if_pos hj,if_pos hj];exact⟨_,rfl⟩
 ·rw[if_neg hj,if_neg hj];exact⟨_,rfl⟩
def call_min2(hc:X.calm=true):zb4 X (.builtin "min") (λxs H Q=>Ex2 λi j=>Aj2 (xs=[.int i,.int j]) (Q (.int (if j<i then j else i)) H)):=by
 intro a0 s σ H xs us Q I r h
 obtain⟨i,j,rfl,q⟩:=h
 obtain⟨u,w',rfl,⟨t,rfl⟩,⟨t',rfl⟩⟩:=vals2 r
 refine min_two_ints (I.ok.hd hc) λh' tk k=>⟨_,H,I.kept k,?_,q⟩
 by_cases hj:j<i
 ·rw[if_pos hj,if_pos hj];exact⟨_,rfl⟩
 ·rw[if_neg hj,if_neg hj];exact⟨_,rfl⟩
def call_divmod:zb4 X (.builtin "divmod") (λxs H Q=>Ex2 λi j=>Aj3 (xs=[.int i,.int j]) (CDiv i j) (∀p,H p=none→Q (.ref p) (upd H p (.tup [.int (i/j),.int (i%j)])))):=by
 intro a0 s σ H xs us Q I r h
 obtain⟨i,j,rfl,⟨h1,h2⟩,q⟩:=h
 obtain⟨u,w',rfl,⟨t,rfl⟩,⟨t',rfl⟩⟩:=vals2 r
 refine divmod_int (by lia) ?_ (.inl (PyProof.noPylong_small (by lia)))
 rw[Int.fdiv_eq_ediv_of_nonneg i (by lia),Int.fmod_eq_emod_of_nonneg i (by lia)]
 have hn:H s.heap.objs.size=none:=I.hok.fresh (Qf _)
 refine⟨.ref s.heap.objs.size,_,?_,rfl,q _ hn⟩
 refine I.laid (λb o e=>Qj _ e) (Qf _) ⟨by simp only[Qx,Wu];rw[sizeLine_eq];decide,[.int (i/j) s.toks,.int (i%j) (s.toks+1)],.cons ⟨_,rfl⟩ (.cons ⟨_,rfl⟩ .nil),?_⟩
 exact⟨_,Za s.heap rfl,rfl,0,rfl⟩
end
end L2
namespace L2
open PySem PySem.Spec PyProof.Rows
structure ObjM(h:Nm)(x dx C:Nc)(mA:Ng):Prop where
 obj:h.get? x=some (PySem.W.instObj C dx)
 ns:h.Ns1 dx mA
 ne:dx≠x
def lookIn_ns{h:Nm}{mA:Ng}(n:h.Ns1 dx mA):∃od,h.get? dx=some od∧∀name,PySem.W.lookIn name od=some (mA name):=by
 obtain⟨o,es,ep,ho,hd,hk,_,hm⟩:=n
 refine⟨o,ho,λname=>?_⟩
 have e:=hm name
 unfold nsFind findBy at e
 rw[←Array.find?_toList]at e
 unfold PySem.W.lookIn
 rw[hd]
 dsimp only
 split
 ·rename_i y q
  rw[q]at e
  exact congrArg some e
 ·rename_i q
  rw[q]at e
  have a:es.toList.any (·.refKey)=false:=by
   rw[List.any_eq_false]
   intro y hy
   obtain⟨z,t,gU⟩:=hk y (Array.mem_toList_iff.mp hy)
   simp[DictEntry.refKey,gU]
  have a':¬es.toList.any (·.refKey)=true:=by rw[a];exact Zg
  rw[if_neg a']
  exact congrArg some e
def ObjM.look(I:ObjM h x dx C mA):∃od,PySem.W.InstAt h x (PySem.W.instObj C dx) C (some od)∧∀name,PySem.W.lookIn name od=some (mA name) :=
 let⟨od,ho,hl⟩:=lookIn_ns I.ns
 ⟨od,⟨I.obj,rfl,rfl,ho⟩,hl⟩
section
variable{prog:Nj}{w:Nl}{A:Nn}{E:Nb}{s:Nh}{K:Na}{x dx C f:Nc}{mA:Ng}{name:Str}{v:Value}
def get_map(X:K.In s.heap)(I:ObjM s.heap x dx C mA)(hg:PySem.W.plainGet K C name=true)(hh:PySem.W.hasDictIn K C=true)(ha:PySem.W.findIn K (.ref C) name=some none)(hv:mA name=some v)(jH:PySem.W.handedIn v=true)(h:Q v {s with toks:=s.toks+1}) :
  wpAny (model prog w) A (getAttr (.ref x) name expr) Q E s:=by
 obtain⟨od,J,hl⟩:=I.look
 exact PySem.W.get_value X J (PySem.W.plainGet_of hg).1 (PySem.W.findObj_own hh ha rfl (by rw[hl,hv])) jH h
def get_meth(X:K.In s.heap)(I:ObjM s.heap x dx C mA)(hg:PySem.W.plainGet K C name=true)(hf:PySem.W.findIn K (.ref C) name=some (some (.ref f)))(ht:PySem.W.isFn K (.ref f)=true)(hv:mA name=none)(h:Q (.ref f,[.ref x]) s) :
  wpAny (model prog w) A (getMethod (.ref x) name pl) Q E s:=by
 obtain⟨od,J,hl⟩:=I.look
 exact PySem.W.method_fn X J (PySem.W.plainGet_of hg).1 (PySem.W.plainGet_of hg).2 hf (beq_iff_eq.mp ht) (by show(PySem.W.lookIn name od).map (·.isSome)=some false;rw[hl,hv];rfl) h
def set_map(X:K.In s.heap)(I:ObjM s.heap x dx C mA)(hs:PySem.W.findIn K (.ref C) "__setattr__" = some (some (.builtin "object.__setattr__")))(hp:PySem.W.plainOver K C=true)(ht:PySem.W.takerIn K C name=some none)(hh:PySem.W.hasDictIn K C=true)(hw:PySem.Within mA ns)(hsz:ns.length≤sizeLine)(h:∀h',ObjM h' x dx C (λy=>if y=name then some v else mA y)→Heap.SameBut dx s.heap h'→Q () {s with heap:=h',toks:=s.toks+2}) :
  wpAny (model prog w) A (setAttr (.ref x) name v) Q E s:=by
 obtain⟨od,J,hl⟩:=I.look
 refine PySem.W.set_plain X J hs (PySem.W.osa_open (s:={s with toks:=s.toks+1}) (r:=none) X J hp ht λb=>?_)
 obtain⟨cd,hc,iI⟩:=PySem.W.any_some hh
 have hx:s.heap.get? x=some ⟨.ref C,some dx,.plain,#[]⟩:=I.obj
 refine wpAny_bind (wpAny_pure (wpAny_bind (wpAny_bind (wpAny_loadPart hx (wpAny_bind (PySem.W.Looks.here (s:={s with toks:=s.toks+1}) (PySem.W.looks_clsIn X hc) ?_))))))
 rw[iI]
 refine wpAny_pure (a:=some dx) (wpAny_bind (wpAny_pure (wpAny_bind ?_)))
 refine wpAny_nsSet1 (s:={s with toks:=s.toks+1}) I.ns λh' bQ cn=>?_
 obtain⟨oD,esD,epD,hoD,hdD,hcD⟩:=bQ.count (PySem.Within.cons name v hw)
 refine wpAny_bind (wpAny_lookBehind hoD (by rw[hdD];exact pastItsLine_dict (Zd hcD (by rw[Qx];exact zar4 ‹_›))) ?_)
 exact wpAny_pure (h _ ⟨(cn.2 _ (Zc I.ne)).trans I.obj,bQ,I.ne⟩ cn)
def make_map(X:K.In s.heap)(hm:PySem.W.makesIn K C=true)(hi:PySem.W.findIn K (.ref C) "__init__" = some (some (.ref f)))(hf:PySem.W.typeIn K (.ref f)=some (.type "function"))(h:codeAny (model prog w) (A.under (.builtin "type.__call__" ⟨.ref C::vs,kw⟩)) (.call (.ref f) ⟨.ref (s.heap.objs.size+1)::vs,kw⟩) (PySem.W.InitBack (s.heap.objs.size+1) R)
   {s with heap:=(s.heap.push PySem.W.emptyDict).push (PySem.W.instObj C s.heap.objs.size)}) :
  codeAny (model prog w) A (.call (.ref C) ⟨vs,kw⟩) R s:=by
 obtain⟨hh,g,d,t,os⟩:=s
 exact PySem.W.make_core (PySem.W.makes_of X hm) (PySem.W.looks_findIn X hi) (λself=>PySem.W.bind_fn X self hf) (.inl rfl) h
end
def putF(f:Str)(v:V):List (Str×V)→List (Str×V)
 |[]=>[(f,v)]
 |(g,x)::r=>if g=f then(g,v)::r else(g,x)::putF f v r
theorem zgf(f g:Str)(v:V):∀fs:List (Str×V),(putF f v fs).lookup g=if g=f then some v else fs.lookup g
 | []=>by
  show List.lookup g [(f,v)]=_
  by_cases h:g=f
  ·have hb:(g == f)=true:=beq_iff_eq.mpr h
   simp only[List.lookup,hb,if_pos h]
  ·have hb:(g == f)=false:=beq_eq_false_iff_ne.mpr h
   simp only[List.lookup,hb,if_neg h]
 | (k,x)::r=>by
  have ih:=zgf f g v r
  rw[show putF f v ((k,x)::r)=(if k=f then(k,v)::r else(k,x)::putF f v r) from rfl]
  by_cases hk:k=f
  ·rw [if_pos hk]
   by_cases h:g=k
   ·have hb:(g == k)=true:=beq_iff_eq.mpr h
    simp only[List.lookup,hb,if_pos (h.trans hk)]
   ·have hb:(g == k)=false:=beq_eq_false_iff_ne.mpr h
    simp only[List.lookup,hb,if_neg (λe:g=f=>h (e.trans hk.symm))]
  ·rw [if_neg hk]
   by_cases h:g=k
   ·have hb:(g == k)=true:=beq_iff_eq.mpr h
    simp only[List.lookup,hb,if_neg (λe:g=f=>hk (h.symm.trans e))]
   ·have hb:(g == k)=false:=beq_eq_false_iff_ne.mpr h
    simp only[List.lookup,hb]
    exact ih
theorem zgi(f:Str)(v:V):∀fs:List (Str×V),f∈(putF f v fs).map (·.1)∧∀g,g∈fs.map (·.1)→g∈(putF f v fs).map (·.1)
 |[]=>⟨by simp[putF],λg h=>by simp at h⟩
 | (k,x)::r=>by
  obtain⟨i1,i2⟩:=zgi f v r
  rw[show putF f v ((k,x)::r)=(if k=f then(k,v)::r else(k,x)::putF f v r) from rfl]
  by_cases hk:k=f
  ·rw [if_pos hk]
   subst hk
   exact⟨by simp,λg h=>by simpa using h⟩
  ·rw [if_neg hk]
   refine⟨?_,λg h=>?_⟩
   ·rw [Qm]
    exact Qh _ i1
   ·rw [Qm] at h ⊢
    rcases Qd.mp h with e | e
    ·exact Qd.mpr (.inl e)
    ·exact Qh _ (i2 g e)
theorem zgh(f:Str)(v:V):∀fs:List (Str×V),(putF f v fs).length≤fs.length+1
 |[]=>by simp[putF]
 |(k,x)::r=>by
  have ih:=zgh f v r
  rw[show putF f v ((k,x)::r)=(if k=f then(k,v)::r else(k,x)::putF f v r) from rfl]
  by_cases hk:k=f
  ·rw[if_pos hk,Qx,Qx];exact Yr _ _
  ·rw[if_neg hk,Qx,Qx];exact zar4 ‹_›
def RelO.some_of(r:RelO (some v) o):∃u,o=some u∧RelV v u:=by
 cases o with
 |none=>exact(show False from r).elim
 |some u=>exact⟨u,rfl,r⟩
def RelO.none_of(r:RelO none o):o=none:=by
 cases o with
 |none=>rfl
 |some u=>exact(show False from r).elim
def handed_of(r:RelV v u):PySem.W.handedIn u=true:=by
 cases v with
 |non=>cases(show u=Value.none from r);rfl
 |bl b=>cases(show u=Value.bool b from r);rfl
 |int i=>obtain⟨t,e⟩:=(show ∃t,u=Value.int i t from r);cases e;rfl
 |str x=>obtain⟨t,e⟩:=(show ∃t,u=Value.str x t from r);cases e;rfl
 |byt b=>obtain⟨t,e⟩:=(show ∃t,u=Value.bytes b t from r);cases e;rfl
 |flt b=>obtain⟨t,e⟩:=(show ∃t,u=Value.float b t from r);cases e;rfl
 |ref a=>cases(show u=Value.ref a from r);rfl
 |ty n=>cases(show u=Value.type n from r);rfl
section
variable{P:Nj}{w:Nl}{H H':Hp}{h h':Nm}{a C dx:Nc}{fs fs':List (Str×V)}
def ins_get(hok:HOk P w H h)(e:H a=some (.ins C dx fs)):∃mA,ObjM h a dx C mA∧(∀f,RelO (fs.lookup f) (mA f))∧PySem.Within mA (fs.map (·.1))∧fs.length≤1000∧H dx=some (.own a):=by
 obtain⟨d,z,ne,ob,mA,n,r,q⟩:=(show zbp P w H h a (.ins C dx fs) from hok a _ e)
 exact⟨mA,⟨ob,n,ne⟩,r,q,z,d⟩
end
structure Cls(K:Na)(C:Nc):Prop where
 pg:PySem.W.plainGet K C Str.empty=true
 hd:PySem.W.hasDictIn K C=true
 po:PySem.W.plainOver K C=true
 sa:PySem.W.findIn K (.ref C) "__setattr__" = some (some (.builtin "object.__setattr__"))
def Cls.get{K:Na}{C:Nc}(c:Cls K C)(f:Str):PySem.W.plainGet K C f=true:=c.pg
def zdg(K:Na)(C:Nc)(f:Str):Prop:=PySem.W.findIn K (.ref C) f=some none
def zdg.taker{K:Na}{C:Nc}{f:Str}(n:zdg K C f):PySem.W.takerIn K C f=some none:=by
 unfold PySem.W.takerIn
 rw[show PySem.W.findIn K (.ref C) f=some none from n]
 rfl
structure Meth(K:Na)(C:Nc)(m:Str)(f:Nc):Prop where
 at_:PySem.W.findIn K (.ref C) m=some (some (.ref f))
 fn:PySem.W.isFn K (.ref f)=true
 kp:PySem.W.keepIn K (.ref f)=true
section
variable{X:Cx}{a0:Nf}{σ:St}{H:Hp}{s:Nh}{a C dx:Nc}{fs:List (Str×V)}{f:Str}{v:V}{A:Nn}{E:Nb}
def getattr_ok(I:Inv X a0 σ H s)(e:H a=some (.ins C dx fs))(c:Cls X.K C)(n:zdg X.K C f)(l:fs.lookup f=some v)(h:∀u s',Inv X a0 σ H s'→RelV v u→Q u s'):wpAny (model X.prog X.w) A (getAttr (.ref a) f b) Q E s:=by
 obtain⟨mA,O,r,_,_,_⟩:=ins_get I.hok e
 obtain⟨u,hu,ru⟩:=RelO.some_of (v:=v) (o:=mA f) (by rw[←l];exact r f)
 exact get_map I.kIn O (c.get f) c.hd n hu (handed_of ru) (h u _ (I.tok _) ru)
def zez(I:Inv X a0 σ H s)(e:H a=some (.ins C dx fs))(c:Cls X.K C)(k:Meth X.K C m g)(l:fs.lookup m=none)(h:Q (.ref g,[.ref a]) s):wpAny (model X.prog X.w) A (getMethod (.ref a) m pl) Q E s:=by
 obtain⟨mA,O,r,_,_,_⟩:=ins_get I.hok e
 have hn:mA m=none:=RelO.none_of (by rw[←l];exact r m)
 exact get_meth I.kIn O (c.get m) k.at_ k.fn hn h
def setattr_ok(I:Inv X a0 σ H s)(e:H a=some (.ins C dx fs))(c:Cls X.K C)(n:zdg X.K C f)(hl:fs.length<1000)(ry:RelV y u)(h:∀s',Inv X a0 σ (upd H a (.ins C dx (putF f y fs))) s'→Q () s'):wpAny (model X.prog X.w) A (setAttr (.ref a) f u) Q E s:=by
 obtain⟨mA,O,r,wi,_,ho⟩:=ins_get I.hok e
 have hz:(fs.map (·.1)).length≤sizeLine:=by rw[Qa,sizeLine_eq];lia
 refine set_map I.kIn O c.sa c.po n.taker c.hd wi hz λh' O' sb=>h _ ?_
 have hd:∃o,h'.get? dx=some o:=let⟨o,_,_,e',_⟩:=O'.ns;⟨o,e'⟩
 refine I.write (x:=a) (e:=dx) (by rw[e];exact True.intro) (.inr ho) (λb q hb z=>(sb.2 b hb).trans z) hd ?_
 refine⟨by rw[zad O.ne];exact ho,?_,O.ne,O'.obj,_,O'.ns,λg=>?_,λg hg=>?_⟩
 ·have:=zgh f y fs;exact Zd ‹_› ‹_›
 ·show RelO ((putF f y fs).lookup g) (if g=f then some u else mA g)
  rw[zgf]
  by_cases q:g=f
  ·rw[if_pos q,if_pos q];exact ry
  ·rw[if_neg q,if_neg q];exact r g
 ·by_cases q:g=f
  ·rw[q];exact(zgi f y fs).1
  ·refine (zgi f y fs).2 g (wi g fun z=>hg ?_)
   show(if g=f then some u else mA g)=none
   rw[if_neg q];exact z
def Inv.made(I:Inv X a0 σ H s):Inv X a0 σ (upd (upd H s.heap.objs.size (.own (s.heap.objs.size+1))) (s.heap.objs.size+1) (.ins C s.heap.objs.size []))
  {s with heap:=(s.heap.push PySem.W.emptyDict).push (PySem.W.instObj C s.heap.objs.size)}:=by
 have e1:(s.heap.push PySem.W.emptyDict).get? s.heap.objs.size=some PySem.W.emptyDict:=Za s.heap rfl
 have e2:((s.heap.push PySem.W.emptyDict).push (PySem.W.instObj C s.heap.objs.size)).get? (s.heap.objs.size+1)=some (PySem.W.instObj C s.heap.objs.size):=by
  have:=Za (s.heap.push PySem.W.emptyDict) (o:=PySem.W.instObj C s.heap.objs.size) rfl
  rwa[Wv]at this
 have e3:(s.heap.push PySem.W.emptyDict).Ns s.heap.objs.size (λ_=>none):=⟨PySem.W.emptyDict,#[],_,e1,rfl,(λe he=>absurd he (by simp)),λ_=>rfl⟩
 have I1:=I.laid (a:=s.heap.objs.size) (o:=.own (s.heap.objs.size+1)) (h':=s.heap.push PySem.W.emptyDict) (t':=s.toks) (λb u q=>Qj _ q) (Qf _) ⟨_,e1⟩
 refine I1.laid (a:=s.heap.objs.size+1) (o:=.ins C s.heap.objs.size []) (t':=s.toks) (λb u q=>Qj _ q) (Nat.le_of_eq (Wv _ _)) ?_
 have ne:s.heap.objs.size≠s.heap.objs.size+1:=Ze (Wi _)
 refine⟨by rw[zad ne,zab],Zi _,ne,e2,λ_=>none,(Heap.Ns1.of_empty e3).at λo q=>Qj _ q,λ_=>True.intro,λy hy=>absurd rfl hy⟩
def attr_of(hb:attributeBase e f env (eval e env)=eval e env)(h:wpAny (model prog w) A (eval e env) (λo s₁=>wpAny (model prog w) A (getAttr o f true) Q E s₁) E s):wpAny (model prog w) A (eval (.Attribute e f pos) env) Q E s :=
 Attribute_any_ h (by rw[arm_eval_Attribute,hb])
end
inductive RFld(K:Na)(f:Str)(x:V)(H:Hp)(Q:VK):Prop
 |mk (a C dx:Nc) (fs:List (Str×V)) (v:V) (e:x=.ref a) (h:H a=some (.ins C dx fs)) (c:Cls K C) (n:zdg K C f) (l:fs.lookup f=some v) (q:Q v H):RFld K f x H Q
def tFld(K:Na)(ta:TE)(f:Str):TE:=λ σ H Q=>ta σ H λx H1=>RFld K f x H1 Q
inductive RFs(K:Na)(f:Str)(x y:V)(H:Hp)(N:Hp→Prop):Prop
 |mk (a C dx:Nc) (fs:List (Str×V)) (e:x=.ref a) (h:H a=some (.ins C dx fs)) (c:Cls K C) (n:zdg K C f) (l:fs.length<1000) (q:N (upd H a (.ins C dx (putF f y fs)))):RFs K f x y H N
def sFld(K:Na)(ta tv:TE)(f:Str):TS:=λD σ H=>tv σ H λy H1=>ta σ H1 λx H2=>RFs K f x y H2 (D.nx σ)
section
variable{X:Cx}{o e value:Expr}{f:Str}{pos bY tpos:Pos}{ta tv:TE}
def zg5(he:PE X e ta)(hb:attributeBase e f X.env (eval e X.env)=eval e X.env):PE X (.Attribute e f pos) (tFld X.K ta f):=by
 intro a0 s σ H Q I h
 refine attr_of hb (thn (he a0 s σ H _ I h) λu s1 ⟨x,H1,I1,rx,a,C,dx,fs,v,ex,ea,c,n,l,q⟩=>?_)
 subst ex
 obtain rfl:u=Value.ref a:=rx
 exact getattr_ok I1 ea c n l λu' s2 I2 ru=>⟨v,H1,I2,ru,q⟩
def ps_fld(ha:PE X o ta)(hv:PE X value tv)(hs:swapsWith value (some (.Attribute o f bY)) pos.line X.env=pure false):PS X (.Assign [.Attribute o f bY] value pos) (sFld X.K ta tv f):=by
 intro a0 s σ H D I h
 refine plainObj_wpAny_Assign_Attribute (thn (hv a0 s σ H _ I h) λu s1 ⟨y,H1,I1,ry,q⟩=>thn (ha a0 s1 σ H1 _ I1 q) λov s2 ⟨x,H2,I2,rx,a,C,dx,fs,ex,ea,c,n,l,q2⟩=>?_) hs
 subst ex
 obtain rfl:ov=Value.ref a:=rx
 exact setattr_ok I2 ea c n l ry λs3 I3=>⟨σ,_,I3,q2⟩
def methcall_of(he:PE X e te)(I:Inv X a0 σ H s)(h:te σ H fun x H1=>∃ a C dx fs g,x=.ref a∧H1 a=some (.ins C dx fs)∧Cls X.K C∧Meth X.K C m g∧fs.lookup m=none ∧
   ∀s1,Inv X a0 σ H1 s1→wpAny (model X.prog X.w) X.A (callWith pos (.ref g) [.ref a] (backTo pos (starEach args X.env)) (backToKw pos (keywordEach [] X.env))) Q X.xe s1)(ht:eval (.Call (.Attribute e m apos) args [] pos) X.env=(do
   let ov ←eval e X.env
   standAt apos.atName
   let(f,first) ←holding [ov] (getMethod ov m pl)
   callWith pos f first (backTo pos (starEach args X.env)) (backToKw pos (keywordEach [] X.env)))) :
  wpAny (model X.prog X.w) X.A (eval (.Call (.Attribute e m apos) args [] pos) X.env) Q X.xe s:=by
 refine Xl (pl:=pl) (thn (he a0 s σ H _ I h) λu s1 ⟨x,H1,I1,rx,a,C,dx,fs,g,ex,ea,c,k,l,q⟩=>?_) ht
 subst ex
 obtain rfl:u=Value.ref a:=rx
 exact zez I1 ea c k l (q s1 I1)
end
section
variable{X:Cx}{a0:Nf}{σ:St}{H:Hp}{s:Nh}{A:Nn}{E:Nb}{Q:Nb}{c:Value}{b:Bool}
end
end L2
namespace L2
open PySem PySem.Spec PyProof.Rows
structure Room(k:Nat)(A:Nn):Prop where
 hd:A.handled=none
 dp:A.depth+3*k+5<recursionLimit
 un:A.units+16*k+200<cLine
def Room.mono(r:Room k A)(h:j≤k):Room j A:=⟨r.hd,by have:=r.dp;lia,by have:=r.un;lia⟩
def Room.deeper{k:Nat}{A:Nn}(r:Room (k+1) A)(env:Env):Room k (A.deeper env) :=
 ⟨r.hd,by have:=r.dp;show A.depth+1+3*k+5<_;lia,by have:=r.un;show A.units+3+16*k+200<_;lia⟩
def make_depth{A:Nn}:(A.under (.builtin "type.__call__" ⟨.ref C::us,kw⟩)).depth=A.depth+1:=by
 first | rfl | simp[Around.under,Code.weight,Code.isCreation,Code.isGuard,Code.isCaller,Code.frames,Code.isFrame,guardIds]
def make_units{A:Nn}:(A.under (.builtin "type.__call__" ⟨.ref C::us,kw⟩)).units=A.units+1:=by
 first | rfl | simp[Around.under,Code.cUnits,Code.frames,Code.isFrame]
def Room.make(r:Room (k+1) A)(C:Nc)(us:Ni)(kw:List (Str×Value)):Room k (A.under (.builtin "type.__call__" ⟨.ref C::us,kw⟩)) :=
 ⟨r.hd,by have:=r.dp;rw[make_depth];lia,by have:=r.un;rw[make_units];lia⟩
def Room.depth{k:Nat}{A:Nn}(r:Room k A):A.depth<recursionLimit:=by have:=r.dp;lia
def Room.units(r:Room k A):A.units+64<cLine:=by have:=r.un;lia
def tNil:TA:=λ_ H Q=>Q [] H
def tCons(ta:TE)(tr:TA):TA:=λ σ H Q=>ta σ H λx H1=>tr σ H1 λxs H2=>Q (x::xs) H2
section
variable{X:Cx}{e:Expr}{es:Nq}{te:TE}{t:TA}{pos:Pos}
def zaf:PA X [] tNil:=λ_ _ _ _ H Q I h=>Calls.spliced_nil ⟨[],H,I,.nil,h⟩
def zac(ha:PE X e te)(hr:PA X es t)(hs:starEach (e::es) X.env=(false,eval e X.env)::starEach es X.env:=by rfl):PA X (e::es) (tCons te t):=by
 intro pos a0 s σ H Q I h
 rw[hs]
 show wpAny _ _ (spliced ((false,eval e X.env)::backTo pos (starEach es X.env))) _ _ s
 refine Calls.spliced_cons (thn (ha a0 s σ H _ I h) λu s1 ⟨x,H1,I1,r1,q1⟩=>?_)
 exact thn (hr pos a0 s1 σ H1 _ I1 q1) λus s2 ⟨xs,H2,I2,r2,q2⟩=>⟨x::xs,H2,I2,.cons r1 r2,q2⟩
def tTup(t:TA):TE:=λ σ H Q=>t σ H λxs H1=>xs.length≤sizeLine∧∀p,H1 p=none→Q (.ref p) (upd H1 p (.tup xs))
def tLst(t:TA):TE:=λ σ H Q=>t σ H λxs H1=>xs.length≤sizeLine∧∀p,H1 p=none→Q (.ref p) (upd H1 p (.lst xs))
def zdr{x1}(h:PA X es t):PE X (.Tuple es x1 pos) (tTup t):=by
 intro a0 s σ H Q I hq
 refine wpAny_Tuple_spliced (thn (h pos a0 s σ H _ I hq) λus s1 ⟨xs,H1,I1,r,z,q⟩=>⟨by rw[←r.length];exact z,?_⟩)
 have hf:H1 s1.heap.objs.size=none:=I1.hok.fresh (Qf _)
 refine⟨.ref s1.heap.objs.size,upd H1 s1.heap.objs.size (.tup xs),I1.laid (t':=s1.toks) (λb u e=>Qj _ e) (Qf _) ?_,rfl,q _ hf⟩
 exact⟨z,us,r,⟨_,Za _ rfl,rfl,_,rfl⟩⟩
def zbh(h:PA X es t):PE X (.List es pos) (tLst t):=by
 intro a0 s σ H Q I hq
 refine wpAny_List_spliced (thn (h pos a0 s σ H _ I hq) λus s1 ⟨xs,H1,I1,r,z,q⟩=>⟨by rw[←r.length];exact z,?_⟩)
 have hf:H1 s1.heap.objs.size=none:=I1.hok.fresh (Qf _)
 refine⟨.ref s1.heap.objs.size,upd H1 s1.heap.objs.size (.lst xs),I1.laid (t':=s1.toks) (λb u e=>Qj _ e) (Qf _) ?_,rfl,q _ hf⟩
 exact⟨z,us,0,r,Za _ rfl⟩
end
abbrev Sp:=List V→Hp→VK→XK→Prop
abbrev CXT:=List Env→Hp→Shared→XK→Value→Shared→Prop
structure Env0(P:Nj)(w:Nl)(K:Na)(mg:Ng)(base:Nm)(A:Nn)(outer:List Env)(s:Nh)(H:Hp):Prop where
 frames:A.frames=some outer
 mod:Mod K mg base
 bs:∀b o,base.get? b=some o→s.heap.get? b=some o∧H b=none
 bsz:base.objs.size≤s.heap.objs.size
 funs:s.heap.FunFrames base outer
 frf:∀b∈frs outer,H b=none
 hok:HOk P w H s.heap
 bare:AllBare s.gens
inductive CE(outer:List Env)(P:Nj)(w:Nl)(H:Hp)(s:Nh)(Q:VK)(u:Value)(s':Nh):Prop
 |mk (v:_) (H':_) (h0:s'.os=s.os) (h1:AllBare s'.gens) (h2:Un (frs outer) [] H H' s.heap s'.heap) (h3:HOk P w H' s'.heap) (h4:RelV v u) (h5:Q v H'):CE outer P w H s Q u s'
def CR(CX:CXT)(outer:List Env)(P:Nj)(w:Nl)(H:Hp)(s:Nh)(Q:VK)(E:XK)(r:Result)(s':Nh):Prop :=
 match r with
 |.ok (.ret u)=>CE outer P w H s Q u s'
 |.ok _=>False
 |.error e=>CX outer H s E e s'
structure FnOk(P:Nj)(w:Nl)(K:Na)(mg:Ng)(base:Nm)(CX:CXT)(k:Nat)(f:Nc)(fd:Nv)(ps:Nd)(sp:Sp):Prop where
 len:∀vs H Q E,sp vs H Q E→vs.length=ps.length
 run:∀(A:Nn) (outer:List Env) (s:Nh) (H:Hp) (args:Args) (us:Ni) (vs:List V) (Q:VK) (E:XK),Room k A→Env0 P w K mg base A outer s H→BindsTo s fd args (ps.zip us)→Vals vs us→sp vs H Q E →
  codeAny (model P w) A (.call (.ref f) args) (CR CX outer P w H s Q E) s
def Env0.make{P:Nj}{w:Nl}{K:Na}{mg:Ng}{base:Nm}{A:Nn}{outer:List Env}{s:Nh}{H:Hp}(e:Env0 P w K mg base A outer s H)(C:Nc)(us:Ni)(kw:List (Str×Value)) :
  Env0 P w K mg base (A.under (.builtin "type.__call__" ⟨.ref C::us,kw⟩)) outer s H:=⟨by first | exact e.frames | (simpa[Around.under,Code.envs,Code.isFrame,pushEnvs] using e.frames),e.mod,e.bs,e.bsz,e.funs,e.frf,e.hok,e.bare⟩
section
variable{X:Cx}{a0:Nf}{σ:St}{H:Hp}{s s':Nh}
def Inv.env0(I:Inv X a0 σ H s):Env0 X.prog X.w X.K X.mg X.base X.A X.stack s H :=
 ⟨I.ok.frames,I.ok.mod,I.bs,Zd I.ok.bsz I.sz,I.stack,I.stkFree,I.hok,I.bare⟩
def Inv.after(I:Inv X a0 σ H s)(h:CE X.stack X.prog X.w H s Q u s'):EP X a0 σ Q u s':=by
 obtain⟨v,H',os,bare,un,hok,r,q⟩:=h
 obtain⟨hh,g,d,t,rS⟩:=s'
 obtain rfl:rS=s.os:=os
 exact⟨v,H',I.call (h':=hh) (g':=g) (d':=d) (t':=t) (ch:=[]) un hok bare (λb z=>absurd z (by simp)),r,q⟩
end
def tCall(sp:Sp)(dvs:List V)(E:XK)(t:TA):TE:=λ σ H Q=>t σ H λvs H1=>sp (vs++dvs) H1 Q E
inductive RMe(C:Nc)(m:Str)(x:V)(H:Hp)(R:Prop):Prop
 |mk (a dx:Nc) (fs:List (Str×V)) (e:x=.ref a) (h:H a=some (.ins C dx fs)) (l:fs.lookup m=none) (q:R):RMe C m x H R
def tMeth(C:Nc)(m:Str)(sp:Sp)(dvs:List V)(E:XK)(ta:TE)(t:TA):TE:=λ σ H Q=>ta σ H λx H1=>RMe C m x H1 <|
 t σ H1 λvs H2=>sp (x::(vs++dvs)) H2 Q E
def tMake(C:Nc)(sp:Sp)(dvs:List V)(E:XK)(t:TA):TE:=λ σ H Q=>t σ H λvs H1=>∀x dx,H1 x=none→H1 dx=none→dx≠x →
 sp (.ref x::(vs++dvs)) (upd (upd H1 dx (.own x)) x (.ins C dx [])) (λv H2=>v=.non∧Q (.ref x) H2) E
def Binds(K:Na)(fd:Nv)(ps:Nd)(ds:Ni):Prop :=
 ∀(s:Nh) (us:Ni),K.In s.heap→(us++ds).length=ps.length→BindsTo s fd ⟨us,[]⟩ (ps.zip (us++ds))
def Binds.all{K:Na}{fd:Nv}{ps:Nd}(h:∀us:List Value,us.length=ps.length→bindArgs fd ⟨us,[]⟩=pure (ps.zip us)):Binds K fd ps []:=λs us _ hl=>by
 rw[Zv]at hl ⊢
 exact .of_eq (h us hl)
def zgq(CX:CXT)(X:Cx)(E:XK):Prop:=∀(a0:Nf) (σ:St) (H:Hp) (s:Nh) (e:Value) (s':Nh),Inv X a0 σ H s→CX X.stack H s E e s'→X.xe e s'
section
variable{X:Cx}{CX:CXT}{k:Nat}{f C:Nc}{fd:Nv}{ps:Nd}{sp:Sp}{dvs:List V}{ds:Ni}{E:XK}{x m:Str}{p pos apos:Pos}{e o:Expr}{es:Nq}{ta:TE}{t:TA}
def run_fn(F:FnOk X.prog X.w X.K X.mg X.base CX k f fd ps sp)(hr:Room k X.A)(hb:Binds X.K fd ps ds)(hd:Vals dvs ds)(hx:zgq CX X E)(I:Inv X a0 σ H s)(r:Vals vs us)(h:sp (vs++dvs) H Q E):wpAny (model X.prog X.w) X.A (call (.ref f) us) (EP X a0 σ Q) X.xe s:=by
 have r2:Vals (vs++dvs) (us++ds):=r.append hd
 have hl:(us++ds).length=ps.length:=by rw[←r2.length];exact F.len _ _ _ _ h
 refine wpAny_call (codeAny_mono (F.run X.A X.stack s H ⟨us,[]⟩ (us++ds) (vs++dvs) Q E hr I.env0 (hb s us I.kIn hl) r2 h) λr s' hq=>?_)
 cases r with
 |error e=>exact hx a0 σ H s e s' I hq
 |ok fl =>
  cases fl with
  |ret u=>exact I.after hq
  |next=>exact False.elim hq
  |brk=>exact False.elim hq
  |cont=>exact False.elim hq
def zak(F:FnOk X.prog X.w X.K X.mg X.base CX k f fd ps sp)(hr:Room k X.A)(hg:Gl X x)(hm:X.mg x=some (.ref f))(hk:PySem.W.keepIn X.K (.ref f)=true)(hb:Binds X.K fd ps ds)(hd:Vals dvs ds)(hx:zgq CX X E)(ha:PA X (e::es) t)(jn:(x==("__debug__" : Str))=false:=by decide)(he:starEach (e::es) X.env=(false,eval e X.env)::starEach es X.env:=by rfl)(fV:(backTo pos (starEach es X.env)).any (·.1)=false:=by rfl) :
  PE X (.Call (.Name x p) (e::es) [] pos) (tCall sp dvs E t):=by
 intro a0 s σ H Q I h
 refine wpAny_Call_Name_kw (ld_glob I hg hm ?_ jn)
 refine PySem.W.callWith_K (h₀:=X.base) I.ok.mod.kin hk (thn (ha pos a0 s σ H _ I h) λus s1 ⟨vs,H1,I1,r,q⟩=>⟨I1.kIn,?_⟩) he fV
 exact run_fn F hr hb hd hx I1 r q
def pe_meth(he:PE X o ta)(c:Cls X.K C)(hm:Meth X.K C m f)(F:FnOk X.prog X.w X.K X.mg X.base CX k f fd ps sp)(hr:Room k X.A)(hb:Binds X.K fd ps ds)(hd:Vals dvs ds)(hx:zgq CX X E)(ha:PA X (e::es) t)(aQ:starEach (e::es) X.env=(false,eval e X.env)::starEach es X.env:=by rfl)(fV:(backTo pos (starEach es X.env)).any (·.1)=false:=by rfl)(ht:eval (.Call (.Attribute o m apos) (e::es) [] pos) X.env=(do
   let ov ←eval o X.env
   standAt apos.atName
   let(f,first) ←holding [ov] (getMethod ov m pl)
   callWith pos f first (backTo pos (starEach (e::es) X.env)) (backToKw pos (keywordEach [] X.env))):=by rfl) :
  PE X (.Call (.Attribute o m apos) (e::es) [] pos) (tMeth C m sp dvs E ta t):=by
 intro a0 s σ H Q I h
 refine Xl (pl:=pl) (thn (he a0 s σ H _ I h) λu s1 ⟨x,H1,I1,rx,a,dx,fs,ex,ea,l,q⟩=>?_) ht
 subst ex
 obtain rfl:u=Value.ref a:=rx
 refine zez I1 ea c hm l ?_
 refine PySem.W.callWith_K (first:=[.ref a]) (h₀:=X.base) I.ok.mod.kin hm.kp (thn (ha pos a0 s1 σ H1 _ I1 q) λus s2 ⟨vs,H2,I2,r,q2⟩=>⟨I2.kIn,?_⟩) aQ fV
 exact run_fn (us:=.ref a::us) (vs:=.ref a::vs) F hr hb hd hx I2 (.cons rfl r) q2
def pe_meth0(he:PE X o ta)(c:Cls X.K C)(hm:Meth X.K C m f)(F:FnOk X.prog X.w X.K X.mg X.base CX k f fd ps sp)(hr:Room k X.A)(hb:Binds X.K fd ps ds)(hd:Vals dvs ds)(hx:zgq CX X E)(ht:eval (.Call (.Attribute o m apos) [] [] pos) X.env=(do
   let ov ←eval o X.env
   standAt apos.atName
   let(f,first) ←holding [ov] (getMethod ov m pl)
   callWith pos f first (backTo pos (starEach [] X.env)) (backToKw pos (keywordEach [] X.env))):=by rfl) :
  PE X (.Call (.Attribute o m apos) [] [] pos) (tMeth C m sp dvs E ta tNil):=by
 intro a0 s σ H Q I h
 refine Xl (pl:=pl) (thn (he a0 s σ H _ I h) λu s1 ⟨x,H1,I1,rx,a,dx,fs,ex,ea,l,q⟩=>?_) ht
 subst ex
 obtain rfl:u=Value.ref a:=rx
 refine zez I1 ea c hm l ?_
 exact PySem.W.callWith_K0 (first:=[.ref a]) I1.kIn hm.kp (run_fn (us:=[.ref a]) (vs:=[.ref a]) F hr hb hd hx I1 (.cons rfl .nil) q)
structure Mk(K:Na)(C f:Nc):Prop where
 makes:PySem.W.makesIn K C=true
 init:PySem.W.findIn K (.ref C) "__init__" = some (some (.ref f))
 fn:PySem.W.isFn K (.ref f)=true
 kp:PySem.W.keepIn K (.ref C)=true
def run_make(M:Mk X.K C f)(F:FnOk X.prog X.w X.K X.mg X.base CX k f fd ps sp)(hr:Room (k+1) X.A)(hb:Binds X.K fd ps ds)(hd:Vals dvs ds)(hx:zgq CX X E)(I:Inv X a0 σ H s)(r:Vals vs us)(h:∀x dx,H x=none→H dx=none→dx≠x→sp (.ref x::(vs++dvs)) (upd (upd H dx (.own x)) x (.ins C dx [])) (λv H2=>v=.non∧Q (.ref x) H2) E) :
  wpAny (model X.prog X.w) X.A (call (.ref C) us) (EP X a0 σ Q) X.xe s:=by
 have hq:=h (s.heap.objs.size+1) s.heap.objs.size (I.hok.fresh (Jk _)) (I.hok.fresh (Qf _)) (Ze (Wi _))
 have I2:=Inv.made (C:=C) I
 have r2:Vals (V.ref (s.heap.objs.size+1)::(vs++dvs)) (Value.ref (s.heap.objs.size+1)::(us++ds)):=.cons rfl (r.append hd)
 have hl:(Value.ref (s.heap.objs.size+1)::us++ds).length=ps.length:=by
  have e:=r2.length
  rw[F.len _ _ _ _ hq]at e
  exact e.symm
 refine wpAny_call (make_map (f:=f) I.kIn M.makes M.init (beq_iff_eq.mp M.fn) (codeAny_mono (F.run _ X.stack _ _ ⟨Value.ref (s.heap.objs.size+1)::us,[]⟩ (Value.ref (s.heap.objs.size+1)::(us++ds)) _ _ E (hr.make C us [])
  (I2.env0.make C us []) (hb _ (Value.ref (s.heap.objs.size+1)::us) I2.kIn hl) r2 hq) λr s' fT=>?_))
 cases r with
 |error e=>exact hx a0 σ _ _ e s' I2 fT
 | ok fl =>
  cases fl with
  |ret u =>
   obtain⟨v,H',I3,rv,ev,q3⟩:=I2.after fT
   subst ev
   exact⟨rv,⟨V.ref (s.heap.objs.size+1),H',I3,rfl,q3⟩⟩
  |next=>exact False.elim fT
  |brk=>exact False.elim fT
  |cont=>exact False.elim fT
def pe_make(M:Mk X.K C f)(F:FnOk X.prog X.w X.K X.mg X.base CX k f fd ps sp)(hr:Room (k+1) X.A)(hg:Gl X x)(hm:X.mg x=some (.ref C))(hb:Binds X.K fd ps ds)(hd:Vals dvs ds)(hx:zgq CX X E)(ha:PA X (e::es) t)(jn:(x==("__debug__" : Str))=false:=by decide)(he:starEach (e::es) X.env=(false,eval e X.env)::starEach es X.env:=by rfl)(fV:(backTo pos (starEach es X.env)).any (·.1)=false:=by rfl) :
  PE X (.Call (.Name x p) (e::es) [] pos) (tMake C sp dvs E t):=by
 intro a0 s σ H Q I h
 refine wpAny_Call_Name_kw (ld_glob I hg hm ?_ jn)
 refine PySem.W.callWith_K (h₀:=X.base) I.ok.mod.kin M.kp (thn (ha pos a0 s σ H _ I h) λus s1 ⟨vs,H1,I1,r,q⟩=>⟨I1.kIn,?_⟩) he fV
 exact run_make M F hr hb hd hx I1 r q
end
section
variable{X:Cx}{CX:CXT}{k:Nat}{f C:Nc}{fd:Nv}{ps ks:Nd}{sp:Sp}{E:XK}{x m:Str}{p pos apos kpos:Pos}{e o:Expr}{es:Nq}{kws:List Keyword}{te ta:TE}{t tk:TA}{nm:Option Str}
variable{g:List Value→List Value→List Value}{gV:List V→List V→List V}
end
structure zaq(N P:Nd)(sc:Scope):Prop where
 kind:sc.kind=.function
 co:sc.isCoroutine=false
 gen:sc.isGenerator=false
 nd:N.Nodup
 pre:N.take P.length=P
 par:∀x∈P,sc.names.lookup x=some .local∨sc.names.lookup x=some .cell
 nofree:∀y∈sc.names,y.2≠.free
theorem bindL_out{kindOf:Str→Option NameKind}{x:Str}:∀{binds:List (Str×Value)} {m:Ng},(∀v,(x,v)∉binds)→bindL kindOf binds m x=m x
 |[],_,_=>rfl
 | (n,v)::r,m,h=>by
  unfold bindL
  rw[bindL_out λw hw=>h w (Qh _ hw)]
  split
  ·have:x≠n:=by rintro rfl;exact h v Qc
   simp[this]
  ·rfl
theorem bindC_out{kindOf:Str→Option NameKind}{x:Str}:∀{binds:List (Str×Value)} {m:Ng},(∀v,(x,v)∉binds)→bindC kindOf binds m x=m x
 |[],_,_=>rfl
 | (n,v)::r,m,h=>by
  unfold bindC
  rw[bindC_out λw hw=>h w (Qh _ hw)]
  split
  ·rfl
  ·have:x≠n:=by rintro rfl;exact h v Qc
   simp[this]
theorem bindL_get{kindOf:Str→Option NameKind}{x:Str}{v:Value}:∀{P:Nd} {vs:Ni} {i:Nat} {m:Ng},P.Nodup→P[i]?=some x→vs[i]?=some v→kindOf x=some .local →
  bindL kindOf (P.zip vs) m x=some v
 |[],_,_,_,_,h,_,_=>by simp at h
 |_::_,[],_,_,_,_,h,_=>by simp at h
 |p::P,w::vs,0,m,nd,h1,h2,hk=>by
  simp at h1 h2;subst h1;subst h2
  show bindL kindOf ((p,w)::P.zip vs) m p=_
  unfold bindL
  rw[bindL_out λv hv=>(Qv.mp nd).1 (List.of_mem_zip hv).1,if_pos hk]
  simp
 |p::P,w::vs,i+1,m,nd,h1,h2,hk=>by
  show bindL kindOf ((p,w)::P.zip vs) m x=_
  unfold bindL
  exact bindL_get (i:=i) (Qv.mp nd).2 (by simpa using h1) (by simpa using h2) hk
theorem bindC_get{kindOf:Str→Option NameKind}{x:Str}{v:Value}:∀{P:Nd} {vs:Ni} {i:Nat} {m:Ng},P.Nodup→P[i]?=some x→vs[i]?=some v→kindOf x≠some .local →
  bindC kindOf (P.zip vs) m x=some v
 |[],_,_,_,_,h,_,_=>by simp at h
 |_::_,[],_,_,_,_,h,_=>by simp at h
 |p::P,w::vs,0,m,nd,h1,h2,hk=>by
  simp at h1 h2;subst h1;subst h2
  show bindC kindOf ((p,w)::P.zip vs) m p=_
  unfold bindC
  rw[bindC_out λv hv=>(Qv.mp nd).1 (List.of_mem_zip hv).1,if_neg hk]
  simp
 |p::P,w::vs,i+1,m,nd,h1,h2,hk=>by
  show bindC kindOf ((p,w)::P.zip vs) m x=_
  unfold bindC
  exact bindC_get (i:=i) (Qv.mp nd).2 (by simpa using h1) (by simpa using h2) hk
def start(N:Nd)(vs:List V):St:=vs.map some++List.replicate (N.length-vs.length) none
def cxOf(CX:CXT)(P:Nj)(w:Nl)(K:Na)(mg:Ng)(base:Nm)(N:Nd)(qual:Str)(scope:Scope)(f:Nc)(cd:Value)(A:Nn)(outer:List Env)(s:Nh)(H:Hp)(E:XK):Cx where
 prog:=P
 w:=w
 K:=K
 mg:=mg
 base:=base
 A:=A.deeper (envOfC qual scope s.heap.objs.size f cd)
 N:=N
 s₀:=s
 H₀:=H
 env:=envOfC qual scope s.heap.objs.size f cd
 outer:=outer
 stack:=envOfC qual scope s.heap.objs.size f cd::outer
 ex:=[]
 calm:=true
 fn:=λ_=>true
 pn:=[]
 xe:=λe s'=>wpAny (model P w) (A.deeper (envOfC qual scope s.heap.objs.size f cd)) (leaving (envOfC qual scope s.heap.objs.size f cd) e) (λ_ nC=>CX outer H s E e nC) (λe' nC=>CX outer H s E e' nC) s'
def cell_has{sc:Scope}{n:Nat}{x:Str}(h:sc.names.lookup x=some .cell):∃c,(cellsFrom n sc.names []).lookup x=some c:=by
 have q:=PySem.W.cellsFrom_some sc.names n [] (.inl h)
 exact Option.isSome_iff_exists.mp q
def inv_start{CX:CXT}{P:Nj}{w:Nl}{K:Na}{mg:Ng}{base:Nm}{N ps:Nd}{qual:Str}{scope:Scope}{f:Nc}{cd:Value}{A:Nn}{outer:List Env}{s s1:Nh}{H:Hp}{E:XK}{us:Ni}{vs:List V}(S:zaq N ps scope)(hd:A.handled=none)(e0:Env0 P w K mg base A outer s H)(hl:vs.length=ps.length)(r:Vals vs us)(x:InCallC s s.heap.objs.size (bindL (envOfC qual scope s.heap.objs.size f cd).kindOf (ps.zip us) λ_=>none) (cellsFrom (s.heap.objs.size+1) scope.names []) (bindC (envOfC qual scope s.heap.objs.size f cd).kindOf (ps.zip us) λ_=>none) s1) :
  Inv (cxOf CX P w K mg base N qual scope f cd A outer s H E) [] (start N vs) H s1:=by
 have fV:ps.length≤N.length:=by have:=congrArg List.length S.pre;rw[Zn]at this;lia
 obtain⟨h1,tk,rfl,hk⟩:=x.done
 have noA:∀b:Addr,b∉(cxOf CX P w K mg base N qual scope f cd A outer s H E).ex:=λb z=>absurd (show b∈([]:List Addr) from z) (by simp)
 refine⟨⟨e0.mod,S.kind,rfl,rfl,Qf _,λy z c h1 h2=>?_,λy hy=>?_,λy c _ h=>?_,λ_=>hd,Around.frames_deeper e0.frames,.inr ⟨rfl,rfl⟩,λb z=>absurd z (noA b),e0.bs,e0.bsz,λb _ _=>noA b,λb z=>absurd z (noA b),e0.funs,e0.frf⟩,
  rfl,e0.bare,Un.kept hk,⟨_,x.toInCall.ns,λi y v h1 h2 h3=>?_⟩,λy c h=>⟨_,x.cell y c h⟩,e0.hok.fresh (Qf _),λy c h=>?_,λp hp=>absurd (show p∈([]:List (Addr×Obj)) from hp) (by simp),e0.hok.kept hk,?_⟩
 ·exact name_of_addr x.apart (Wn h1) (Wn h2)
 ·have hy:scope.names.lookup y=some .cell∨scope.names.lookup y=some .free:=hy
  rcases hy with hy | hy
  ·exact cell_has hy
  ·exact absurd rfl (S.nofree _ (Wn hy))
 ·exact Wx (x.above y c (Wn h))
 ·have hi:i < vs.length:=by
   unfold start at h2
   by_cases hi:i<vs.length
   ·exact hi
   ·rw [Ux (by simpa using hi)] at h2
    rw[List.getElem?_replicate]at h2
    split at h2<;>cases h2
  have ha:vs[i]?=some v:=by
   unfold start at h2
   rw[List.getElem?_append_left (by simpa using hi),Qz]at h2
   cases e:vs[i]? with
   |none=>rw[e]at h2;cases h2
   |some a=>rw[e]at h2;cases h2;rfl
  obtain⟨u,hu,rv⟩:=r.get ha
  have hp:ps[i]?=some y:=by
   rw[←S.pre,List.getElem?_take_of_lt (by exact zar7 ‹_› ‹_›)];exact h1
  have ndP:ps.Nodup:=by rw[←S.pre];exact S.nd.sublist (Jm _ _)
  refine⟨u,rv,?_⟩
  rcases S.par y (Yv hp) with k | k
  ·exact .inl ⟨k,bindL_get ndP hp hu k⟩
  ·obtain ⟨c,e⟩:=cell_has (n:=s.heap.objs.size+1) k
   refine .inr ⟨.inl k,c,e,?_⟩
   have q:=x.cell y c e
   rw[bindC_get ndP hp hu (by show scope.names.lookup y≠_;rw[k];decide)]at q
   exact q
 ·exact e0.hok.fresh (Wx (x.above y c (Wn h)))
 ·unfold start
  show _=N.length
  rw[Qo,Qa,Uq]
  lia
def fn_of{CX:CXT}{P:Nj}{w:Nl}{K:Na}{mg:Ng}{base:Nm}{k:Nat}{f:Nc}{name qual:Str}{params:Arguments}{body:List Stmt}{scope:Scope}{dV kV doc pm cdv ct oc:Value}{an od:Option Addr}{osl:Array (Option Value)}{N ps:Nd}{sp:Sp}(lk:K.lookup f=some ⟨oc,od,.func (PySem.W.fnOf name qual params body scope dV kV doc pm an cdv ct),osl⟩)(au:PySem.W.codeIn K cdv qual=true)(S:zaq N ps scope)(len:∀vs H Q E,sp vs H Q E→vs.length=ps.length)(ic:∀ (A:Nn) (outer:List Env) (s:Nh) (H:Hp) (vs:List V) (Q:VK) (E:XK),Room k (A.deeper (envOfC qual scope s.heap.objs.size f cdv))→sp vs H Q E →
   ∃t,PSs (cxOf CX P w K mg base N qual scope f cdv A outer s H E) body t∧t {nx:=λ_ H'=>Q .non H',rt:=Q} (start N vs) H) :
  FnOk P w K mg base CX (k+1) f (PySem.W.fnOf name qual params body scope dV kV doc pm an cdv ct) ps sp:=by
 refine⟨len,λA outer s H args us vs Q E hr e0 hb r ck=>?_⟩
 have hl:=len _ _ _ _ ck
 have KX:K.In s.heap:=e0.mod.kin.keeps λb o e=>(e0.bs b o e).1
 have lim:s.heap.NoLimit:=e0.mod.nolimit.keeps λb o e=>(e0.bs b o e).1
 have eF:∀y∈ps.zip us,scope.names.lookup y.1=some .local∨(scope.names.lookup y.1=some .cell∧((cellsFrom (s.heap.objs.size+1) scope.names []).lookup y.1).isSome=true):=λ⟨n,v⟩ hy=>by
  rcases S.par n (List.of_mem_zip hy).1 with q | q
  ·exact .inl q
  ·exact .inr ⟨q,PySem.W.cellsFrom_some _ _ _ (.inl q)⟩
 refine codeAny_call_function hr.depth (KX _ _ lk) rfl S.co S.gen rfl (PySem.W.codeRec_of KX au) (hb _ _ _ _ ?_)
 refine wpAny_newFunctionEnv_cells S.kind eF λenv he s1 x=>?_
 subst he
 refine⟨lim.keeps x.toInCall.keep,codeAny_func ?_⟩
 obtain⟨t,ht,hq⟩:=ic A outer s H vs Q E (hr.deeper _) ck
 have I:Inv (cxOf CX P w K mg base N qual scope f cdv A outer s H E) [] (start N vs) H s1:=inv_start S hr.hd e0 hl r x
 refine wpAny_mono (ht [] s1 (start N vs) H _ I hq) (λfl s' hs=>?_) λe s' hs=>hs
 have fin:∀{σ':St} {H':Hp} {v:V} {u:Value},Inv (cxOf CX P w K mg base N qual scope f cdv A outer s H E) [] σ' H' s'→RelV v u→Q v H'→CE outer P w H s Q u s' :=
  λ{σ' H' v u} J rv q=>⟨v,H',J.os,J.bare,J.base,J.hok,rv,q⟩
 cases fl with
 |ret u =>
  obtain⟨v,σ',H',J,rv,q⟩:=hs
  exact fin J rv q
 |next =>
  obtain⟨σ',H',J,q⟩:=hs
  exact fin (v:=V.non) (u:=Value.none) J rfl q
 |brk =>
  obtain⟨_,_,_,q⟩:=hs
  exact False.elim q
 |cont =>
  obtain⟨_,_,_,q⟩:=hs
  exact False.elim q
end L2
namespace L2
open PySem PySem.Spec PyProof.Rows
section
variable{X:Cx}{x:Str}{p pos:Pos}{e:Expr}{es:Nq}{t:TA}{id T:String}{r:List V→Hp→VK→Prop}
def tCB(r:List V→Hp→VK→Prop)(t:TA):TE:=λ σ H Q=>t σ H λvs H1=>r vs H1 Q
def zai(hc:zb4 X (.builtin id) r)(hg:Gl X x)(hm:X.mg x=none)(hv:bootBuiltins x=some (.builtin id))(ha:PA X (e::es) t)(hn:x ≠ "__name__" := by decide)(jn:(x==("__debug__" : Str))=false:=by decide)(he:starEach (e::es) X.env=(false,eval e X.env)::starEach es X.env:=by rfl)(fV:(backTo pos (starEach es X.env)).any (·.1)=false:=by rfl):PE X (.Call (.Name x p) (e::es) [] pos) (tCB r t):=by
 intro a0 s σ H Q I h
 refine wpAny_Call_Name_kw (zg8 I hg hm hv ?_ hn jn)
 exact PyProof.Rows.callWith_builtin1 (thn (ha pos a0 s σ H _ I h) λus s1 ⟨vs,H1,I1,r1,q1⟩=>hc a0 s1 σ H1 vs us Q I1 r1 q1) he fV
def zct(hc:zb4 X (.type T) r)(hg:Gl X x)(hm:X.mg x=none)(hv:bootBuiltins x=some (.type T))(ha:PA X (e::es) t)(hn:x ≠ "__name__" := by decide)(jn:(x==("__debug__" : Str))=false:=by decide)(he:starEach (e::es) X.env=(false,eval e X.env)::starEach es X.env:=by rfl)(fV:(backTo pos (starEach es X.env)).any (·.1)=false:=by rfl):PE X (.Call (.Name x p) (e::es) [] pos) (tCB r t):=by
 intro a0 s σ H Q I h
 refine wpAny_Call_Name_kw (zg8 I hg hm hv ?_ hn jn)
 exact Us (thn (ha pos a0 s σ H _ I h) λus s1 ⟨vs,H1,I1,r1,q1⟩=>hc a0 s1 σ H1 vs us Q I1 r1 q1) he fV
end
end L2
namespace L2
open PySem PySem.Spec PyProof.Rows
section
variable{κ:Type}[DecidableEq κ]
def valV(kvs:List (κ×V))(k:κ):Option V:=(kvs.find? λkv=>decide (kv.1=k)).map (·.2)
def putK(kvs:List (κ×V))(k:κ)(v:V):List (κ×V) :=
 if(kvs.any λkv=>decide (kv.1=k))=true then kvs.map (λkv=>if kv.1=k then(kv.1,v) else kv) else kvs++[(k,v)]
def zcl{p:κ×V}{r:List (κ×V)}{k:κ}(e:p.1=k):valV (p::r) k=some p.2:=by simp[valV,Jh,e]
def zbm{p:κ×V}{r:List (κ×V)}{k:κ}(e:¬p.1=k):valV (p::r) k=valV r k:=by simp[valV,Jh,e]
theorem zfh(k:κ):∀kvs:List (κ×V),(kvs.any λkv=>decide (kv.1=k))=(valV kvs k).isSome
 |[]=>rfl
 |p::r=>by
  rw[Ka]
  by_cases e:p.1=k
  ·simp only[zcl e,decide_eq_true e,Bool.true_or,Option.isSome_some]
  ·rw[zbm e,decide_eq_false e,Bool.false_or];exact zfh k r
def zdx(kvs:List (κ×V))(k:κ)(v:V):(putK kvs k v).length≤kvs.length+1:=by
 unfold putK
 split
 ·rw[Qa];exact Yr _ _
 ·rw[Qo,Qx,Wu];exact Qf _
def zd7{kvs:List (κ×V)}{k:κ}(v:V)(h:valV kvs k=none):putK kvs k v=kvs++[(k,v)]:=by
 unfold putK
 rw[zfh,h]
 exact if_neg (by decide)
def RelO.isSome_eq(r:RelO o u):o.isSome=u.isSome:=by
 cases o with
 |none=>cases u with
  |none=>rfl
  |some _=>exact(show False from r).elim
 |some _=>cases u with
  |none=>exact(show False from r).elim
  |some _=>rfl
def RelO.getD(r:RelO o u)(rd:RelV d d'):RelV (o.getD d) (u.getD d'):=by
 cases o with
 |none=>cases u with
  |none=>exact rd
  |some _=>exact(show False from r).elim
 |some _=>cases u with
  |none=>exact(show False from r).elim
  |some _=>exact r
def KV.val{kvs:List (κ×V)}{vs:List (κ×Value)}(r:KV kvs vs)(k:κ):RelO (valV kvs k) (valueAt vs k):=by
 unfold KV at r
 induction r with
 |nil=>exact True.intro
 | @cons p q ps qs h t ih =>
  obtain⟨h1,h2⟩:=h
  by_cases e:p.1=k
  ·have e':q.1=k:=h1.symm.trans e
   have b:valueAt (q::qs) k=some q.2:=by simp[valueAt,Jh,e']
   rw[zcl e,b];exact h2
  ·have e':¬ q.1=k:=fun z=>e (h1.trans z)
   have b:valueAt (q::qs) k=valueAt qs k:=by simp[valueAt,Jh,e']
   rw[zbm e,b];exact ih
def KV.any(r:KV kvs vs)(k:κ):(kvs.any λkv=>decide (kv.1=k))=vs.any λkv=>decide (kv.1=k):=by
 unfold KV at r
 induction r with
 |nil=>rfl
 |cons h t ih=>rw[Ka,Ka,ih,h.1]
def KV.repl(r:KV kvs vs)(k:κ)(ry:RelV y u) :
  KV (kvs.map λkv=>if kv.1=k then(kv.1,y) else kv) (vs.map λkv=>if kv.1=k then(kv.1,u) else kv):=by
 unfold KV at r ⊢
 induction r with
 |nil=>exact .nil
 |@cons p q ps qs h t ih =>
  rw[Qm,Qm]
  refine .cons ?_ ih
  obtain⟨h1,h2⟩:=h
  by_cases e:p.1=k
  ·rw[if_pos e,if_pos (h1.symm.trans e)];exact⟨h1,ry⟩
  ·rw[if_neg e,if_neg (λz=>e (h1.trans z))];exact⟨h1,h2⟩
def KV.put(r:KV kvs vs)(k:κ)(ry:RelV y u):KV (putK kvs k y) (stored vs k u):=by
 unfold putK stored
 rw[r.any k]
 by_cases e:(vs.any λkv=>decide (kv.1=k))=true
 ·rw[if_pos e,if_pos e];exact r.repl k ry
 ·rw[if_neg e,if_neg e];exact Paired.snoc r ⟨rfl,ry⟩
def KV.length{kvs:List (κ×V)}{vs:List (κ×Value)}(r:KV kvs vs):kvs.length=vs.length:=Yb r
end
def kV_is(r:RelV (kV k) u):(zap P w).is k u=true:=by
 cases k with
 |inl i=>obtain⟨t,e⟩:=(show ∃t,u=Value.int i t from r);subst e;exact mixKind_int P w i t
 |inr x=>obtain⟨t,e⟩:=(show ∃t,u=Value.str x t from r);subst e;exact zgd P w x t
theorem items_are:∀{ks:List Key} {us:Ni},Vals (ks.map kV) us→ItemsAre (zap P w) ks us
 |[],_,r=>by rw[Jq]at r;cases r;exact .nil
 |k::ks,_,r=>by
  rw[Qm]at r
  cases r with
  |cons h t=>exact .cons (kV_is h) (items_are t)
abbrev KT(H:Hp):List (List Key×V)→List (List Key×Addr×Value)→Prop:=Paired λp q=>p.1=q.1∧H q.2.1=some (.tup (p.1.map kV))∧RelV p.2 q.2.2
def KT.val{H:Hp}{kvs:List (List Key×V)}{xs:List (List Key×Addr×Value)}(r:KT H kvs xs)(k:List Key):RelO (valV kvs k) ((atKey xs k).map (·.2)):=by
 induction r with
 |nil=>exact True.intro
 | @cons p q ps qs h t ih =>
  obtain⟨h1,_,h2⟩:=h
  by_cases e:p.1=k
  ·have e':q.1=k:=h1.symm.trans e
   have b:atKey (q::qs) k=some q.2:=by simp[atKey,Jh,e']
   rw[zcl e,b];exact h2
  ·have e':¬ q.1=k:=fun z=>e (h1.trans z)
   have b:atKey (q::qs) k=atKey qs k:=by simp[atKey,Jh,e']
   rw[zbm e,b];exact ih
def KT.repl(r:KT H kvs xs)(k:List Key)(ry:RelV y u) :
  KT H (kvs.map λkv=>if kv.1=k then(kv.1,y) else kv) (xs.map (putAt k u)):=by
 induction r with
 |nil=>exact .nil
 |@cons p q ps qs h t ih =>
  rw[Qm,Qm]
  refine .cons ?_ ih
  obtain⟨h1,h2,h3⟩:=h
  unfold putAt
  by_cases e:p.1=k
  ·rw[if_pos e,if_pos (h1.symm.trans e)];exact⟨h1,h2,ry⟩
  ·rw[if_neg e,if_neg (λz=>e (h1.trans z))];exact⟨h1,h2,h3⟩
def KT.put(r:KT H kvs xs)(k:List Key)(hb:H b=some (.tup (k.map kV)))(ry:RelV y u) :
  KT H (putK kvs k y) (storedH xs k b u):=by
 have e:(kvs.any λkv=>decide (kv.1=k))=(atKey xs k).isSome:=by
  rw[zfh,(r.val k).isSome_eq,Option.isSome_map]
 unfold putK storedH
 rw[e]
 by_cases q:(atKey xs k).isSome=true
 ·rw[if_pos q,if_pos q];exact r.repl k ry
 ·rw[if_neg q,if_neg q];exact Paired.snoc r ⟨rfl,hb,ry⟩
def KT.keeps(r:KT H kvs xs)(ht:∀b ys,H b=some (.tup ys)→H' b=some (.tup ys)):KT H' kvs xs :=
 Paired.mapP r λ_ _ z=>⟨z.1,ht _ _ z.2.1,z.2.2⟩
section
variable{P:Nj}{w:Nl}{H:Hp}{h:Nm}{a:Nc}
def rd_of(ok:HOk P w H h)(e:Rd H a u):zbp P w H h a u:=e.ok ok
def dk_rd(ok:HOk P w H h)(e:Rd H a (.dK kvs)):kvs.length≤sizeLine∧(a==sysModules)=false∧∃vs,KV kvs vs∧h.DictOf (zap P w) a vs :=
 show zbp P w H h a (.dK kvs) from rd_of ok e
def dk_of(ok:HOk P w H h)(e:H a=some (.dK kvs)):kvs.length≤sizeLine∧(a==sysModules)=false∧∃vs,KV kvs vs∧h.DictOf (zap P w) a vs:=dk_rd ok (.inl e)
def zg9(ok:HOk P w H h)(e:H a=some (.tup (ks.map kV))):(tupleKind (zap P w)).is h ks a:=by
 obtain⟨_,a7,r,o,h1,h2,n,h3⟩:=(show zbp P w H h a (.tup (ks.map kV)) from ok a _ e)
 exact⟨o,a7.toArray,n,h1,h2,h3,by simpa using items_are r⟩
def dt_rd(ok:HOk P w H h)(e:Rd H a (.dT kvs)):kvs.length≤sizeLine∧(a == sysModules)=false ∧
  ∃xs,KT H kvs xs∧h.DictOfH (tupleKind (zap P w)) a xs:=by
 obtain⟨z,y,xs,r,o,es,ep,h1,h2,h3,h4,h5⟩:=(show zbp P w H h a (.dT kvs) from rd_of ok e)
 refine⟨z,y,xs,r,o,es,ep,h1,h2,h3,h4,λx hx=>?_,h5⟩
 have all:∀{l:List (List Key×V)} {m:List (List Key×Addr×Value)},KT H l m→∀x∈m,(tupleKind (zap P w)).is h x.1 x.2.1:=by
  intro l m q
  induction q with
  |nil=>intro x hx;exact nomatch hx
  | @cons p q ps qs hq t ih =>
   intro x hx
   rcases Qd.mp hx with e | hx
   ·subst e
    exact zg9 ok (by rw[←hq.1];exact hq.2.1)
   ·exact ih x hx
 exact all r x hx
def dt_of(ok:HOk P w H h)(e:H a=some (.dT kvs)):kvs.length≤sizeLine∧(a==sysModules)=false ∧
  ∃xs,KT H kvs xs∧h.DictOfH (tupleKind (zap P w)) a xs:=dt_rd ok (.inl e)
end
def DGet(H:Hp)(a:Nc)(y:V)(r:Option V):Prop :=
 (∃kvs k,Rd H a (.dK kvs)∧y=kV k∧r=valV kvs k)∨∃kvs k b,Rd H a (.dT kvs)∧y=.ref b∧H b=some (.tup (k.map kV))∧r=valV kvs k
def DPut(H:Hp)(a:Nc)(y v:V)(H':Hp):Prop :=
 (∃kvs k,H a=some (.dK kvs)∧y=kV k∧kvs.length<sizeLine∧H'=upd H a (.dK (putK kvs k v))) ∨
 ∃kvs k b,H a=some (.dT kvs)∧y=.ref b∧H b=some (.tup (k.map kV))∧kvs.length<sizeLine∧H'=upd H a (.dT (putK kvs k v))
def DGet.k{H:Hp}{a:Nc}{kvs:List (Key×V)}{k:Key}(e:H a=some (.dK kvs)):DGet H a (kV k) (valV kvs k):=.inl ⟨kvs,k,.inl e,rfl,rfl⟩
def DGet.t{H:Hp}{a b:Nc}{kvs:List (List Key×V)}{k:List Key}(e:H a=some (.dT kvs))(eb:H b=some (.tup (k.map kV))):DGet H a (.ref b) (valV kvs k):=.inr ⟨kvs,k,b,.inl e,rfl,eb,rfl⟩
def DPut.k{H:Hp}{a:Nc}{kvs:List (Key×V)}{k:Key}{v:V}(e:H a=some (.dK kvs))(hl:kvs.length<sizeLine):DPut H a (kV k) v (upd H a (.dK (putK kvs k v))):=.inl ⟨kvs,k,e,rfl,hl,rfl⟩
def DPut.t{H:Hp}{a b:Nc}{kvs:List (List Key×V)}{k:List Key}{v:V}(e:H a=some (.dT kvs))(eb:H b=some (.tup (k.map kV)))(hl:kvs.length<sizeLine) :
  DPut H a (.ref b) v (upd H a (.dT (putK kvs k v))):=.inr ⟨kvs,k,b,e,rfl,eb,hl,rfl⟩
section
variable{X:Cx}{a0:Nf}{σ:St}{H:Hp}{s:Nh}{a:Nc}{y v:V}{u r:Value}{o:Option V}{A:Nn}{E:Nb}
def Inv.big(I:Inv X a0 σ H s):sysModules<s.heap.objs.size:=by
 have h:mainGlobals<s.heap.objs.size:=(I.mod.glob.keeps I.bk).lt
 exact Ww (by decide) h
def d_getItem(hu:A.units+1<cLine)(I:Inv X a0 σ H s)(g:DGet H a y (some v))(ry:RelV y u)(h:∀w' s',Inv X a0 σ H s'→RelV v w'→Q w' s') :
  wpAny (model X.prog X.w) A (getItem (.ref a) u) Q E s:=by
 rcases g with⟨kvs,k,e,ey,l⟩ | ⟨kvs,k,b,e,ey,eb,l⟩
 ·subst ey
  obtain⟨z,hd,vs,rel,dd⟩:=dk_rd I.hok e
  obtain⟨w',hw,eM⟩:=RelO.some_of (v:=v) (o:=valueAt vs k) (by rw[l];exact rel.val k)
  exact wpAny_getItem_of (kV_is ry) dd.mapOf hw (h w' _ (I.tok _) eM)
 ·subst ey
  cases(show u=Value.ref b from ry)
  obtain⟨z,hd,xs,rel,dd⟩:=dt_rd I.hok e
  obtain⟨w',hw,eM⟩:=RelO.some_of (v:=v) (o:=(atKey xs k).map (·.2)) (by rw[l];exact rel.val k)
  obtain⟨p,hp,bo⟩:=Option.map_eq_some_iff.mp hw
  refine wpAny_getItem_heap (tupleKind_room_in1 hu) (zg9 I.hok eb) dd hp ?_
  rw[bo]
  exact h w' _ (I.tok _) eM
def d_in(hu:A.units+1<cLine)(I:Inv X a0 σ H s)(g:DGet H a y o)(ry:RelV y u)(h:∀s',Inv X a0 σ H s'→Q (.bool o.isSome) s') :
  wpAny (model X.prog X.w) A (compareOp .In u (.ref a)) Q E s:=by
 rcases g with⟨kvs,k,e,ey,l⟩ | ⟨kvs,k,b,e,ey,eb,l⟩
 ·subst ey
  obtain⟨z,hd,vs,rel,dd⟩:=dk_rd I.hok e
  refine wpAny_in_of (kV_is ry) hd dd.mapOf ?_
  rw[←(rel.val k).isSome_eq,←l]
  exact h _ (I.tok _)
 ·subst ey
  cases(show u=Value.ref b from ry)
  obtain⟨z,hd,xs,rel,dd⟩:=dt_rd I.hok e
  refine wpAny_in_heap (tupleKind_room_in1 hu) (zg9 I.hok eb) hd dd ?_
  have q:=(rel.val k).isSome_eq
  rw[Option.isSome_map]at q
  rw[←q,←l]
  exact h _ (I.tok _)
def d_notIn(hu:A.units+1<cLine)(I:Inv X a0 σ H s)(g:DGet H a y o)(ry:RelV y u)(h:∀s',Inv X a0 σ H s'→Q (.bool (!o.isSome)) s') :
  wpAny (model X.prog X.w) A (compareOp .NotIn u (.ref a)) Q E s:=by
 rcases g with⟨kvs,k,e,ey,l⟩ | ⟨kvs,k,b,e,ey,eb,l⟩
 ·subst ey
  obtain⟨z,hd,vs,rel,dd⟩:=dk_rd I.hok e
  refine wpAny_notIn_of (kV_is ry) hd dd.mapOf ?_
  rw[←(rel.val k).isSome_eq,←l]
  exact h _ (I.tok _)
 ·subst ey
  cases(show u=Value.ref b from ry)
  obtain⟨z,hd,xs,rel,dd⟩:=dt_rd I.hok e
  refine wpAny_notIn_heap (tupleKind_room_in1 hu) (zg9 I.hok eb) hd dd ?_
  have q:=(rel.val k).isSome_eq
  rw[Option.isSome_map]at q
  rw[←q,←l]
  exact h _ (I.tok _)
def zih(I:Inv X a0 σ H s)(mu:Mut (H a))(hs:Heap.SameBut a s.heap h')(he:∃q,h'.get? a=some q)(new:zbp X.prog X.w (upd H a ob) h' a ob) :
  Inv X a0 σ (upd H a ob) {s with heap:=h',toks:=t'} :=
 I.write (x:=a) (e:=a) mu (.inl rfl) (λb q hb z=>(hs.2 b hb).trans z) he new
def dk_new(z:kvs.length≤sizeLine)(hd:(a==sysModules)=false)(rel:KV kvs vs)(dd:h'.DictOf (zap P w) a vs) :
  zbp P w H' h' a (.dK kvs):=⟨z,hd,vs,rel,dd⟩
def d_setItem(hu:A.units+1<cLine)(I:Inv X a0 σ H s)(g:DPut H a y v H')(ry:RelV y u)(rv:RelV v r)(h:∀s',Inv X a0 σ H' s'→Q () s') :
  wpAny (model X.prog X.w) A (setItem (.ref a) u r) Q E s:=by
 rcases g with⟨kvs,k,e,ey,l,eH⟩ | ⟨kvs,k,b,e,ey,eb,l,eH⟩
 ·subst ey eH
  obtain⟨z,hd,vs,rel,dd⟩:=dk_of I.hok e
  have hz:vs.length≤sizeLine:=by rw[←rel.length];exact z
  have hl:(putK kvs k v).length≤sizeLine:=by have:=zdx kvs k v;exact Zd ‹_› ‹_›
  refine wpAny_setItem_pairs (hsz:=hz) (kV_is ry) dd λh' iS hs=>h _ ?_
  have he:∃q,h'.get? a=some q:=let⟨q,_,_,hq,_⟩:=iS;⟨q,hq⟩
  exact zih I (by rw[e];exact True.intro) hs he (dk_new hl hd (rel.put k rv) iS)
 ·subst ey eH
  cases(show u=Value.ref b from ry)
  obtain⟨z,hd,xs,rel,dd⟩:=dt_of I.hok e
  have hz:xs.length≤sizeLine:=by rw[←Yb rel];exact z
  have hl:(putK kvs k v).length≤sizeLine:=by have:=zdx kvs k v;exact Zd ‹_› ‹_›
  refine wpAny_setItem_heap (hsz:=hz) (tupleKind_room_in1 hu) (zg9 I.hok eb) dd λh' iS hs=>h _ ?_
  obtain⟨q,es,ep,hq,h2,h3,h4,_,h5⟩:=iS
  refine zih I (by rw[e];exact True.intro) hs ⟨q,hq⟩ ⟨hl,hd,_,(rel.put k eb rv).keeps λc ys ec=>?_,q,es,ep,hq,h2,h3,h4,h5⟩
  rw[zad (zay ec e (λz=>nomatch z))]
  exact ec
end
section
variable{X:Cx}{a0:Nf}{σ:St}{H:Hp}{s:Nh}{a:Nc}{kvs:List (Key×V)}{k:Key}{u:Value}{A:Nn}{E:Nb}
end
def NoSl(i:Expr):Prop:=∀ov iv,subscripted i false ov iv=operate [ov,iv] (getItem ov iv)
def subD_of{prog:Nj}{w:Nl}{A:Nn}{E:Nb}{s:Nh}{env:Env}{value slice:Expr}{pos:Pos}{T id:String}{Q:Nb}(hl:typeLookup (.type T) "__getitem__" = pure (some (.builtin id)))(hs:NoSl slice)(h:wpAny (model prog w) A (eval value env) (λo s₁=>wpAny (model prog w) A (eval slice env) (λi s₂=>s₂.TypeIs o T∧wpAny (model prog w) A (getItem o i) Q E s₂) E s₁) E s) :
  wpAny (model prog w) A (eval (.Subscript value slice pos) env) Q E s:=by
 refine Subscript_ (wpAny_mono h (λo s₁ h₁=>wpAny_mono h₁ (λi s₂ h₂=>?_) λ_ _ x=>x) λ_ _ x=>x)
 obtain⟨hT,h₂⟩:=h₂
 unfold subscriptTail
 refine wpAny_bind ?_
 rw[getitemInPython_of_ne hT.not_modules]
 refine wpAny_bind (wpAny_specialOf hT hl ?_)
 have fin:wpAny (model prog w) A (subscripted slice false o i) (λr s₃=>wpAny (model prog w) A (letTemporaryGo value o r >>= λ_=>pure r) Q E s₃) E s₂:=by
  rw[hs o i]
  exact wpAny_operating (wpAny_mono h₂ (λr s₃ h₃=>wpAny_bind (wpAny_letTemporaryGo (wpAny_pure h₃))) λ_ _ x=>x)
 first
  |exact wpAny_pure (wpAny_bind fin)
  |exact wpAny_bind (wpAny_pure (wpAny_bind fin))
  |exact wpAny_bind fin
def dict_typeIs(I:Inv X a0 σ H s)(g:DGet H a y o):s.TypeIs (.ref a) "dict" := by
 rcases g with⟨kvs,k,e,_,_⟩ | ⟨kvs,k,b,e,_,_,_⟩
 ·obtain ⟨_,_,vs,_,dd⟩:=dk_rd I.hok e
  exact dd.typeIs
 ·obtain ⟨_,_,xs,_,dd⟩:=dt_rd I.hok e
  exact dd.typeIs
inductive RDG(x y:V)(H:Hp)(Q:VK):Prop
 |mk (a:Nc) (v:V) (e:x=.ref a) (g:DGet H a y (some v)) (q:Q v H):RDG x y H Q
inductive RDI(x y:V)(H:Hp)(R:Option V→Prop):Prop
 |mk (a:Nc) (o:Option V) (e:x=.ref a) (g:DGet H a y o) (q:R o):RDI x y H R
inductive RDP(x y v:V)(H:Hp)(N:Hp→Prop):Prop
 |mk (a:Nc) (H4:Hp) (e:x=.ref a) (p:DPut H a y v H4) (q:N H4):RDP x y v H N
def tDGet(td ty:TE):TE:=λ σ H Q=>td σ H λx H1=>ty σ H1 λy H2=>RDG x y H2 Q
def tDIn(ty td:TE):TE:=λ σ H Q=>ty σ H λy H1=>td σ H1 λx H2=>RDI x y H2 λo=>Q (.bl o.isSome) H2
def tDNotIn(ty td:TE):TE:=λ σ H Q=>ty σ H λy H1=>td σ H1 λx H2=>RDI x y H2 λo=>Q (.bl (!o.isSome)) H2
def sDPut(td ty tv:TE):TS:=λD σ H=>tv σ H λv H1=>td σ H1 λx H2=>ty σ H2 λy H3=>RDP x y v H3 (D.nx σ)
section
variable{X:Cx}{o i e value:Expr}{pos bY tpos:Pos}{td ty tv:TE}
def zat(hu:X.A.units+1<cLine)(ho:PE X o td)(hi:PE X i ty)(hs:NoSl i):PE X (.Subscript o i pos) (tDGet td ty):=by
 intro a0 s σ H Q I h
 refine subD_of PySem.F.slot_dict_getitem.lookup hs (thn (ho a0 s σ H _ I h) λu s1 ⟨x,H1,I1,rx,q1⟩=>thn (hi a0 s1 σ H1 _ I1 q1) λiv s2 ⟨y,H2,I2,ry,a,v,ex,g,q2⟩=>?_)
 subst ex
 obtain rfl:u=Value.ref a:=rx
 exact⟨dict_typeIs I2 g,d_getItem hu I2 g ry λw' s3 I3 eM=>⟨v,H2,I3,eM,q2⟩⟩
def pc_din(hu:X.A.units+1<cLine)(hi:PE X i ty)(ho:PE X o td):PC X .In i o (tDIn ty td):=by
 intro a0 s σ H Q I h
 refine thn (hi a0 s σ H _ I h) λiv s1 ⟨y,H1,I1,ry,q1⟩=>thn (ho a0 s1 σ H1 _ I1 q1) λu s2 ⟨x,H2,I2,rx,a,ov,ex,g,q2⟩=>?_
 subst ex
 obtain rfl:u=Value.ref a:=rx
 exact d_in hu I2 g ry λs3 I3=>⟨.bl ov.isSome,H2,I3,rfl,q2⟩
def zbz(hu:X.A.units+1<cLine)(hi:PE X i ty)(ho:PE X o td):PC X .NotIn i o (tDNotIn ty td):=by
 intro a0 s σ H Q I h
 refine thn (hi a0 s σ H _ I h) λiv s1 ⟨y,H1,I1,ry,q1⟩=>thn (ho a0 s1 σ H1 _ I1 q1) λu s2 ⟨x,H2,I2,rx,a,ov,ex,g,q2⟩=>?_
 subst ex
 obtain rfl:u=Value.ref a:=rx
 exact d_notIn hu I2 g ry λs3 I3=>⟨.bl (!ov.isSome),H2,I3,rfl,q2⟩
def zce(hu:X.A.units+1<cLine)(ho:PE X o td)(hi:PE X i ty)(hv:PE X value tv)(hs:swapsWith value (some (.Subscript o i bY)) pos.line X.env=pure false) :
  PS X (.Assign [.Subscript o i bY] value pos) (sDPut td ty tv):=by
 intro a0 s σ H D I h
 refine wpAny_Assign_Subscript (thn (hv a0 s σ H _ I h) λr s1 ⟨v,H1,I1,rv,q1⟩=>thn (ho a0 s1 σ H1 _ I1 q1) λu s2 ⟨x,H2,I2,rx,q2⟩=>thn (hi a0 s2 σ H2 _ I2 q2) λiv s3 ⟨y,H3,I3,ry,a,H4,ex,g,q3⟩=>?_) hs
 subst ex
 obtain rfl:u=Value.ref a:=rx
 exact d_setItem hu I3 g ry rv λs4 I4=>⟨σ,H4,I4,q3⟩
end
def dk_empty(h:Nm)(hb:sysModules<h.objs.size):zbp P w H (h.push {cls:=.type "dict",data:=.dict #[]}) h.objs.size (.dK []) :=
 ⟨Zi _,beq_eq_false_iff_ne.mpr (Zc (Ze hb)),[],.nil,Heap.DictOf.new h⟩
def dt_empty(h:Nm)(hb:sysModules<h.objs.size):zbp P w H (h.push {cls:=.type "dict",data:=.dict #[]}) h.objs.size (.dT []) :=
 ⟨Zi _,beq_eq_false_iff_ne.mpr (Zc (Ze hb)),[],.nil,_,#[],0,Za _ rfl,⟨rfl,rfl,rfl⟩,rfl,rfl,Zk⟩
def tDNewK:TE:=λ_ H Q=>∀p,H p=none→Q (.ref p) (upd H p (.dK []))
def tDNewT:TE:=λ_ H Q=>∀p,H p=none→Q (.ref p) (upd H p (.dT []))
section
variable{X:Cx}{pos:Pos}
def zfl:PE X (.Dict [] [] pos) tDNewK:=λa0 s σ H Q I h =>
 wpAny_Dict_empty ⟨.ref s.heap.objs.size,_,I.laid (a:=s.heap.objs.size) (o:=.dK []) (t':=s.toks) (λ_ _ q=>Qj _ q) (Qf _) (dk_empty s.heap I.big),rfl,h _ (I.hok.fresh (Qf _))⟩
def pe_dnewT:PE X (.Dict [] [] pos) tDNewT:=λa0 s σ H Q I h =>
 wpAny_Dict_empty ⟨.ref s.heap.objs.size,_,I.laid (a:=s.heap.objs.size) (o:=.dT []) (t':=s.toks) (λ_ _ q=>Qj _ q) (Qf _) (dt_empty s.heap I.big),rfl,h _ (I.hok.fresh (Qf _))⟩
end
def tPairs:List (TE×TE)→St→Hp→(List (V×V)→Hp→Prop)→Prop
 |[],_,H,Q=>Q [] H
 |(tk,tv)::r,σ,H,Q=>tk σ H λx H1=>tv σ H1 λy H2=>tPairs r σ H2 λps H3=>Q ((x,y)::ps) H3
abbrev VV:List (V×V)→List (Value×Value)→Prop:=Paired λp q=>RelV p.1 q.1∧RelV p.2 q.2
def PPs(X:Cx)(pos:Pos)(keys:List (Option Expr))(values:Nq)(trs:List (TE×TE)):Prop :=
 ∀(a0:Nf) (s:Nh) (σ:St) (H:Hp) (Q:List (V×V)→Hp→Prop),Inv X a0 σ H s→tPairs trs σ H Q →
  wpAny (model X.prog X.w) X.A (evalPairs (pairTrees keys values X.env pos)) (λvs s'=>∃ps H',Inv X a0 σ H' s'∧VV ps vs∧Q ps H') X.xe s
def pps_nil:PPs X pos [] [] []:=λa0 s σ H Q I h=>pairTrees_nil_walk ⟨[],H,I,.nil,h⟩
def pps_cons(hk:PE X k tk)(hv:PE X v tv)(hr:PPs X pos ks vs trs) :
  PPs X pos (some k::ks) (v::vs) ((tk,tv)::trs):=λa0 s σ H Q I h =>
 pairTrees_cons_walk (thn (hk a0 s σ H _ I h) λu s1 ⟨x,H1,I1,rx,q1⟩=>thn (hv a0 s1 σ H1 _ I1 q1) λw2 s2 ⟨y,H2,I2,ry,q2⟩ =>
  thn (hr a0 s2 σ H2 _ I2 q2) λws s3 ⟨ps,H3,I3,rel,q3⟩=>⟨(x,y)::ps,H3,I3,.cons ⟨rx,ry⟩ rel,q3⟩)
def zge(kvs more:List (Key×V)):List (Key×V):=more.foldl (λad kv=>putK ad kv.1 kv.2) kvs
def KV.merge:∀{more:List (Key×V)} {rs:List (Key×Value)} {kvs:List (Key×V)} {vs:List (Key×Value)},KV more rs→KV kvs vs→KV (zge kvs more) (merged vs rs):=by
 intro more rs kvs vs r
 unfold KV at r
 induction r generalizing kvs vs with
 |nil=>intro q;exact q
 | @cons p q ps qs h t ih =>
  intro r0
  have e:KV (putK kvs p.1 p.2) (stored vs q.1 q.2):=by
   have:=r0.put p.1 h.2
   rw[←h.1];exact this
  exact ih e
theorem zed:∀(more kvs:List (Key×V)),(zge kvs more).length≤kvs.length+more.length
 |[],kvs=>by show kvs.length≤kvs.length+0;exact Qf _
 |p::r,kvs=>by
  have h1:=zed r (putK kvs p.1 p.2)
  have h2:=zdx kvs p.1 p.2
  show(zge (putK kvs p.1 p.2) r).length≤_
  rw[Qx];lia
theorem zhg:∀{kvs:List (Key×V)} {ws:List (Value×Value)},VV (kvs.map λkv=>(kV kv.1,kv.2)) ws→∃rs,Carries (zap P w) ws rs∧KV kvs rs
 |[],_,r=>by rw[Jq]at r;cases r;exact⟨[],True.intro,.nil⟩
 | p::kvs,_,r=>by
  rw[Qm]at r
  cases r with
  |@cons a b as bs h t =>
   obtain⟨rs,c,q⟩:=zhg (P:=P) (w:=w) t
   obtain⟨b1,b2⟩:=b
   exact⟨(p.1,b2)::rs,⟨kV_is h.1,rfl,c⟩,.cons ⟨rfl,h.2⟩ q⟩
def tDisp(trs:List (TE×TE)):TE:=λ σ H Q=>∀p,H p=none→tPairs trs σ (upd H p (.dK [])) λps H2=>H2 p=some (.dK [])∧∃kvs:List (Key×V),ps=kvs.map (λkv=>(kV kv.1,kv.2))∧kvs.length≤15∧Q (.ref p) (upd H2 p (.dK (zge [] kvs)))
def pe_disp(h:PPs X pos keys values trs)(aw:keys.all (·.isSome)=true)(hl:keys.length=values.length)(h0:keys≠[])(h15:keys.length≤15):PE X (.Dict keys values pos) (tDisp trs):=by
 intro a0 s σ H Q I q
 have hn:=I.hok.fresh (Qf s.heap.objs.size)
 have I1:=I.laid (a:=s.heap.objs.size) (o:=.dK []) (h':=s.heap.push {cls:=.type "dict",data:=.dict #[]}) (t':=s.toks) (λ_ _ q=>Qj _ q) (Qf _) (dk_empty s.heap I.big)
 refine wpAny_Dict_walk (knd:=zap X.prog X.w) aw hl h0 h15 (thn (h a0 _ σ _ _ I1 (q _ hn)) λws s2 ⟨ps,H2,I2,rel,e,kvs,ep,lk,q2⟩=>?_)
 subst ep
 obtain⟨rs,c,rk⟩:=zhg (P:=X.prog) (w:=X.w) rel
 obtain⟨z,hd,vs0,r0,dd⟩:=dk_of I2.hok e
 cases r0
 refine⟨rs,c,dd,λh' iS hs=>⟨.ref s.heap.objs.size,_,?_,rfl,q2⟩⟩
 have hz:(zge [] kvs).length≤sizeLine:=by
  have h1:=zed kvs []
  rw[Wu]at h1
  rw[sizeLine_eq];lia
 have he:∃q,h'.get? s.heap.objs.size=some q:=let⟨q,_,_,hq,_⟩:=iS;⟨q,hq⟩
 exact zih I2 (by rw[e];exact True.intro) hs he (dk_new hz hd (rk.merge .nil) iS)
structure M2(X:Cx)(o:Expr)(m:Str)(apos:Pos)(e f:Expr)(cpos:Pos):Prop where
 base:attributeBase o m X.env (eval o X.env)=eval o X.env
 few:((backTo cpos (starEach [e,f] X.env)).all (λx=>!x.1)&&(backToKw cpos (keywordEach [] X.env)).all (λx=>x.1.isSome)
  && decide (([e,f]:List Expr).length+([]:List Keyword).length+(if([]:List Keyword).isEmpty then 0 else 1)<30))=true
 line:(apos.endLine==cpos.line)=true
 trees:backTo cpos (starEach [e,f] X.env)=[(false,eval e X.env),(false,eval f X.env)]
def IsD(H:Hp)(a:Nc):Prop:=(∃kvs,Rd H a (.dK kvs))∨∃kvs,Rd H a (.dT kvs)
def isD_at(I:Inv X a0 σ H s)(d:IsD H a) :
  s.TypeIs (.ref a) "dict" ∧ (∀b,Value.ref a=.ref b→∃ob,s.heap.get? b=some ob∧ob.dict=none)∧(a==sysModules)=false:=by
 rcases d with⟨kvs,e⟩ | ⟨kvs,e⟩
 ·obtain ⟨_,hd,vs,_,dd⟩:=dk_rd I.hok e
  refine⟨dd.typeIs,λb q=>?_,hd⟩
  cases q
  obtain⟨ob,_,_,h1,h2,_⟩:=dd
  exact⟨ob,h1,h2.2.1⟩
 ·obtain ⟨_,hd,xs,_,dd⟩:=dt_rd I.hok e
  refine⟨dd.typeIs,λb q=>?_,hd⟩
  cases q
  obtain⟨ob,_,_,h1,h2,_⟩:=dd
  exact⟨ob,h1,h2.2.1⟩
section
variable{X:Cx}{a0:Nf}{σ:St}{H:Hp}{s:Nh}{a:Nc}{y d:V}{u r:Value}{o:Option V}{A:Nn}{E:Nb}
def d_get2(hu:A.units+1<cLine)(I:Inv X a0 σ H s)(g:DGet H a y o)(ry:RelV y u)(rd:RelV d r)(h:∀w' s',Inv X a0 σ H s'→RelV (o.getD d) w'→Q w' s') :
  wpAny (model X.prog X.w) A (call (.builtin "dict.get") [.ref a,u,r]) Q E s:=by
 rcases g with⟨kvs,k,e,ey,l⟩ | ⟨kvs,k,b,e,ey,eb,l⟩
 ·subst ey
  obtain⟨z,hd,vs,rel,dd⟩:=dk_rd I.hok e
  refine call_meetsIn Xm dd.typeIs PySem.F.entry_dict_get (PySem.F.args_dict_get_3 _ _ _) (meets_dict_get_default (zap X.prog X.w) a (kV_is ry) hd r) ⟨_,dd.mapOf,h _ _ (I.tok _) ?_⟩
  rw[l]
  exact(rel.val k).getD rd
 ·subst ey
  cases(show u=Value.ref b from ry)
  obtain⟨z,hd,xs,rel,dd⟩:=dt_rd I.hok e
  refine call_meetsIn Xm dd.typeIs PySem.F.entry_dict_get (PySem.F.args_dict_get_3 _ _ _) (meetsH_dict_get_default (tupleKind (zap X.prog X.w)) a b hd r) ⟨tupleKind_room_in1 hu,k,xs,zg9 I.hok eb,dd,h _ _ (I.tok _) ?_⟩
  rw[l]
  exact(rel.val k).getD rd
end
def tDGet2(td ty tx:TE):TE:=λ σ H Q=>td σ H λx H1=>∃a,x=.ref a∧IsD H1 a∧ty σ H1 λy H2=>tx σ H2 λz H3=>∃o,DGet H3 a y o∧Q (o.getD z) H3
section
variable{X:Cx}{o e f:Expr}{apos cpos:Pos}{td ty tx:TE}
def pe_dget2(hu:X.A.units+1<cLine)(ho:PE X o td)(he:PE X e ty)(hf:PE X f tx)(m:M2 X o "get" apos e f cpos):PE X (.Call (.Attribute o "get" apos) [e,f] [] cpos) (tDGet2 td ty tx):=by
 intro a0 s σ H Q I h
 refine wpAny_Call_method m.base m.few m.line Xb Xm PySem.F.type_dict_get (thn (ho a0 s σ H _ I h) λu s1 ⟨x,H1,I1,rx,a,ex,d,q1⟩=>?_)
 subst ex
 obtain rfl:u=Value.ref a:=rx
 obtain⟨t1,t2,_⟩:=isD_at I1 d
 refine⟨t1,t2,?_⟩
 rw[m.trees]
 refine Calls.callWith_builtin rfl (Calls.evalArgs_plain (Calls.spliced_cons (thn (he a0 s1 σ H1 _ I1 q1) λiv s2 ⟨y,H2,I2,ry,q2⟩ =>
  Calls.spliced_cons (thn (hf a0 s2 σ H2 _ I2 q2) λfv s3 ⟨z,H3,I3,rz,ov,g,q3⟩=>Calls.spliced_nil ?_))))
 exact d_get2 hu I3 g ry rz λw' s4 I4 eM=>⟨_,H3,I4,eM,q3⟩
end
section
variable{X:Cx}{a0:Nf}{σ:St}{H:Hp}{s:Nh}{a:Nc}{kvs:List (Key×V)}{A:Nn}{E:Nb}
end
section
variable{X:Cx}{a0:Nf}{σ:St}{H:Hp}{s:Nh}{a:Nc}{y:V}{u:Value}{A:Nn}{E:Nb}
end
end L2
namespace HT
open PySem PyProof.Rows
section
open PySem.SeqAt
open PySem.AutoSeq1 (wpAny_loadPart')
open PySem.MeetsSeq PySem.MeetsSeq2 PySem.MeetsSeq3
end
section
variable{prog:Nj}{w:Nl}{A:Nn}{E:Nb}{s:Nh}
def sIx(n d:Nat):Option Int→Nat
 |none=>d
 |some v=>if v<0 then(v+(n:Int)).toNat else min v.toNat n
def sIx_nat(n d k:Nat):sIx n d (some (k:Int))=min k n:=by
 show(if(k:Int)<0 then((k:Int)+(n:Int)).toNat else min (k:Int).toNat n)=min k n
 rw[if_neg (by lia),Wl]
end
end HT
namespace L2
open PySem PySem.Spec PyProof.Rows
abbrev TO:=St→Hp→(Option Int→Hp→Prop)→Prop
def PO(X:Cx)(e:Option Expr)(t:TO):Prop :=
 ∀(a0:Nf) (s:Nh) (σ:St) (H:Hp) (Q:Option Int→Hp→Prop),Inv X a0 σ H s→t σ H Q →
  wpAny (model X.prog X.w) X.A (evalPart e X.env) (λu s'=>∃o H',Inv X a0 σ H' s'∧IsPart u o∧Q o H') X.xe s
def tNoPart:TO:=λ_ H Q=>Q none H
inductive RPt(x:V)(R:Int→Prop):Prop
 |mk (i:Int) (e:x=.int i) (q:R i):RPt x R
def tPart(t:TE):TO:=λ σ H Q=>t σ H λx H1=>RPt x λi=>Q (some i) H1
section
variable{X:Cx}{e:Expr}{te:TE}{lo hi:Option Expr}{tl th:TO}{pos p2:Pos}
def zby:PO X none tNoPart:=by
 intro a0 s σ H Q I h
 rw[evalPart_none]
 exact wpAny_pure ⟨none,H,I,.none,h⟩
def zb8(h:PE X e te):PO X (some e) (tPart te):=by
 intro a0 s σ H Q I hw
 rw[evalPart_some]
 refine thn (h a0 s σ H _ I hw) λu s1 ⟨x,H1,I1,r1,q1⟩=>?_
 obtain⟨i,rfl,q⟩:=q1
 obtain⟨t,rfl⟩:=r1
 exact⟨some i,H1,I1,.int i t,q⟩
def SlR(X:Cx)(r:V→Option Int→Option Int→Hp→VK→Prop):Prop :=
 ∀(a0:Nf) (s:Nh) (σ:St) (H:Hp) (x:V) (v vl vu:Value) (lo hi:Option Int) (sl:Nc) (Q:VK),Inv X a0 σ H s→RelV x v→s.heap.IsSliceOf sl vl vu .none→IsPart vl lo→IsPart vu hi→r x lo hi H Q →
  ∃T id,typeLookup (.type T) "__getitem__" = pure (some (.builtin id))∧s.TypeIs v T∧wpAny (model X.prog X.w) X.A (getItem v (.ref sl)) (EP X a0 σ Q) X.xe s
def tSl(r:V→Option Int→Option Int→Hp→VK→Prop)(te:TE)(tl th:TO):TE:=λ σ H Q=>te σ H λx H1=>tl σ H1 λl H2=>th σ H2 λu H3=>r x l u H3 Q
def zbq(hr:SlR X r)(he:PE X e te)(hl:PO X lo tl)(hu:PO X hi th):PE X (.Subscript e (.Slice lo hi none p2) pos) (tSl r te tl th):=by
 intro a0 s σ H Q I h
 refine Subscript_ (thn (he a0 s σ H _ I h) λv s1 ⟨x,H1,I1,r1,q1⟩=>?_)
 refine wpAny_Slice (thn (hl a0 s1 σ H1 _ I1 q1) λvl s2 ⟨l,H2,I2,pl,q2⟩=>thn (hu a0 s2 σ H2 _ I2 q2) λvu s3 ⟨u,H3,I3,pu,q3⟩=>?_)
 rw[evalPart_none]
 refine wpAny_pure ?_
 have I4:Inv X a0 σ H3 {s3 with heap:=s3.heap.push {cls:=.type "slice",data:=.fields #[vl,vu,.none]}}:=I3.kept (t':=s3.toks) λb ob q=>Qj _ q
 obtain⟨T,id,hT,ht,hg⟩:=hr a0 {s3 with heap:=s3.heap.push {cls:=.type "slice",data:=.fields #[vl,vu,.none]}} σ H3 x v vl vu l u s3.heap.objs.size Q I4 r1 (Heap.IsSliceOf.new ..) pl pu q3
 show wpAny (model X.prog X.w) X.A (subscriptTail e (.Slice lo hi none p2) v (.ref s3.heap.objs.size)) (EP X a0 σ Q) X.xe {s3 with heap:=s3.heap.push {cls:=.type "slice",data:=.fields #[vl,vu,.none]}}
 exact tail_any (ops:=[.ref s3.heap.objs.size,v]) ht hT hg (by with_unfolding_all rfl)
def cutV(xs:List V)(lo hi:Option Int):List V:=(xs.drop (HT.sIx xs.length 0 lo)).take (HT.sIx xs.length xs.length hi-HT.sIx xs.length 0 lo)
def za2(xs:List V)(lo hi:Option Int):(cutV xs lo hi).length≤xs.length:=by
 unfold cutV
 rw[Zn,Ja]
 lia
end
end L2
namespace L2
open PySem PySem.Spec PyProof.Rows
def ixN(n:Nat)(i:Int):Option Nat:=if 0≤i then(if i<n then some i.toNat else none) else if -(n:Int)≤i then some (i+n).toNat else none
def atI{α:Type}(xs:List α)(i:Int):Option α:=(ixN xs.length i).bind λj=>xs[j]?
def ixN_seq(h:ixN n i=some j):seqIndex? i n=some j∧j<n∧-(n:Int)≤i∧i<n:=by
 unfold ixN at h
 by_cases h0:0≤i
 ·rw [if_pos h0] at h
  by_cases h1:i<n
  ·rw [if_pos h1] at h
   have e:i.toNat=j:=Qp h
   exact⟨by rw[seqIndex_of h0 h1,e],by lia,by lia,h1⟩
  ·rw[if_neg h1]at h;cases h
 ·rw [if_neg h0] at h
  by_cases h1:-(n:Int)≤i
  ·rw [if_pos h1] at h
   have e:(i+n).toNat=j:=Qp h
   exact⟨by rw[seqIndex_neg (by lia) h1,e],by lia,h1,by lia⟩
  ·rw[if_neg h1]at h;cases h
def atI_get{α:Type}{xs:List α}{i:Int}{v:α}(h:atI xs i=some v):∃j,seqIndex? i xs.length=some j∧xs[j]?=some v∧j<xs.length∧-(xs.length:Int)≤i∧i<xs.length:=by
 unfold atI at h
 cases e:ixN xs.length i with
 |none=>rw[e]at h;cases h
 |some j =>
  rw[e]at h
  obtain⟨h1,h2,h3,h4⟩:=ixN_seq e
  exact⟨j,h1,h,h2,h3,h4⟩
def zbo{α:Type}{xs:List α}{j:Nat}{v:α}(h:xs[j]?=some v):atI xs (j:Int)=some v:=by
 have hj:j<xs.length:=(Zb.mp h).1
 have e:ixN xs.length (j:Int)=some j:=by
  unfold ixN
  rw[if_pos (by lia),if_pos (by exact zar9 ‹_›)];simp
 unfold atI;rw[e];exact h
def PlainIx(b:Expr):Prop:=∀o i,subscripted b false o i=operate [o,i] (getItem o i)
def IxR(X:Cx)(r:R2):Prop :=
 ∀(value slice:Expr) (a0:Nf) (s:Nh) (σ:St) (H:Hp) (x y:V) (v u:Value) (Q:VK),Inv X a0 σ H s→RelV x v→RelV y u→r x y H Q →
  subscripted slice false v u=operate [v,u] (getItem v u)→wpAny (model X.prog X.w) X.A (subscriptTail value slice v u) (EP X a0 σ Q) X.xe s
def MtR(X:Cx)(id:String)(r:V→List V→Hp→VK→Prop):Prop :=
 ∀(a0:Nf) (s:Nh) (σ:St) (H:Hp) (x:V) (xs:List V) (v:Value) (us:Ni) (Q:VK),Inv X a0 σ H s→RelV x v→Vals xs us→r x xs H Q →
  wpAny (model X.prog X.w) X.A (call (.builtin id) (v::us)) (EP X a0 σ Q) X.xe s
section
variable{X:Cx}{a b:Expr}{ta tb:TE}{pos:Pos}
def zck(hr:IxR X r)(ha:PE X a ta)(hb:PE X b tb)(hs:PlainIx b):PE X (.Subscript a b pos) (tOp r ta tb):=by
 intro a0 s σ H Q I h
 exact Subscript_ (binT ha hb I h λv u s2 x y H2 I2 rx ry q=>hr a b a0 s2 σ H2 x y v u Q I2 rx ry q (hs _ _))
inductive RrIxL(K:Na)(x:V)(y:V)(H:Hp)(Q:VK):Prop
 |mk (p:_) (xs:_) (i:_) (v:_) (h0:x=.ref p) (h1:y=.int i) (h2:SqL K H p xs) (h3:atI xs i=some v) (h4:Q v H):RrIxL K x y H Q
def rIxL(K:Na):R2:=λx y H Q=>RrIxL K x y H Q
inductive RrIxT(K:Na)(x:V)(y:V)(H:Hp)(Q:VK):Prop
 |mk (p:_) (xs:_) (i:_) (v:_) (h0:x=.ref p) (h1:y=.int i) (h2:SqT K H p xs) (h3:atI xs i=some v) (h4:Q v H):RrIxT K x y H Q
def rIxT(K:Na):R2:=λx y H Q=>RrIxT K x y H Q
inductive RrIxS(x:V)(y:V)(H:Hp)(Q:VK):Prop
 |mk (z:_) (i:_) (c:_) (h0:x=.str z) (h1:y=.int i) (h2:z.length≤sizeLine) (h3:atI z.cps.toList i=some c) (h4:Q (.str ⟨#[c]⟩) H):RrIxS  x y H Q
def rIxS:R2:=λx y H Q=>RrIxS  x y H Q
def zbu:IxR X (rIxL X.K):=by
 intro value slice a0 s σ H x y v u Q I rx ry h hs
 obtain⟨p,xs,i,z,rfl,rfl,hq,he,q⟩:=h
 cases rx
 obtain⟨t,rfl⟩:=ry
 obtain⟨a7,r,pl,hz⟩:=I.list hq
 obtain⟨j,h1,h2,h3,h4,h5⟩:=atI_get he
 obtain⟨w,ew,eM⟩:=r.get h2
 have hl:=r.length
 have hn:=zec
 have fin:EP X a0 σ Q w s:=⟨z,H,I,eM,q⟩
 by_cases h0:0≤i
 ·have hj:i.toNat=j:=by
   rw[seqIndex_of h0 h5]at h1
   exact Qp h1
  exact item_listR pl.isList h0 (by lia) (by rw[hj];simpa using ew) fin hs
 ·have hj:(i+(a7.toArray.size:Int)).toNat=j:=by
   rw[seqIndex_neg (by lia) h4]at h1
   rw[Qw,←hl]
   exact Qp h1
  exact subscriptTail_builtinR (x:=w) pl.isList.typeIs slot_list_getitem.lookup
   (wpAny_getItem_list_neg (Q:=λr s'=>r=w∧EP X a0 σ Q r s') pl.isList (by lia) (by rw[Qw]<;>lia) (by lia) (by rw[hj];simpa using ew) ⟨rfl,fin⟩) hs
def ix_tup:IxR X (rIxT X.K):=by
 intro value slice a0 s σ H x y v u Q I rx ry h hs
 obtain⟨p,xs,i,z,rfl,rfl,hq,he,q⟩:=h
 cases rx
 obtain⟨t,rfl⟩:=ry
 obtain⟨a7,r,pl,hz⟩:=I.tuple hq
 obtain⟨j,h1,h2,h3,h4,h5⟩:=atI_get he
 obtain⟨w,ew,eM⟩:=r.get h2
 have hl:=r.length
 have hn:=zec
 have fin:EP X a0 σ Q w s:=⟨z,H,I,eM,q⟩
 exact subscriptTail_builtinR (x:=w) pl.typeIs slot_tuple_getitem.lookup
  (getItem_tuple (j:=j) (Q:=λr s'=>r=w∧EP X a0 σ Q r s') pl (by lia) (by lia) (by rw[Qw,←hl];exact h1) (by simpa using ew) ⟨rfl,fin⟩) hs
def ix_str:IxR X rIxS:=by
 intro value slice a0 s σ H x y v u Q I rx ry h hs
 obtain⟨z,i,c,rfl,rfl,hz,he,q⟩:=h
 obtain⟨t,rfl⟩:=rx
 obtain⟨t',rfl⟩:=ry
 obtain⟨j,h1,h2,h3,h4,h5⟩:=atI_get he
 have hl:z.cps.toList.length=z.length:=by simp[Str.length]
 rw[hl]at h1 h4 h5
 have hn:=zec
 exact tail_any (typeIs_str s z t) slot_str_getitem.lookup (getItem_str (c:=c) (by
  have e1:decide (i < -(2 ^ 63:Int))=false:=decide_eq_false (by lia)
  have e2:decide (i≥2 ^ 63)=false:=decide_eq_false (by lia)
  rw[e1,e2,Bool.or_false]) (by rw[h1];simpa using h2) ⟨.str ⟨#[c]⟩,H,I.tok _,⟨_,rfl⟩,q⟩) hs
def mapSeq_set(a7:Ni)(n j:Nat)(u:Value):Obj.mapSeq (·.setIfInBounds j u) {cls:=.type "list",data:=.seq a7.toArray n}={cls:=.type "list",data:=.seq (a7.set j u).toArray n}:=by
 simp[Obj.mapSeq]
def Inv.lst{a0:Nf}{σ:St}{H:Hp}{s:Nh}{p:Nc}{xs:List V}(I:Inv X a0 σ H s)(h:H p=some (.lst xs)) :
  ∃(a7:Ni) (n:Nat),Vals xs a7∧s.heap.get? p=some {cls:=.type "list",data:=.seq a7.toArray n}∧xs.length≤sizeLine:=by
 obtain⟨z,a7,n,r,e⟩:=I.hok p _ h
 exact⟨a7,n,r,e,z⟩
def Inv.lstUpd{s:Nh}{xs ys:List V}{a7 its':Ni}{n n':Nat}{f:Obj→Obj}(I:Inv X a0 σ H s)(h:H p=some (.lst xs))(ho:s.heap.get? p=some {cls:=.type "list",data:=.seq a7.toArray n})(hf:f {cls:=.type "list",data:=.seq a7.toArray n}={cls:=.type "list",data:=.seq its'.toArray n'})(r:Vals ys its')(hz:ys.length≤sizeLine)(t:Nat) :
  Inv X a0 σ (upd H p (.lst ys)) {s with heap:=s.heap.update p f,toks:=t}:=by
 have e:(s.heap.update p f).get? p=some {cls:=.type "list",data:=.seq its'.toArray n'}:=by
  rw[Heap.get?_update_self f ho (by rw[hf]<;>rfl),hf]
 refine I.write (x:=p) (e:=p) (by rw[h];trivial) (.inl rfl) (λb u hb q=>(Ug _ _ (Zc hb)).trans q) ⟨_,e⟩ ?_
 exact⟨hz,its',n',r,e⟩
inductive RrSetL(o:V)(i:V)(v:V)(H:Hp)(Q:Hp→Prop):Prop
 |mk (p:_) (xs:_) (k:_) (j:_) (h0:o=.ref p) (h1:i=.int k) (h2:H p=some (.lst xs)) (h3:ixN xs.length k=some j) (h4:Q (upd H p (.lst (xs.set j v)))):RrSetL  o i v H Q
def rSetL:V→V→V→Hp→(Hp→Prop)→Prop:=λo i v H Q=>RrSetL  o i v H Q
def set_list:PSet X rSetL:=by
 intro a0 s σ H o i v ov iv u Q I ro ri rv h
 obtain⟨p,xs,k,j,rfl,rfl,hp,hj,q⟩:=h
 cases ro
 obtain⟨t,rfl⟩:=ri
 obtain⟨a7,n,r,ho,hz⟩:=I.lst hp
 obtain⟨h1,h2,h3,h4⟩:=ixN_seq hj
 have hl:=r.length
 have hn:=zec
 have I':Inv X a0 σ (upd H p (.lst (xs.set j v))) {s with heap:=s.heap.update p (Obj.mapSeq (·.setIfInBounds j u))} :=
  I.lstUpd hp ho (mapSeq_set a7 n j u) (r.set rv j) (by rw[List.length_set];exact hz) s.toks
 by_cases h0:0≤k
 ·have hk:k.toNat=j:=by
   rw[seqIndex_of h0 h4]at h1
   exact Qp h1
  exact PySem.W.ki_setAt ho h0 (by lia) (by rw[Qw,←hl];exact h4) (by rw[hk];exact⟨_,I',q⟩)
 ·have hk:(k+(a7.toArray.size:Int)).toNat=j:=by
   rw[seqIndex_neg (by lia) h3]at h1
   rw[Qw,←hl]
   exact Qp h1
  exact PySem.W.ki_setBack ho (by lia) (by rw[Qw,←hl];exact h3) (by lia) (by rw[hk];exact⟨_,I',q⟩)
def slice_bounds(lo hi:Option Int)(n:Nat):(sliceBounds lo hi none n).1=((HT.sIx n 0 lo:Nat):Int)∧(sliceBounds lo hi none n).2.1=((HT.sIx n n hi:Nat):Int)∧(sliceBounds lo hi none n).2.2=1:=by
 refine⟨?_,?_,rfl⟩
 ·cases lo with
  |none=>simp[sliceBounds,HT.sIx]
  |some i =>
   simp only[sliceBounds,HT.sIx,Option.getD_none,show(1:Int)>0 by decide,if_true]
   by_cases h:i<0
   ·simp only[h,if_true]<;>lia
   ·simp only[h,if_false]<;>lia
 ·cases hi with
  |none=>simp[sliceBounds,HT.sIx]
  |some i =>
   simp only[sliceBounds,HT.sIx,Option.getD_none,show(1:Int)>0 by decide,if_true]
   by_cases h:i<0
   ·simp only[h,if_true]<;>lia
   ·simp only[h,if_false]<;>lia
def zhp(a7:Ni)(lo hi:Option Int):slicePick a7.toArray lo hi none=((a7.drop (HT.sIx a7.length 0 lo)).take (HT.sIx a7.length a7.length hi-HT.sIx a7.length 0 lo)).toArray:=by
 obtain⟨h1,h2,h3⟩:=slice_bounds lo hi a7.toArray.size
 unfold slicePick
 rw[h1,h2,h3]
 simp only[sliceRange_one,pick_run,Qw]<;>rfl
inductive RrSlL(K:Na)(x:V)(lo:Option Int)(hi:Option Int)(H:Hp)(Q:VK):Prop
 |mk (a:_) (xs:_) (h0:x=.ref a) (h1:SqL K H a xs) (h2:∀p,H p=none→Q (.ref p) (upd H p (.lst (cutV xs lo hi)))):RrSlL K x lo hi H Q
def rSlL(K:Na):V→Option Int→Option Int→Hp→VK→Prop:=λx lo hi H Q=>RrSlL K x lo hi H Q
def zcd:SlR X (rSlL X.K):=by
 intro a0 s σ H x v vl vu lo hi sl Q I rx hs pl pu h
 obtain⟨a,xs,rfl,hx,q⟩:=h
 cases rx
 obtain⟨a7,r,ht,hz⟩:=I.list hx
 have a9:=r.length
 refine⟨"list",_,slot_list_getitem.lookup,ht.isList.typeIs,?_⟩
 refine wpAny_getItem_list_slice ht.isList hs pl pu .none (by simp) ?_ (by rw[Qw]<;>exact zdz ‹_› ‹_›)
 rw[zhp,←a9]
 refine⟨.ref s.heap.objs.size,_,I.laid (t':=s.toks) (o:=.lst (cutV xs lo hi)) (λb ob q=>Qj _ q) (Qf _) ?_,rfl,q _ (I.hok.fresh (Qf _))⟩
 exact⟨Zd (za2 xs lo hi) hz,_,0,(r.drop (HT.sIx xs.length 0 lo)).take (HT.sIx xs.length xs.length hi-HT.sIx xs.length 0 lo),Za _ rfl⟩
def zdb:V→Bool
 |.non=>true
 |.bl _=>true
 |.int _=>true
 |.str _=>true
 |_=>false
def eqV:V→V→Bool
 |.non,.non=>true
 |.bl a,.bl b=>a==b
 |.bl a,.int b=>(if a then 1 else 0)==b
 |.int a,.bl b=>a==(if b then 1 else 0)
 |.int a,.int b=>a==b
 |.str a,.str b=>a==b
 |_,_=>false
def eqAt_V(ry:RelV y u)(rx:RelV x v)(fy:zdb y=true)(fx:zdb x=true):SeqAt.EqAt A s u v (eqV y x):=by
 cases y with
 |non =>
  cases ry
  cases x with
  |non=>cases rx;exact SeqAt.EqAt.same _
  |bl b=>cases rx;exact SeqAt.EqAt.none_bool b
  |int b=>obtain⟨t,rfl⟩:=rx;exact SeqAt.EqAt.none_int b t
  |str b=>obtain⟨t,rfl⟩:=rx;exact SeqAt.EqAt.none_str b t
  |_=>exact absurd (show false=true from fx) Zg
 |bl a =>
  cases ry
  cases x with
  |non=>cases rx;exact SeqAt.EqAt.bool_none a
  |bl b=>cases rx;exact SeqAt.EqAt.bool_bool a b
  |int b=>obtain⟨t,rfl⟩:=rx;exact SeqAt.EqAt.bool_int a b t
  |str b=>obtain⟨t,rfl⟩:=rx;exact SeqAt.EqAt.bool_str a b t
  |_=>exact absurd (show false=true from fx) Zg
 |int a =>
  obtain⟨t',rfl⟩:=ry
  cases x with
  |non=>cases rx;exact SeqAt.EqAt.int_none a t'
  |bl b=>cases rx;exact SeqAt.EqAt.int_bool a t' b
  |int b=>obtain⟨t,rfl⟩:=rx;exact SeqAt.EqAt.int_int a t' b t
  |str b=>obtain⟨t,rfl⟩:=rx;exact SeqAt.EqAt.int_str a t' b t
  |_=>exact absurd (show false=true from fx) Zg
 |str a =>
  obtain⟨t',rfl⟩:=ry
  cases x with
  |non=>cases rx;exact SeqAt.EqAt.str_none a t'
  |bl b=>cases rx;exact SeqAt.EqAt.str_bool a t' b
  |int b=>obtain⟨t,rfl⟩:=rx;exact SeqAt.EqAt.str_int a t' b t
  |str b=>obtain⟨t,rfl⟩:=rx;exact Jt a t' b t
  |_=>exact absurd (show false=true from fx) Zg
 |_=>exact absurd (show false=true from fy) Zg
def eqU(x:V)(u:Value):Bool:=match u with
 |.none=>eqV .non x
 |.bool b=>eqV (.bl b) x
 |.int i _=>eqV (.int i) x
 |.str z _=>eqV (.str z) x
 |_=>false
def eqU_of(r:RelV y u)(f:zdb y=true):eqU x u=eqV y x:=by
 cases y with
 |non=>cases r;rfl
 |bl b=>cases r;rfl
 |int i=>obtain⟨t,rfl⟩:=r;rfl
 |str z=>obtain⟨t,rfl⟩:=r;rfl
 |_=>exact absurd (show false=true from f) Zg
theorem zgp:∀{xs:List V} {us:Ni},Vals xs us→xs.all zdb=true→us.any (eqU x)=xs.any λy=>eqV y x
 |_,_,.nil,_=>rfl
 |y::xs,u::us,.cons r t,f=>by
  rw[List.all_cons,Jz]at f
  rw[Ka,Ka,eqU_of r f.1,zgp t f.2]
theorem zdo(rx:RelV x v)(fx:zdb x=true):∀{xs:List V} {us:Ni},Vals xs us→xs.all zdb=true→∀u∈us,SeqAt.EqAt A s u v (eqU x u)
 |_,_,.nil,_=>λu hu=>by cases hu
 |y::xs,u::us,.cons r t,f=>λu' hu=>by
  rw[List.all_cons,Jz]at f
  rcases Qd.mp hu with rfl | hu
  ·rw[eqU_of r f.1];exact eqAt_V r rx f.1 fx
  ·exact zdo rx fx t f.2 u' hu
def inV(x:V)(xs:List V):Bool:=xs.any λy=>eqV y x
inductive RrIn(K:Na)(neg:Bool)(x:V)(y:V)(H:Hp)(Q:VK):Prop
 |mk (p:_) (xs:_) (h0:y=.ref p) (h1:(SqL K H p xs∨SqT K H p xs)) (h2:zdb x=true) (h3:xs.all zdb=true) (h4:Q (.bl (if neg then !inV x xs else inV x xs)) H):RrIn K neg x y H Q
def rIn(K:Na)(neg:Bool):R2:=λx y H Q=>RrIn K neg x y H Q
def op_in_seq:OpR X (compareOp .In) (rIn X.K false):=by
 intro a0 s σ H x y v u Q I rx ry h
 obtain⟨p,xs,rfl,hq,fx,fs,q⟩:=h
 cases ry
 rcases hq with hq | hq
 ·obtain ⟨a7,r,pl,hz⟩:=I.list hq
  refine SeqAt.in_listAt (eqU x) pl.isList (λw hw=>zdo rx fx r fs w (by simpa using hw)) ⟨.bl _,H,I,rfl,?_⟩
  rw[show a7.toArray.any (eqU x)=a7.any (eqU x) by simp,zgp r fs]
  exact q
 ·obtain ⟨a7,r,pl,hz⟩:=I.tuple hq
  refine SeqAt.in_tupleAt (eqU x) pl (λw hw=>zdo rx fx r fs w (by simpa using hw)) ⟨.bl _,H,I,rfl,?_⟩
  rw[show a7.toArray.any (eqU x)=a7.any (eqU x) by simp,zgp r fs]
  exact q
def zfa:OpR X (compareOp .NotIn) (rIn X.K true):=by
 intro a0 s σ H x y v u Q I rx ry h
 obtain⟨p,xs,rfl,hq,fx,fs,q⟩:=h
 cases ry
 rcases hq with hq | hq
 ·obtain ⟨a7,r,pl,hz⟩:=I.list hq
  refine SeqAt.notIn_listAt (eqU x) pl.isList (λw hw=>zdo rx fx r fs w (by simpa using hw)) ⟨.bl _,H,I,rfl,?_⟩
  rw[show a7.toArray.any (eqU x)=a7.any (eqU x) by simp,zgp r fs]
  exact q
 ·obtain ⟨a7,r,pl,hz⟩:=I.tuple hq
  refine SeqAt.notIn_tupleAt (eqU x) pl (λw hw=>zdo rx fx r fs w (by simpa using hw)) ⟨.bl _,H,I,rfl,?_⟩
  rw[show a7.toArray.any (eqU x)=a7.any (eqU x) by simp,zgp r fs]
  exact q
def zan:zb4 X (.builtin "len") (λxs H Q=>Ex2 λp ys=>Aj3 (xs=[.ref p]) ((SqL X.K H p ys)∨( SqT X.K H p ys)) (Q (.int ys.length) H)):=by
 intro a0 s σ H xs us Q I r h
 obtain⟨p,ys,rfl,hq,q⟩:=h
 obtain⟨u,rfl,rx⟩:=vals1 r
 cases rx
 have hn:=zec
 rcases hq with hq | hq
 ·obtain ⟨a7,r',pl,hz⟩:=I.list hq
  have a9:=r'.length
  exact Calls.call_len_list pl.isList (by simp only[Qw]<;>lia) ⟨.int ys.length,H,I.tok _,⟨s.toks+1,by rw[Qw,a9]⟩,q⟩
 ·obtain ⟨a7,r',pl,hz⟩:=I.tuple hq
  have a9:=r'.length
  exact len_tuple pl (by simp only[Qw]<;>lia) ⟨.int ys.length,H,I.tok _,⟨s.toks+1,by rw[Qw,a9]⟩,q⟩
def call_len_str:zb4 X (.builtin "len") (λxs H Q=>Ex1 λz=>Aj3 (xs=[.str z]) (z.length≤sizeLine) (Q (.int z.length) H)):=by
 intro a0 s σ H xs us Q I r h
 obtain⟨z,rfl,hz,q⟩:=h
 obtain⟨u,rfl,t,rfl⟩:=vals1 r
 have hn:=zec
 exact len_str (by lia) ⟨.int z.length,H,I.tok _,⟨_,rfl⟩,q⟩
def call_list_of:zb4 X (.type "list") (λxs H Q=>Ex2 λp ys=>Aj3 (xs=[.ref p]) ((SqL X.K H p ys)∨( SqT X.K H p ys)) (∀l,H l=none→Q (.ref l) (upd H l (.lst ys)))):=by
 intro a0 s σ H xs us Q I r h
 obtain⟨p,ys,rfl,hq,q⟩:=h
 obtain⟨u,rfl,rx⟩:=vals1 r
 cases rx
 have fin:∀(a7:Ni),Vals ys a7→ys.length≤sizeLine→∀(h':Nm) (c':Nat),(∀b o',s.heap.get? b=some o'→h'.get? b=some o') →
   h'.get? s.heap.objs.size=some {cls:=.type "list",dict:=none,data:=.seq a7.toArray c',slots:=#[]}→EP X a0 σ Q (.ref s.heap.objs.size) {s with heap:=h'}:=λa7 r' hz h' c' kp e =>
  ⟨.ref s.heap.objs.size,_,I.laid (t':=s.toks) kp (Qf _) (show zbp X.prog X.w _ h' _ (.lst ys) from⟨hz,a7,c',r',e⟩),rfl,q _ (I.hok.fresh (Qf _))⟩
 rcases hq with hq | hq
 ·obtain ⟨a7,r',pl,hz⟩:=I.list hq
  have a9:=r'.length
  obtain⟨o,ho,hc,n,hd⟩:=pl.isList
  exact call_list_seq p (.inl rfl) ho hc hd (λh' c' kp e=>fin a7 r' hz h' c' kp e) (by simp only[Qw]<;>exact zdz ‹_› ‹_›)
 ·obtain ⟨a7,r',pl,hz⟩:=I.tuple hq
  have a9:=r'.length
  obtain⟨o,ho,hc,n,hd⟩:=pl
  exact call_list_seq p (.inr rfl) ho hc hd (λh' c' kp e=>fin a7 r' hz h' c' kp e) (by simp only[Qw]<;>exact zdz ‹_› ‹_›)
def ziq:zb4 X (.type "tuple") (λxs H Q=>Ex2 λp ys=>Aj2 (xs=[.ref p]) ((Aj2 (SqL X.K H p ys) (∀l,H l=none→Q (.ref l) (upd H l (.tup ys))))∨(Aj2 (SqT X.K H p ys) (Q (.ref p) H)))):=by
 intro a0 s σ H xs us Q I r h
 obtain⟨p,ys,rfl,h⟩:=h
 obtain⟨u,rfl,rx⟩:=vals1 r
 cases rx
 rcases h with⟨hq,q⟩ | ⟨hq,q⟩
 ·obtain ⟨a7,r',pl,hz⟩:=I.list hq
  have a9:=r'.length
  refine call_tuple_list pl.isList (λh' kp=>?_) (by simp only[Qw]<;>exact zdz ‹_› ‹_›)
  have I1:Inv X a0 σ H {s with heap:=h'}:=I.kept (t':=s.toks) kp
  have I2:Inv X a0 σ (upd H h'.objs.size (.tup ys)) {s with heap:=h'.push {cls:=.type "tuple",data:=.seq a7.toArray}} :=
   I1.laid (t':=s.toks) (λb o e=>Qj _ e) (Qf _) (show zbp X.prog X.w _ _ _ (.tup ys) from⟨hz,a7,r',IsTup.new _ _⟩)
  exact⟨.ref h'.objs.size,_,I2,rfl,q _ (I1.hok.fresh (Qf _))⟩
 ·obtain ⟨a7,r',pl,hz⟩:=I.tuple hq
  exact call_tuple_same pl ⟨.ref p,H,I,rfl,q⟩
def tyV(K:Na)(T:String)(x:V)(H:Hp):Prop:=match x with
 |.str _=>T = "str"
 |.int _=>T = "int"
 | .ref p=>(T = "list" ∧ ∃ xs,SqL K H p xs)∨(T = "tuple" ∧ ∃ o,K.lookup p=some o∧o.cls=.type "tuple" ∧ o.dict=none) ∨
   (T = "dict" ∧ ((∃kvs,H p=some (.dK kvs))∨∃kvs,H p=some (.dT kvs)))∨(T = "set" ∧ ∃S n,H p=some (.set S n))
 |_=>False
def tyV_is(I:Inv X a0 σ H s)(r:RelV x v)(ty:tyV X.K T x H) :
  s.TypeIs v T∧∀a,v=.ref a→∃ob,s.heap.get? a=some ob∧ob.dict=none:=by
 cases x with
 |str z =>
  obtain⟨t,rfl⟩:=r
  cases(show T = "str" from ty)
  exact⟨typeIs_str s z t,λ_ e=>nomatch e⟩
 |int i =>
  obtain⟨t,rfl⟩:=r
  cases(show T = "int" from ty)
  exact⟨typeIs_int s i t,λ_ e=>nomatch e⟩
 | ref p =>
  cases r
  rcases ty with⟨rfl,xs,hq⟩ | ⟨rfl,o,hk,hc,hd⟩ | ⟨rfl,hk⟩ | ⟨rfl,S,n,hk⟩
  ·obtain ⟨a7,_,pl,_⟩:=I.list hq
   refine⟨pl.isList.typeIs,λa e=>?_⟩
   cases e
   obtain⟨o,n,e,c,hd,_⟩:=pl
   exact⟨o,e,hd⟩
  ·refine ⟨⟨o,I.kIn p o hk,hc⟩,fun a e=>?_⟩
   cases e
   exact⟨o,I.kIn _ o hk,hd⟩
  ·have z:∃ o,s.heap.get? p=some o∧o.ExactDict:=by
    rcases hk with⟨kvs,hk⟩ | ⟨kvs,hk⟩
    ·obtain ⟨_,_,_,_,o,_,_,e,ex,_⟩:=I.hok p _ hk
     exact⟨o,e,ex⟩
    ·obtain ⟨_,_,_,_,o,_,_,e,ex,_⟩:=I.hok p _ hk
     exact⟨o,e,ex⟩
   obtain⟨o,e,ex⟩:=z
   refine⟨⟨o,e,ex.1⟩,λa e2=>?_⟩
   cases e2
   exact⟨o,e,ex.2.1⟩
  ·obtain ⟨o,_,_,_,e,ex,_⟩:=I.hok p _ hk
   refine⟨⟨o,e,ex.1⟩,λa e2=>?_⟩
   cases e2
   exact⟨o,e,ex.2.1⟩
 |_=>exact False.elim ty
def tBM0(K:Na)(T:String)(r:V→List V→Hp→VK→Prop)(to:TE):TE:=λ σ H Q=>to σ H λx H1=>tyV K T x H1∧r x [] H1 Q
def tBM(K:Na)(T:String)(r:V→List V→Hp→VK→Prop)(to:TE)(t:TA):TE:=λ σ H Q=>to σ H λx H1=>tyV K T x H1∧t σ H1 λxs H2=>r x xs H2 Q
variable{o e:Expr}{es:Nq}{to:TE}{t:TA}{name:Str}{apos cpos:Pos}{T id:String}{r:V→List V→Hp→VK→Prop}
def zg6(pa:PlainAttrs T)(slot:Slot T name id)(sK:typeOf (.builtin id)=pure (.type "method_descriptor"))(hm:MtR X id r)(ho:PE X o to)(ie:attributeBase o name X.env (eval o X.env)=eval o X.env:=by rfl)(gL:(apos.endLine==cpos.line)=true:=by rfl):PE X (.Call (.Attribute o name apos) [] [] cpos) (tBM0 X.K T r to):=by
 intro a0 s σ H Q I h
 refine wpAny_Call_method0_late ie gL (thn (ho a0 s σ H _ I h) λv s1 ⟨x,H1,I1,r1,ty,q1⟩=>?_)
 obtain⟨h1,h2⟩:=tyV_is I1 r1 ty
 exact⟨T,id,pa,slot,sK,h1,h2,Calls.callWith_builtin rfl (PySem.evalArgs_none (hm a0 s1 σ H1 x [] v [] Q I1 r1 .nil q1))⟩
def zd9(pa:PlainAttrs T)(slot:Slot T name id)(sK:typeOf (.builtin id)=pure (.type "method_descriptor"))(hm:MtR X id r)(ho:PE X o to)(ha:PA X (e::es) t)(ie:attributeBase o name X.env (eval o X.env)=eval o X.env:=by rfl)(pC:((backTo cpos (starEach (e::es) X.env)).all (fun x=>!x.1) && (backToKw cpos (keywordEach [] X.env)).all (fun x=>x.1.isSome)
   && decide ((e::es).length+([]:List Keyword).length+(if([]:List Keyword).isEmpty then 0 else 1)<30))=true:=by rfl)(gL:(apos.endLine==cpos.line)=true:=by rfl)(hs:starEach (e::es) X.env=(false,eval e X.env)::starEach es X.env:=by rfl)(l4:(backTo cpos (starEach es X.env)).any (·.1)=false:=by rfl) :
  PE X (.Call (.Attribute o name apos) (e::es) [] cpos) (tBM X.K T r to t):=by
 intro a0 s σ H Q I h
 refine wpAny_Call_method_late ie pC gL rfl (thn (ho a0 s σ H _ I h) λv s1 ⟨x,H1,I1,r1,ty,q1⟩=>?_)
 obtain⟨h1,h2⟩:=tyV_is I1 r1 ty
 refine⟨T,id,pa,slot,sK,h1,h2,?_⟩
 have hA:=ha cpos a0 s1 σ H1 _ I1 q1
 rw[hs]at hA ⊢
 refine Calls.callWith_builtin (by show(false||(backTo cpos (starEach es X.env)).any (·.1))=false;rw[l4]<;>rfl) (Calls.evalArgs_plain ?_)
 exact thn hA λus s2 ⟨vs,H2,I2,r2,q2⟩=>hm a0 s2 σ H2 x vs v us Q I2 r1 r2 q2
end
end L2
namespace L2
open PySem PySem.Spec PyProof.Rows
def MtM(X:Cx)(id:String)(r:V→List V→Hp→VK→Prop):Prop :=
 ∀(a0:Nf) (s:Nh) (σ:St) (H:Hp) (x:V) (xs:List V) (v:Value) (us:Ni) (Q:VK),Inv X a0 σ H s→RelV x v→Vals xs us→r x xs H Q →
  wpAny (model X.prog X.w) X.A (call (.builtin id) (v::us)) (EP X a0 σ Q) X.xe s
theorem Vals.one:∀{x:V} {us:Ni},Vals [x] us→∃u,us=[u]∧RelV x u
 |_,_,.cons r .nil=>⟨_,rfl,r⟩
theorem Vals.two:∀{x y:V} {us:Ni},Vals [x,y] us→∃u v,us=[u,v]∧RelV x u∧RelV y v
 |_,_,_,.cons r (.cons q .nil)=>⟨_,_,rfl,r,q⟩
theorem Vals.zero:∀{us:Ni},Vals [] us→us=[]
 |_,.nil=>rfl
def Vals.dropLast{xs:List V}{us:Ni}(h:Vals xs us):Vals xs.dropLast us.dropLast:=by
 induction h with
 |nil=>exact .nil
 |cons r t ih =>
  cases t with
  |nil=>exact .nil
  |cons q t'=>exact .cons r ih
def Vals.reverse{xs:List V}{us:Ni}(h:Vals xs us):Vals xs.reverse us.reverse:=by
 induction h with
 |nil=>exact .nil
 |cons r t ih=>rw[Jo,Jo];exact Vals.append ih (.cons r .nil)
def erase_last{α:Type}(l:List α):l.eraseIdx (l.length - 1)=l.dropLast:=by
 induction l with
 |nil=>rfl
 | cons a r ih =>
  cases r with
  |nil=>rfl
  | cons b r =>
   have e:(a::b::r).length-1=((b::r).length-1)+1:=by
    have h1:(a::b::r).length=r.length+2:=rfl
    have h2:(b::r).length=r.length+1:=rfl
    assumption
   rw[e,List.eraseIdx_cons_succ,ih]
   all_goals rfl
section
variable{X:Cx}{a0:Nf}{σ:St}{H:Hp}{s:Nh}{l b:Nc}{xs ys zs:List V}
def Inv.lset{a7 its':Ni}{n:Nat}{f:Array Value→Array Value}{t':Nat}(I:Inv X a0 σ H s)(hH:H l=some (.lst xs))(e:s.heap.get? l=some {cls:=.type "list",data:=.seq a7.toArray n})(hf:f a7.toArray=its'.toArray)(hv:Vals ys its')(hz:ys.length≤sizeLine) :
  Inv X a0 σ (upd H l (.lst ys)) {s with heap:=s.heap.update l (Obj.mapSeq f),toks:=t'}:=by
 have q:=PySem.IsL.update e f
 rw[hf]at q
 refine I.write (x:=l) (e:=l) (by rw[hH];exact trivial) (.inl rfl) (λb' u hb hu=>(Ug s.heap (Obj.mapSeq f) (Zc hb)).trans hu) ⟨_,q⟩ ?_
 exact⟨hz,its',_,hv,q⟩
def Inv.lnew(I:Inv X a0 σ H s)(hv:Vals ys a7)(hz:ys.length≤sizeLine) :
  Inv X a0 σ (upd H s.heap.objs.size (.lst ys)) {s with heap:=s.heap.push {cls:=.type "list",data:=.seq a7.toArray},toks:=t'} :=
 I.laid (λ_ _ q=>Qj _ q) (Qf _) ⟨hz,a7,0,hv,Za _ rfl⟩
def Inv.fresh(I:Inv X a0 σ H s):H s.heap.objs.size=none:=I.hok.fresh (Qf _)
def Inv.lstM(I:Inv X a0 σ H s)(hH:H l=some (.lst xs)):xs.length≤sizeLine∧∃(a7:Ni) (n:Nat),Vals xs a7∧xs.length=a7.length∧s.heap.get? l=some {cls:=.type "list",data:=.seq a7.toArray n}:=by
 obtain⟨z,a7,n,r,e⟩:=I.hok l _ hH
 exact⟨z,a7,n,r,r.length,e⟩
end
section
variable{X:Cx}
inductive RrAppend(x:V)(vs:List V)(H:Hp)(Q:VK):Prop
 |mk (l:_) (xs:_) (y:_) (h0:x=.ref l) (h1:vs=[y]) (h2:H l=some (.lst xs)) (h3:xs.length<sizeLine) (h4:Q .non (upd H l (.lst (xs++[y])))):RrAppend  x vs H Q
def rAppend:V→List V→Hp→VK→Prop:=λx vs H Q=>RrAppend  x vs H Q
def zb0:MtM X "list.append" rAppend:=by
 intro a0 s σ H x vs v us Q I rx rv h
 obtain⟨l,xs,y,rfl,rfl,hH,hz,q⟩:=h
 cases rx
 obtain⟨u,rfl,ru⟩:=rv.one
 obtain⟨z,a7,n,r,hl,e⟩:=I.lstM hH
 refine call_meets F.slot_list_append ⟨_,e,rfl⟩ F.entry_list_append (F.args_list_append_2 _ _) (PySem.list_append l a7.toArray n u (by rw[Qw];exact zdz ‹_› ‹_›)) ⟨e,?_⟩
 refine⟨.non,_,I.lset (its':=a7++[u]) hH e (by simp) (r.append (.cons ru .nil)) ?_,rfl,q⟩
 rw[Qo,Wd]
 assumption
inductive RrPop(x:V)(vs:List V)(H:Hp)(Q:VK):Prop
 |mk (l:_) (xs:_) (y:_) (h0:x=.ref l) (h1:vs=[]) (h2:H l=some (.lst xs)) (h3:xs[xs.length-1]?=some y) (h4:Q y (upd H l (.lst xs.dropLast))):RrPop  x vs H Q
def rPop:V→List V→Hp→VK→Prop:=λx vs H Q=>RrPop  x vs H Q
def mt_pop:MtM X "list.pop" rPop:=by
 intro a0 s σ H x vs v us Q I rx rv h
 obtain⟨l,xs,y,rfl,rfl,hH,hy,q⟩:=h
 cases rx
 have iY:=rv.zero
 subst iY
 obtain⟨z,a7,n,r,hl,e⟩:=I.lstM hH
 obtain⟨u,hu,ru⟩:=r.get hy
 have bK:a7.toArray[a7.toArray.size-1]?=some u:=by
  show a7.toArray[a7.length-1]?=some u
  rw[←Uf,←hl]
  exact hu
 refine call_meets F.slot_list_pop ⟨_,e,rfl⟩ F.entry_list_pop (F.args_list_pop_1 _) (MeetsSeq.list_pop_last l a7.toArray n u bK (by rw[Qw];exact zdz ‹_› ‹_›)) ⟨e,?_⟩
 refine⟨y,_,I.lset (its':=a7.dropLast) hH e ?_ r.dropLast ?_,ru,q⟩
 ·show a7.toArray.eraseIdxIfInBounds (a7.toArray.size - 1)=a7.dropLast.toArray
  rw[Qw,List.eraseIdxIfInBounds_toArray,erase_last]
 ·rw [List.length_dropLast]
  lia
inductive RrCat(x:V)(y:V)(H:Hp)(Q:VK):Prop
 |mk (l:_) (b:_) (xs:_) (zs:_) (h0:x=.ref l) (h1:y=.ref b) (h2:H l=some (.lst xs)) (h3:H b=some (.lst zs)) (h4:xs.length+zs.length≤sizeLine) (h5:∀p,H p=none→Q (.ref p) (upd H p (.lst (xs++zs)))):RrCat  x y H Q
def rCat:R2:=λx y H Q=>RrCat  x y H Q
def zea:OpR X (binaryOp .Add) rCat:=by
 intro a0 s σ H x y v u Q I rx ry h
 obtain⟨l,b,xs,zs,rfl,rfl,hH,hB,hz,q⟩:=h
 cases rx
 cases ry
 obtain⟨z,a7,n,r,hl,e⟩:=I.lstM hH
 obtain⟨z2,cQ,n2,r2,ah,e2⟩:=I.lstM hB
 refine PySem.P.add_list e e2 ?_ (by rw[Qw,Qw];lia)
 have ea:a7.toArray++cQ.toArray=(a7++cQ).toArray:=by simp
 rw[ea]
 exact⟨.ref _,_,I.lnew (t':=s.toks) (r.append r2) (by rw[Qo];assumption),rfl,q _ I.fresh⟩
end
section
variable{prog:Nj}{w:Nl}{A:Nn}{E:Nb}{s:Nh}
end
section
variable{X:Cx}
end
end L2
namespace Att
open PySem PySem.W PySem.Calls PyProof.Rows
def zgj:∀(ns:List Int) (vs:Ni),WellAll P h vs (ns.map WData.int)→IntsAre vs ns:=by
 intro ns
 induction ns with
 |nil =>
  intro vs w
  rw[Jq]at w
  cases w
  exact .nil
 | cons n ns ih =>
  intro vs w
  rw[Qm]at w
  cases w with
  |cons a b =>
   cases a
   exact .cons _ _ (ih _ b)
def script_of{l:OpenLaw}{n:Nat}(hn:l.most=some n){P:Params}{h:Nm}{args:List WData}{km:Ni}(je:l.row.toRowW.claim.pre args=true)(cR:WellAll P h km args) :
  ∃a vs ns,km=[Value.ref a]∧args=[WData.list (ns.map WData.int)]∧h.get? a=some {cls:=.type "list",data:=.seq vs.toArray}∧IntsAre vs ns∧ns.length≤n:=by
 have hsh:WShape.hasAll [] args [.list .int]=true:=(pre_splitW je).1
 have hc:l.pre.holds [] {args:=args}=true:=(pre_splitW je).2
 obtain⟨d,r,rfl,h1,h2⟩:=hasAllW_cons hsh
 obtain rfl:=hasAllW_nil h2
 obtain⟨xs,rfl,h3⟩:=hasW_list h1
 obtain⟨ns,rfl⟩:=items_int h3
 have a9:ns.length≤n:=by
  unfold OpenLaw.pre at hc
  have h4:(WTm.not (.lt (.lit (.int (n:Int))) (.len (.arg 0)))).holds [] {args:=[.list (ns.map .int)]}=true:=by
   have h4:=(holds_andW hc).1
   rw[hn]at h4
   exact h4
  have h5:=condW_of h4 (w_not (w_lt w_lit (w_len_list (w_arg rfl))))
  rw[Qa]at h5
  refine Xe λq=>?_
  have q':(n:Int)<((ns.length:Nat):Int):=by exact zar9 ‹_›
  first
   |(rw[decide_eq_true q']at h5;exact absurd h5 (by decide))
   |(simp at h5;lia)
 cases cR with
 |cons w1 w2 =>
  cases w2
  cases w1 with
  |list ho aw=>exact⟨_,_,ns,rfl,rfl,ho,zgj ns _ aw,a9⟩
def post_true(l:OpenLaw)(args:List WData):l.row.toRowW.claim.post args (.bool true) args=true :=
 postW_of (r:=l.row.toRowW) (X:=(true==true))
  (show WShape.has [] (.bool true) .bool=true by first | rfl | decide | simp[WShape.has,WShape.arms,WShape.armsAll])
  (show(WTm.eq .res (.lit (.bool true))).value [] {args:=args,res:=some (.bool true),after:=args}=some (.bool (true==true)) from w_eq_bool (w_res rfl) w_lit) rfl
def attach_call{l:OpenLaw}{n:Nat}{q:Nj}{loose:Nd}{XP:(Str→Option Value)→Heap→Prop}{YP:World→Heap→Prop}{d:DefRec}(hn:l.most=some n)(pO:d.params.defaults=[])(call:∀ (w:Nl) (s₀ s₁:Nh) (mg mb:Ng) (fa:Nc) (o:Obj) (pm cd doc:Value) (a:Nc) (vs:Ni) (ns:List Int),
   Ground q loose [] XP w s₀ mg mb s₁.heap→YP w s₁.heap →
   s₁.heap.get? fa=some o→o.data=.func (docDef d.name d.params d.body d.scope pm cd doc)→s₁.heap.CodeRec cd d.name→mg d.name=some (.ref fa) →
   s₁.heap.get? a=some {cls:=.type "list",data:=.seq vs.toArray}→IntsAre vs ns→ns.length≤n→s₁.gens=#[] →
   codeAny (model l.prog w) callerA (.call (.ref fa) ⟨[.ref a],[]⟩) (λr s'=>r=.ok (.ret (.bool true))∧OldK s₁.heap s'.heap∧s'.os=s₁.os∧AllBare s'.gens) s₁) :
  WalkO q loose XP YP l.row.toRowW d [] (λf vs=>PySem.call f vs):=by
 intro w s₀ s₁ mg mb G Y fa o pm cd doc dV kV ho hd au hD tX hg args km as je oP mj cR hlo
 obtain rfl:dV=.none:=Dflts.none hD pO
 obtain rfl:kV=.none:=Dflts.noKw hD
 obtain⟨a,vs,ns,rfl,rfl,l9,gZ,a9⟩:=script_of hn je cR
 refine enter_call (codeAny_mono (call w s₀ s₁ mg mb fa o pm cd doc a vs ns G Y ho (fd_plain hd) au tX l9 gZ a9 hg) λr s' hq=>?_)
 obtain⟨rfl,h2,h3,h4⟩:=hq
 exact⟨.inl ⟨.bool true,.bool true,[],rfl,λ_=>rfl,.bool true,post_true l _,λ_=>⟨List.Pairwise.nil,λ_ hm=>(nomatch hm)⟩⟩,h2,h3,h4⟩
section
variable{prog:Nj}{w:Nl}{A:Nn}{E:Nb}{s:Nh}{K:Frag}
end
end Att
namespace L2
open PySem PySem.Spec PyProof.Rows
theorem vals_ints:∀{vs:Ni} {ns:List Int},IntsAre vs ns→Vals (ns.map V.int) vs
 |_,_,.nil=>.nil
 |_,_,.cons n t h=>.cons ⟨t,rfl⟩ (vals_ints h)
def Only(H:Hp):Prop:=∀b,H b=none∨∃o xs,H b=some (.frz o (.lst xs))
def law_call{P:Nj}{w:Nl}{K:Na}{mg mb:Ng}{CX:CXT}{k:Nat}{fa a:Nc}{fd:Nv}{x:Str}{sp:Sp}{s₁:Nh}{vs:Ni}{ns:List Int}(KX:K.In s₁.heap)(oE:s₁.heap.Ns mainGlobals mg)(hb:s₁.heap.Ns builtinsNs mb)(pX:∀x:Str,x ≠ "__name__" → mb x=bootBuiltins x)(u5:s₁.heap.NoLimit)(hg:s₁.gens=#[])(ha:s₁.heap.get? a=some {cls:=.type "list",data:=.seq vs.toArray})(hi:IntsAre vs ns)(hl:ns.length≤sizeLine)(hr:Room k callerA)(F:∀base:Heap,K.In base→base.Ns mainGlobals mg→FnOk P w K mg base CX k fa fd [x] sp)(pV:∀(s:Shared) (u:Value),BindsTo s fd ⟨[u],[]⟩ [(x,u)])(ck:∀H:Hp,Only H→SqL K H a (ns.map V.int)→sp [.ref a] H (λv _=>v=.bl true) λ_ _ _=>False)(vo:∀H e s',CX [] H s₁ (λ_ _ _=>False) e s'→False) :
  codeAny (model P w) callerA (.call (.ref fa) ⟨[.ref a],[]⟩) (λr s'=>r=.ok (.ret (.bool true))∧OldK s₁.heap s'.heap∧s'.os=s₁.os∧AllBare s'.gens) s₁:=by
 have rv:=vals_ints hi
 have lenV:=hi.length
 have core:∀ H:Hp,Only H→SqL K H a (ns.map V.int)→HOk P w H s₁.heap→(∀ b,H b≠none→b=a)→(H a≠none→K.lookup a=none) →
   codeAny (model P w) callerA (.call (.ref fa) ⟨[.ref a],[]⟩) (λr s'=>r=.ok (.ret (.bool true))∧OldK s₁.heap s'.heap∧s'.os=s₁.os∧AllBare s'.gens) s₁:=by
  intro H hO hS hok hA hK
  have base_of:∀{b:Nc} {o:Obj},s₁.heap.get? b=some o→H b=none→(hidT s₁.heap H).get? b=some o:=λe n=>hidT_get e n
  have noA:∀{b:Nc} {o:Obj} {es:Array DictEntry} {ep:Nat},s₁.heap.get? b=some o→o.data=.dict es ep→H b=none:=λ{b o es ep} e d=>by
   cases q:H b with
   |none=>rfl
   |some u =>
    have e':b=a:=hA b (by rw[q];simp)
    subst e'
    rw[ha]at e;cases e
    have d':Data.seq vs.toArray _=Data.dict es ep:=d
    cases d'
  have nsK:∀{b:Nc} {m:Ng},s₁.heap.Ns b m→(hidT s₁.heap H).Ns b m:=λ{b m} ⟨o,es,ep,e,d,r⟩=>⟨o,es,ep,base_of e (noA e d),d,r⟩
  have hKb:K.In (hidT s₁.heap H):=λb o e=>base_of (KX b o e) (by
   cases q:H b with
   |none=>rfl
   |some u =>
    have e':b=a:=hA b (by rw[q];simp)
    subst e'
    rw[hK (by rw[q];simp)]at e;cases e)
  have hM:Mod K mg (hidT s₁.heap H):=⟨hKb,nsK oE,⟨mb,nsK hb,pX⟩,let⟨mc,h1,h2⟩:=u5;⟨mc,nsK h1,h2⟩⟩
  have e0:Env0 P w K mg (hidT s₁.heap H) callerA [] s₁ H:=⟨rfl,hM,λb o e=>of_hidT e,Nat.le_of_eq (hidT_size _ _),trivial,λb hb=>absurd (show b∈([]:List Addr) from hb) (by simp),hok,.of_eq hg⟩
  refine codeAny_mono ((F _ hKb (nsK oE)).run callerA [] s₁ H ⟨[.ref a],[]⟩ [.ref a] [.ref a] _ _ hr e0 (pV s₁ (.ref a)) (.cons rfl .nil) (ck H hO hS)) λr s' h=>?_
  cases r with
  |error e=>exact(vo H e s' h).elim
  | ok fl =>
   cases fl with
   |next=>exact False.elim h
   |brk=>exact False.elim h
   |cont=>exact False.elim h
   | ret u =>
    obtain⟨v,H',os,bare,un,gE,r',q⟩:=h
    have q':v=.bl true:=q
    subst q'
    obtain rfl:u=Value.bool true:=r'
    refine⟨rfl,OldK.of_keep λb o e=>?_,os,bare⟩
    cases q:H b with
    |none=>exact un.keep b o e q (by intro z;exact absurd (show b∈([]:List Addr) from z) (by simp)) (by simp)
    | some u =>
     rcases hO b with z | ⟨ob,xs,z⟩
     ·rw[q]at z;cases z
     ·have z2:=un.frzs b ob _ z
      obtain⟨e1,_⟩:=hok b _ z
      obtain⟨e2,_⟩:=gE b _ z2
      rw[e]at e1;cases e1
      exact e2
 cases hk:K.lookup a with
 |some o =>
  have e:=KX a o hk
  rw[ha]at e
  cases e
  refine core (λ_=>none) (λ_=>.inl rfl) (.inr ⟨_,vs.toArray,_,hk,rfl,rfl,rfl,by rw[Qw,lenV];exact hl,by simpa using rv⟩) (λb u z=>by have z':(none:Option HO)=some u:=z;cases z') (λb z=>absurd rfl z) λz=>absurd rfl z
 | none =>
  refine core (λb=>if b=a then some (.frz {cls:=.type "list",data:=.seq vs.toArray} (.lst (ns.map V.int))) else none) (λb=>?_) (.inl (.inr ⟨{cls:=.type "list",data:=.seq vs.toArray},if_pos rfl⟩)) (λb u z=>?_) (λb z=>?_) λ_=>hk
  ·by_cases hb:b=a
   ·exact .inr ⟨_,_,if_pos hb⟩
   ·exact .inl (if_neg hb)
  ·by_cases hb:b=a
   ·have z':=(if_pos hb).symm.trans z
    cases z'
    subst hb
    exact⟨ha,by rw[Qa];exact hl,vs,_,rv,ha⟩
   ·have z':=(if_neg hb).symm.trans z
    cases z'
  ·by_cases hb:b=a
   ·exact hb
   ·exact absurd (if_neg hb) z
end L2
namespace L2
open PySem PySem.Spec PyProof.Rows
def walk_of{l:PySem.W.OpenLaw}{n k:Nat}{q:Nj}{loose:Nd}{XP:(Str→Option Value)→Heap→Prop}{YP:World→Heap→Prop}{d:DefRec}{K:Params→PySem.W.Frag}{CX:World→CXT}{sp:World→Sp}{x:Str}(hn:l.most=some n)(bQ:n≤sizeLine)(pO:d.params.defaults=[])(hr:Room k callerA)(hY:∀(w:World) (h:Heap),YP w h→(K w.params).In h)(F:∀ (w:Nl) (mg:Ng) (fa:Nc) (h:Nm),(K w.params).In h→h.Ns mainGlobals mg→mg d.name=some (.ref fa) →
   ∃fd:FuncData,(∀(s:Nh) (u:Value),BindsTo s fd ⟨[u],[]⟩ [(x,u)]) ∧
    ∀base:Heap,(K w.params).In base→base.Ns mainGlobals mg→FnOk l.prog w (K w.params) mg base (CX w) k fa fd [x] (sp w))(ck:∀(w:Nl) (H:Hp) (a:Nc) (ns:List Int),ns.length≤n→Only H→SqL (K w.params) H a (ns.map V.int)→sp w [.ref a] H (λv _=>v=.bl true) λ_ _ _=>False)(vo:∀(w:World) (H:Hp) (s:Shared) (e:Value) (s':Shared),CX w [] H s (λ_ _ _=>False) e s'→False) :
  PySem.W.WalkO q loose XP YP l.row.toRowW d [] (λf vs=>PySem.call f vs):=by
 refine Att.attach_call hn pO λw s₀ s₁ mg mb fa o pm cd doc a vs ns G Y ho hd au tX l9 gZ a9 hg=>?_
 have KX:=hY w _ Y
 obtain⟨fd,hb,hF⟩:=F w mg fa _ KX G.T.g tX
 exact law_call KX G.T.g G.T.b G.T.builtins G.T.nolimit hg l9 gZ (Zd a9 bQ) hr hF hb (λH hO hS=>ck w H a ns a9 hO hS) λH e s'=>vo w H s₁ e s'
end L2
namespace L2
open PySem PySem.Spec PyProof.Rows
def inClass(s:Stmt)(j:Nat):Stmt:=match s with
 |.ClassDef _ _ _ body _ _ _ _ _ _ _=>body.getD j (.Pass ⟨0,0,0,0⟩)
 |_=>.Pass ⟨0,0,0,0⟩
def zcr(s:Stmt):Arguments:=match s with
 |.FunctionDef _ a _ _ _ _ _ _ _ _=>a
 |_=>{posonlyargs:=[],args:=[],vararg:=none,kwonlyargs:=[],kw_defaults:=[],kwarg:=none,defaults:=[]}
def zcf(s:Stmt):List Stmt:=match s with
 |.FunctionDef _ _ b _ _ _ _ _ _ _=>b
 |_=>[]
def zag(s:Stmt):Scope:=match s with
 |.FunctionDef _ _ _ _ _ _ sc _ _ _=>sc
 |_=>{kind:=.function,names:=[],isGenerator:=false,isCoroutine:=false}
abbrev CX0:CXT:=λ_ _ _ _ _ _=>False
abbrev E0:XK:=λ_ _ _=>False
def zaw:zgq CX0 X E0:=λ_ _ _ _ _ _ _ h=>h.elim
structure Fun(K:Na)(x qual:Str)(st:Stmt)(f:Nc)(fd:Nv):Prop where
 ex:∃(oc:Value) (od:Option Addr) (kV doc pm:Value) (an:Option Addr) (cdv ct:Value) (osl:Array (Option Value)),
  fd=PySem.W.fnOf x qual (zcr st) (zcf st) (zag st) .none kV doc pm an cdv ct∧K.lookup f=some ⟨oc,od,.func fd,osl⟩∧PySem.W.codeIn K cdv qual=true
 kp:PySem.W.keepIn K (.ref f)=true
section
variable{P:Nj}{w:Nl}{K:Na}{mg:Ng}{base:Nm}
def Fun.ok{x qual:Str}{st:Stmt}{f:Nc}{fd:Nv}{N ps:Nd}{k:Nat}{sp:Sp}(F:Fun K x qual st f fd)(S:zaq N ps (zag st))(len:∀vs H Q E,sp vs H Q E→vs.length=ps.length)(ic:∀ (cdv:Value) (A:Nn) (outer:List Env) (s:Nh) (H:Hp) (vs:List V) (Q:VK) (E:XK),Room k (A.deeper (envOfC qual (zag st) s.heap.objs.size f cdv))→sp vs H Q E →
   ∃t,PSs (cxOf CX0 P w K mg base N qual (zag st) f cdv A outer s H E).nox (zcf st) t∧t {nx:=λ_ H'=>Q .non H',rt:=Q} (start N vs) H):FnOk P w K mg base CX0 (k+1) f fd ps sp:=by
 obtain⟨oc,od,kV,doc,pm,an,cdv,ct,osl,rfl,lk,au⟩:=F.ex
 refine fn_of lk au S len λA outer s H vs Q E hr ck=>?_
 obtain⟨t,h,q⟩:=ic cdv A outer s H vs Q E hr ck
 exact⟨t,h.nox,q⟩
def Fun.binds{x qual:Str}{st:Stmt}{f:Nc}{fd:Nv}{ps:Nd}(F:Fun K x qual st f fd)(h:∀(kV doc pm:Value) (an:Option Addr) (cdv ct:Value) (us:Ni),us.length=ps.length→bindArgs (PySem.W.fnOf x qual (zcr st) (zcf st) (zag st) .none kV doc pm an cdv ct) ⟨us,[]⟩=pure (ps.zip us)):Binds K fd ps []:=by
 obtain⟨oc,od,kV,doc,pm,an,cdv,ct,osl,rfl,lk,au⟩:=F.ex
 exact .all (h kV doc pm an cdv ct)
def fun_mk{x qual:Str}{st:Stmt}{f:Nc}{oc:Value}{od an:Option Addr}{osl:Array (Option Value)}{kV doc pm cdv ct:Value}(l:K.lookup f=some ⟨oc,od,.func (PySem.W.fnOf x qual (zcr st) (zcf st) (zag st) .none kV doc pm an cdv ct),osl⟩)(c:PySem.W.codeIn K cdv qual=true)(k:PySem.W.keepIn K (.ref f)=true):Fun K x qual st f (PySem.W.fnOf x qual (zcr st) (zcf st) (zag st) .none kV doc pm an cdv ct):=⟨⟨oc,od,kV,doc,pm,an,cdv,ct,osl,rfl,l,c⟩,k⟩
end
def zb9(hr:Room k A):A.units+1<cLine:=Km (Nat.add_le_add_left (by decide:1≤64) _) hr.units
def small1000(h:n≤1000):n<sizeLine:=Km h (by decide)
section
variable{X:Cx}
def pv(i:Nat)(hN:X.N[i]?=some x:=by rfl)(hv:Vis X.env.scope x:=by first | exact Or.inl rfl | exact Or.inr (Or.inl rfl) | exact Or.inr (Or.inr rfl))(hd:(x==("__debug__" : Str))=false:=by decide)(au:(x==("__classdict__" : Str))=false:=by decide):PE X (.Name x pos) (tVar i):=pe_var hN hv hd au
end
def iteF{A B:Prop}(h:B):if false=true then A else B:=by
 rw[if_neg Zg]
 exact h
def iteT{A B:Prop}(h:A):if true=true then A else B:=by
 rw[if_pos rfl]
 exact h
def ite2{c A B:Prop}[Decidable c](h1:c→A)(h2:¬c→B):if c then A else B:=by
 by_cases h:c
 ·rw [if_pos h]
  exact h1 h
 ·rw [if_neg h]
  exact h2 h
section
variable{κ:Type}[DecidableEq κ]
end
end L2
end
section
namespace L2
open PySem PySem.Spec PyProof.Rows
def clOf(sc:Scope)(env:Env):List (Str×Addr):=sc.names.foldl (λcs y=>if(y.2==NameKind.free)=true then(y.1,(env.cells.lookup y.1).getD 0)::cs else cs) []
theorem cl_fold:∀(l:List (Str×NameKind)) (cs:List (Str×Addr)),(∀y∈l,y.2=.free→∃c,env.cells.lookup y.1=some c) →
  (forIn l cs (fun (y:Str×NameKind) (r:List (Str×Addr))=>(do
   let(name,kind):=y
   if(kind==.free)=true then do
    let a ←cellOf env name
    pure (ForInStep.yield ((name,a)::r))
   else pure (ForInStep.yield r):Sem (ForInStep (List (Str×Addr))))))=(pure (l.foldl (λcs y=>if(y.2==NameKind.free)=true then(y.1,(env.cells.lookup y.1).getD 0)::cs else cs) cs):Sem (List (Str×Addr)))
 |[],cs,_=>rfl
 | (n,k)::r,cs,h=>by
  rw[List.forIn_cons]
  have ih:=λcs=>cl_fold (env:=env) r cs λy hy=>h y (Qh _ hy)
  by_cases hk:(k==NameKind.free)=true
  ·obtain ⟨c,hc⟩:=h (n,k) Qc (by simpa using hk)
   have cb:env.cells.lookup n=some c:=hc
   have e:cellOf env n=pure c:=by unfold cellOf;rw[cb]
   rw[Jg]
   dsimp only
   rw[if_pos hk,if_pos hk,e,cb]
   exact ih _
  ·rw [Jg]
   dsimp only
   rw[if_neg hk,if_neg hk]
   exact ih _
def zb2(h:∀y∈sc.names,y.2=.free→∃c,env.cells.lookup y.1=some c):closureFor sc env=pure (clOf sc env):=by
 unfold closureFor
 have e:=cl_fold (env:=env) sc.names [] h
 exact(congrArg (λt:Sem (List (Str×Addr))=>t >>= λcs=>pure cs) e).trans rfl
theorem clOf_in{env:Env}{x:Str}{c:Nc}:∀(l:List (Str×NameKind)) (cs:List (Str×Addr)),(∀y∈l,y.2=.free→∃c,env.cells.lookup y.1=some c)→(∀x c,cs.lookup x=some c→env.cells.lookup x=some c) →
  (l.foldl (λcs y=>if(y.2==NameKind.free)=true then(y.1,(env.cells.lookup y.1).getD 0)::cs else cs) cs).lookup x=some c→env.cells.lookup x=some c
 |[],cs,_,hc,e=>hc _ _ e
 | (n,k)::r,cs,h,hc,e=>by
  rw[Jg]at e
  refine clOf_in r _ (λy hy=>h y (Qh _ hy)) ?_ e
  by_cases hk:(k==NameKind.free)=true
  ·obtain ⟨a,ha⟩:=h (n,k) Qc (by simpa using hk)
   have ha':env.cells.lookup n=some a:=ha
   dsimp only
   rw[if_pos hk,ha']
   intro x c q
   rw[Wz]at q
   cases hx:x==n with
   |true =>
    rw[hx]at q
    have q':a=c:=Qp q
    have:x=n:=by simpa using hx
    rw[this,←q'];exact ha'
   |false =>
    rw[hx]at q
    exact hc x c q
  ·dsimp only
   rw[if_neg hk]
   exact hc
theorem zik{env:Env}{x:Str}:∀(l:List (Str×NameKind)) (cs:List (Str×Addr)),((x,NameKind.free)∈l∨∃c,cs.lookup x=some c) →
  ∃c,(l.foldl (λcs y=>if(y.2==NameKind.free)=true then(y.1,(env.cells.lookup y.1).getD 0)::cs else cs) cs).lookup x=some c
 |[],cs,h=>by
  rcases h with h | h
  ·exact absurd h (by simp)
  ·exact h
 | (n,k)::r,cs,h=>by
  rw[Jg]
  refine zik r _ ?_
  rcases h with h | ⟨c,h⟩
  ·rcases Qd.mp h with e | e
   ·obtain ⟨rfl,rfl⟩:=Yu e
    exact .inr ⟨(env.cells.lookup x).getD 0,by dsimp only;rw[if_pos (by rfl),List.lookup_cons];simp⟩
   ·exact .inl e
  ·refine .inr ?_
   dsimp only
   by_cases hk:(k==NameKind.free)=true
   ·rw [if_pos hk,Wz]
    cases hx:x==n with
    |true=>exact⟨_,rfl⟩
    |false=>exact⟨c,h⟩
   ·rw[if_neg hk];exact⟨c,h⟩
structure Blk(X:Cx)(sc:Scope)(M:Nd)(ix:Nt):Prop where
 kind:sc.kind=.function
 nocell:∀y∈sc.names,y.2≠.cell
 names:∀y∈sc.names,y.2=.local→sc.names.lookup y.1=some .local
 frees:∀y∈sc.names,y.2=.free→X.env.scope.names.lookup y.1=some .cell∨X.env.scope.names.lookup y.1=some .free
 len:ix.length=M.length
 nd:M.Nodup
 caps:∀(j i:Nat) (x:Str),M[j]?=some x→ix[j]?=some (some i)→X.N[i]?=some x∧sc.names.lookup x=some .free
def inner(ix:Nt)(σ:St):St:=ix.map λo=>match o with | none=>none | some i=>(σ[i]?).join
def zhy{sc:Scope}{env:Env}{x:Str}{oz:Option Str}(hn:∀ y∈sc.names,y.2=.cell→oz=some y.1)(h:(relabel sc env).names.lookup x=some .cell∨(relabel sc env).names.lookup x=some .free):(x,NameKind.free)∈sc.names∨oz=some x:=by
 have key:∀k',k'=.cell∨k'=.free→(x,k')∈(relabel sc env).names→(x,NameKind.free)∈sc.names∨oz=some x:=λk' gW hm=>by
  obtain⟨⟨n,k⟩,hy,e⟩:=Qk.mp hm
  dsimp only at e
  by_cases hb:(k==NameKind.free&&env.scope.kind==.function&&env.kindOf n==some .cell)=true
  ·rw [if_pos hb] at e
   obtain⟨rfl,_⟩:=Yu e
   have hk:k=.free:=by
    have:=(Bool.and_eq_true_iff.mp (Bool.and_eq_true_iff.mp hb).1).1
    simpa using this
   rw[hk]at hy
   exact .inl hy
  ·rw [if_neg hb] at e
   obtain⟨rfl,rfl⟩:=Yu e
   rcases gW with q | q
   ·exact .inr (hn _ hy q)
   ·rw[q]at hy;exact .inl hy
 rcases h with h | h
 ·exact key _ (.inl rfl) (Wn h)
 ·exact key _ (.inr rfl) (Wn h)
def ocl(oz:Option Str)(C:Nc)(cl:List (Str×Addr)):List (Str×Addr):=match oz with
 |none=>cl
 |some z=>(z,C+1)::cl
def och(oz:Option Str)(h:Nm):Heap:=match oz with
 |none=>h
 |some _=>h.push {cls:=.type "cell",data:=.cell none}
structure BlkG(X:Cx)(sc:Scope)(oz:Option Str)(M:Nd)(ix:Nt):Prop where
 kind:sc.kind=.function
 own:∀y∈sc.names,y.2=.cell→oz=some y.1
 one:∀n cl,cellsFrom (n+1) sc.names cl=ocl oz n cl
 psh:∀h,pushCells h sc.names=och oz h
 zc:∀z,oz=some z→sc.names.lookup z=some .cell
 names:∀y∈sc.names,y.2=.local→sc.names.lookup y.1=some .local
 frees:∀y∈sc.names,y.2=.free→X.env.scope.names.lookup y.1=some .cell∨X.env.scope.names.lookup y.1=some .free
 len:ix.length=M.length
 nd:M.Nodup
 caps:∀(j i:Nat) (x:Str),M[j]?=some x→ix[j]?=some (some i)→X.N[i]?=some x∧sc.names.lookup x=some .free
theorem zio:∀{l:List (Str×NameKind)} (_:∀y∈l,y.2≠.cell),(∀n cl,cellsFrom n l cl=cl)∧∀h,pushCells h l=h
 |[],_=>⟨λ_ _=>rfl,λ_=>rfl⟩
 |(a,k)::t,h=>by
  obtain⟨h1,h2⟩:=zio λy hy=>h y (Qh _ hy)
  have hk:(k==NameKind.cell)=false:=beq_eq_false_iff_ne.mpr (h (a,k) Qc)
  exact⟨λn cl=>by unfold cellsFrom;rw[hk];exact h1 n cl,λg=>by unfold pushCells;rw[hk];exact h2 g⟩
def Blk.g{X:Cx}{sc:Scope}{M:Nd}{ix:Nt}(B:Blk X sc M ix):BlkG X sc none M ix :=
 ⟨B.kind,λy hy h=>absurd h (B.nocell y hy),λn cl=>(zio B.nocell).1 _ cl,(zio B.nocell).2,λ_ h=>(by cases h),B.names,B.frees,B.len,B.nd,B.caps⟩
def zeh(X:Cx)(sc:Scope)(oz:Option Str)(M:Nd)(C:Nc)(a0:Nf)(ex:Nk)(s:Nh)(H:Hp):Cx :=
 {X with N:=M,s₀:=s,H₀:=H,env:=compEnvC sc (ocl oz C (clOf sc X.env)) C X.env,outer:=X.stack,ex:=ex,fn:=λx=>oz==some x,pn:=X.pn++a0,xe:=λ_ _=>False}
abbrev zbx(X:Cx)(sc:Scope)(M:Nd)(C:Nc)(a0:Nf)(ex:Nk)(s:Nh)(H:Hp):Cx:=zeh X sc none M C a0 ex s H
section
variable{M:Model}{A:Nn}{E:Nb}{s:Nh}
def newEnv_own{sc:Scope}{g:Nc}{cl:List (Str×Addr)}{q:Str}{env:Env}{oz:Option Str}{Q:Env→Shared→Prop}(one:∀n cl,cellsFrom (n+1) sc.names cl=ocl oz n cl)(psh:∀h,pushCells h sc.names=och oz h)(hQ:Q (newEnv sc s.heap.objs.size g (ocl oz s.heap.objs.size cl) q none .none (some env) builtinsNs) {s with heap:=och oz (s.heap.push {cls:=.type "dict",data:=.dict #[]})}) :
  wpAny M A (newFunctionEnv sc g cl [] q none .none (some env)) Q E s:=by
 simp only[newFunctionEnv,Option.isSome_some,if_true]
 refine wpAny_bind (wpAny_alloc ?_)
 refine wpAny_bind (wpAny_layCells _ (λname kind cells=>by cases hkc:kind==NameKind.cell<;>simp[hkc]) _ _ _ _ ?_)
 rw[psh,show({s with heap:=s.heap.push {cls:=.type "dict",data:=.dict #[]}}:Shared).heap.objs.size=s.heap.objs.size+1 from Wv ..,one]
 exact wpAny_pure hQ
end
section
variable{X:Cx}{sc:Scope}{oz:Option Str}{M:Nd}{ix:Nt}{a0:Nf}{σ:St}{H:Hp}{s:Nh}
def BlkG.clos(B:BlkG X sc oz M ix)(I:Inv X a0 σ H s):∀y∈sc.names,y.2=.free→∃c,X.env.cells.lookup y.1=some c:=λy hy hf =>
 I.ok.has y.1 (by rcases B.frees y hy hf with z | z;exact .inl z;exact .inr z)
def Blk.clos(B:Blk X sc M ix)(I:Inv X a0 σ H s):∀y∈sc.names,y.2=.free→∃c,X.env.cells.lookup y.1=some c:=B.g.clos I
def inv_blkG{ex:Nk}{s':Nh}{C:Nc}(B:BlkG X sc oz M ix)(I:Inv X a0 σ H s)(hx:∀ b∈ex,FpOk X a0 H b)(aa:∀ b∈ex,b < s.heap.objs.size)(hC:C=s.heap.objs.size)(hn:s'.heap.Ns C λ_=>none)(hz:∀z,oz=some z→s'.heap.IsCell (C+1) none)(hk:∀b o,s.heap.get? b=some o→s'.heap.get? b=some o)(hg:s'.gens=s.gens)(ho:s'.os=s.os):Inv (zeh X sc oz M C a0 ex s H) [] (inner ix σ) H s':=by
 have cls:=B.clos I
 have cin:∀x c,(clOf sc X.env).lookup x=some c→X.env.cells.lookup x=some c:=λx c e=>clOf_in sc.names [] cls (λ_ _ z=>by cases z) e
 have cne:∀x c,(clOf sc X.env).lookup x=some c→c<s.heap.objs.size:=λx c e=>by
  obtain⟨v,q⟩:=I.cell x c (cin x c e)
  exact q.lt
 have zne:∀c:Addr,c<s.heap.objs.size→c≠C+1:=λc h e=>by
  rw[e,hC]at h;exact absurd (Ut h) (Yy _)
 have zin:∀x c,(ocl oz C (clOf sc X.env)).lookup x=some c→(oz=some x∧c=C+1)∨oz≠some x∧(clOf sc X.env).lookup x=some c:=λx c e=>by
  cases oz with
  |none=>exact .inr ⟨λz=>(by cases z),e⟩
  |some zn =>
   have e:((zn,C+1)::clOf sc X.env).lookup x=some c:=e
   rw[Wz]at e
   cases q:x==zn with
   |true=>rw[q]at e;exact .inl ⟨by rw[eq_of_beq q],(Qp e).symm⟩
   |false=>rw[q]at e;exact .inr ⟨λz=>(by rw[Qp z,beq_self_eq_true]at q;cases q),e⟩
 have zout:∀x c,oz≠some x→(clOf sc X.env).lookup x=some c→(ocl oz C (clOf sc X.env)).lookup x=some c:=λx c hx e=>by
  cases oz with
  |none=>exact e
  |some zn =>
   show((zn,C+1)::clOf sc X.env).lookup x=_
   rw[Wz,beq_eq_false_iff_ne.mpr λz=>hx (by rw[z])];exact e
 refine⟨⟨I.ok.mod,?_,I.ok.glob,I.ok.blt,?_,λx y c h1 h2=>?_,λx hx=>?_,λx c h e=>?_,I.ok.hd,I.ok.frames,.inl rfl,λb hb=>?_,I.bs,?_,λb o e hb=>?_,λb hb=>?_,I.stack,I.stkFree⟩,
  ?_,?_,Un.kept hk,⟨_,hn,λj x v e1 e2 e3=>?_⟩,λx c e=>?_,?_,λx c e=>?_,λp hp=>?_,I.hok.kept hk,?_⟩
 ·show (relabel sc X.env).kind=.function
  exact B.kind
 ·show s.heap.objs.size≤C
  rw[hC];exact Qf _
 ·rcases zin x c h1 with ⟨a,b⟩ | ⟨_,a⟩ <;> rcases zin y c h2 with ⟨a',b'⟩ | ⟨_,a'⟩
  ·exact Qp (a.symm.trans a')
  ·exact absurd b (zne c (cne y c a'))
  ·exact absurd b' (zne c (cne x c a))
  ·exact I.ok.inj x y c (cin x c a) (cin y c a')
 ·by_cases q:oz=some x
  ·exact⟨C+1,by show(ocl oz C (clOf sc X.env)).lookup x=_;rw[q];show((x,C+1)::clOf sc X.env).lookup x=_;rw[Wz,beq_self_eq_true]⟩
  ·obtain ⟨c,hc⟩:=zik (env:=X.env) sc.names [] (.inl ((zhy B.own hx).resolve_right q))
   exact⟨c,zout x c q hc⟩
 ·have h':oz=some x:=by
   have:(oz==some x)=true:=h
   exact eq_of_beq this
  rcases zin x c e with⟨_,b⟩ | ⟨b,_⟩
  ·show s.heap.objs.size≤c
   rw[b,hC];exact Jk _
  ·exact absurd h' b
 ·have:=aa b hb
  refine⟨λz=>?_,λx c e=>(zin x c e).elim (λq h=>zne b this (h.symm.trans q.2)) λe=>(hx b hb).2.2.2.2.1 x c (cin x c e.2)⟩
  have z':b=C:=z
  rw[z',hC]at this
  exact Yy _ this
 ·exact Zd I.ok.bsz I.sz
 ·rcases (hx b hb).2.2.2.1 with z | z
  ·exact I.ok.noex b o e z
  ·have h1:b < X.base.objs.size:=Qu e
   have h2:=I.ok.bsz
   have h3:X.s₀.heap.objs.size≤b:=z
   exact absurd (Zw h1 (Zd h2 h3)) (Yy _)
 ·intro z
  rcases Qd.mp (I.stkSub b z) with q | q
  ·exact(hx b hb).2.1 q
  ·exact(hx b hb).2.2.1 q
 ·exact ho
 ·rw[hg];exact I.bare
 ·have hj:∃ i,ix[j]?=some (some i)∧σ[i]?=some (some v):=by
   unfold inner at e2
   rw[Qz]at e2
   cases q:ix[j]? with
   |none=>rw[q]at e2;cases e2
   | some o =>
    rw[q]at e2
    cases o with
    |none=>cases e2
    |some i =>
     have lP:(σ[i]?).join=some v:=Qp e2
     cases q2:σ[i]? with
     |none=>rw[q2]at lP;cases lP
     |some w=>rw[q2]at lP;exact⟨i,rfl,by rw[q2];exact congrArg some lP⟩
  obtain⟨i,hi,hσ⟩:=hj
  obtain⟨hN,bH⟩:=B.caps j i x e1 hi
  have hm:=Wn bH
  have eF:=B.frees (x,.free) hm rfl
  obtain⟨m,_,hl⟩:=I.loc
  obtain⟨u,ru,lk⟩:=hl i x v hN hσ (by rcases eF with z | z;exact .inr (.inl z);exact .inr (.inr z))
  refine⟨u,ru,.inr ?_⟩
  obtain⟨c,hc⟩:=zik (env:=X.env) sc.names [] (.inl hm)
  have cb:=cin x c hc
  have lk2:s.heap.IsCell c (some u):=by
   rcases lk with⟨k,_⟩ | ⟨_,c',e',z⟩
   ·have k':X.env.scope.names.lookup x=some .local:=k
    rcases eF with q | q<;>(rw[show X.env.scope.names.lookup x=_ from q]at k';cases k')
   ·rw[cb]at e';cases e';exact z
  refine⟨?_,c,zout x c (λq=>by rw[B.zc x q]at bH;cases bH) hc,?_⟩
  ·have e3':Vis (relabel sc X.env) x:=e3
   rcases e3' with z | z | z
   ·exfalso
    have:=@lookup_relabel_local
    have aK:∀(l:List (Str×NameKind)),l.lookup x=some .free→(l.map λ(y:Str×NameKind)=>match y with | (n,k)=>if(k==NameKind.free&&X.env.scope.kind==.function&&X.env.kindOf n==some .cell) then(n,NameKind.cell) else(n,k)).lookup x≠some .local:=by
     intro l
     induction l with
     |nil=>intro h;cases h
     | cons y r ih =>
      obtain⟨n,k⟩:=y
      intro h
      rw[Wz]at h
      rw[Qm]
      dsimp only
      by_cases hb:(k==NameKind.free&&X.env.scope.kind==.function&&X.env.kindOf n==some .cell)=true
      ·rw [if_pos hb,Wz]
       cases hx:x==n with
       |true=>intro q;cases q
       |false=>rw[hx]at h;exact ih h
      ·rw [if_neg hb,Wz]
       cases hx:x==n with
       |true =>
        rw[hx]at h
        intro q
        have h':k=NameKind.free:=Qp h
        have q':k=NameKind.local:=Qp q
        rw[h']at q';cases q'
       |false=>rw[hx]at h;exact ih h
    exact aK sc.names bH z
   ·exact .inl z
   ·exact .inr z
  ·obtain ⟨o,dG,iI⟩:=lk2
   exact⟨o,hk c o dG,iI⟩
 ·rcases zin x c e with ⟨a,b⟩ | ⟨_,b⟩
  ·rw[b];exact⟨none,hz x a⟩
  ·obtain ⟨v,o,dG,iI⟩:=I.cell x c (cin x c b)
   exact⟨v,o,hk c o dG,iI⟩
 ·show H C=none
  rw[hC]
  exact I.hok.fresh (Qf _)
 ·rcases zin x c e with ⟨_,b⟩ | ⟨_,b⟩
  ·rw[b];exact I.hok.fresh (by rw[hC];exact Jk _)
  ·exact I.freeC x c (cin x c b)
 ·have aW:p∈X.pn++a0:=by
   have:p∈(X.pn++a0)++[]:=hp
   rwa[Zv]at this
  obtain⟨e,n,ne,nf,d⟩:=I.pin p aW
  refine⟨hk _ _ e,n,?_,λz=>?_,d⟩
  ·intro z
   have z':p.1=C:=z
   have:=Qu e
   rw[z',hC]at this
   exact Yy _ this
  ·rcases Qd.mp (I.stkSub _ z) with q | q
   ·exact ne q
   ·exact nf q
 ·unfold inner
  rw[Qa]
  exact B.len
def inv_blk(B:Blk X sc M ix)(I:Inv X a0 σ H s)(hx:∀b∈ex,FpOk X a0 H b)(aa:∀b∈ex,b<s.heap.objs.size)(hC:C=s.heap.objs.size)(hn:s'.heap.Ns C λ_=>none)(hk:∀b o,s.heap.get? b=some o→s'.heap.get? b=some o)(hg:s'.gens=s.gens)(ho:s'.os=s.os):Inv (zbx X sc M C a0 ex s H) [] (inner ix σ) H s':=inv_blkG B.g I hx aa hC hn (λ_ h=>by cases h) hk hg ho
def PTs(X:Cx)(ifs:Nq)(t:TT):Prop :=
 ∀(a0:Nf) (s:Nh) (σ:St) (H:Hp) (Q:Bool→Hp→Prop),Inv X a0 σ H s→t σ H Q →
  wpAny (model X.prog X.w) X.A (forIn ifs true λc r=>if r=true then do let ok ←isTrue c X.env (eval c X.env);pure (ForInStep.yield ok) else pure (ForInStep.yield r)) (TP X a0 σ Q) X.xe s
def tAll:TT:=λ_ H Q=>Q true H
def zci:PTs X [] tAll:=λ_ _ _ H _ I h=>wpAny_tests_nil ⟨H,I,h⟩
def zes(h:PT X c t):PTs X [c] t:=λa0 s σ H Q I q=>wpAny_tests_one (h a0 s σ H Q I q)
def compLoop_any{prog:Nj}{w:Nl}{A:Nn}{s:Nh}{elt target iter:Expr}{ifs:Nq}{scope:Scope}{pos:Pos}{it ad:Value}{env:Env}{R:Nw}(I:Nat→Shared→Prop)(turn:∀ n s,I n s→wpAny (model prog w) A (pyNext it) (fun r s₁=>match r with
   |none=>R (.ok .next) s₁
   | some v=>wpAny (model prog w) A (letOwnedTupleGo target it v) (fun _ s₁'=>wpAny (model prog w) A (assign target env v) (fun _ s₂ =>
     wpAny (model prog w) A (forIn ifs true λc r=>if r=true then do let ok ←isTrue c env (eval c env);pure (ForInStep.yield ok) else pure (ForInStep.yield r)) (λok s₃ =>
      if ok=true then wpAny (model prog w) A (eval elt env) (λx s₄ =>
       wpAny (model prog w) A (call (.builtin "list.append") [ad,x]) (λ_ s₅=>∃m,m<n∧I m s₅) (λ_ _=>False) s₄) (λ_ _=>False) s₃
      else ∃m,m<n∧I m s₃) (λ_ _=>False) s₂) (λ_ _=>False) s₁') (λ_ _=>False) s₁) (λ_ _=>False) s)(n:Nat)(h:I n s):codeAny (model prog w) A (.compLoop (.ListComp elt [⟨target,iter,ifs,0⟩] scope pos) 0 it ad env) R s:=by
 refine codeAny_loop rfl I (λn s hI=>?_) n h
 show wpAny _ A ((compTurn (.ListComp elt [⟨target,iter,ifs,0⟩] scope pos) 0 it ad env).onRaise (λx=>do noteFrame x env;theTreesLotGoes x)) _ _ s
 refine wpAny_noted ?_
 rw[compTurn_list]
 refine wpAny_bind (wpAny_standAt (wpAny_bind (wpAny_mono (turn n s hI) (λr s₁ h₁=>?_) λ_ _ h'=>h'.elim)))
 cases r with
 |none=>exact wpAny_pure h₁
 | some v =>
  refine wpAny_bind (wpAny_mono h₁ (λ_ s₁' h₁'=>?_) λ_ _ h'=>h'.elim)
  refine wpAny_bind (wpAny_mono h₁' (λ_ s₂ h₂=>wpAny_bind (wpAny_mono h₂ (λok s₃ h₃=>?_) λ_ _ h'=>h'.elim)) λ_ _ h'=>h'.elim)
  cases ok with
  |false=>exact wpAny_pure ⟨rfl,h₃⟩
  |true =>
   exact wpAny_bind (wpAny_bind (wpAny_mono h₃ (λx s₄ h₄=>wpAny_bind (wpAny_mono h₄ (λ_ s₅ h₅=>wpAny_pure (wpAny_pure ⟨rfl,h₅⟩)) λ_ _ h'=>h'.elim)) λ_ _ h'=>h'.elim))
def rLC(g:TG)(tc:TT)(te:TE)(Q:VK)(J:It)(τ:St)(H1:Hp):Prop:=∃W:Nat→Nat→List V→St→Hp→Prop,(∃m,W 0 m [] τ H1)∧∀i m ys τ H,W i m ys τ H →
 (J.stop i H∧∀D,H D=none→Q (.ref D) (upd H D (.lst ys))) ∨
 (J.go i H∧ys.length<sizeLine∧∀x H',J.yld i H x H'→g x τ H' λ τ2 H2=>tc τ2 H2 λb H3=>if b=true then te τ2 H3 λy H4=>∃m',m'<m∧W (i+1) m' (ys++[y]) τ2 H4 else ∃m',m'<m∧W (i+1) m' ys τ2 H3)
def tLC(ix:Nt)(wi:TI)(g:TG)(tc:TT)(te:TE):TE:=λ σ H Q=>wi σ H λJ H1=>rLC g tc te Q J (inner ix σ) H1
def lc_blockG{tg elt iter:Expr}{ifs:Nq}{pos:Pos}{g:TG}{tc:TT}{te:TE}{fp:Nk}{it:Nc}{tn:Nat→Heap→Prop}{J:It}{Q:VK}{RR:Value→Addr→Result→Shared→Prop}{E:Nb}(B:BlkG X sc oz M ix)(hc:X.calm=true)(hg:∀C ex s H,PG (zeh X sc oz M C a0 ex s H) tg g)(ht:∀C ex s H,PTs (zeh X sc oz M C a0 ex s H) ifs tc)(he:∀C ex s H,PE (zeh X sc oz M C a0 ex s H) elt te)(I:Inv X a0 σ H s)(T:Turn X.prog X.w X.K tg J fp it tn)(h0:tn 0 s.heap)(hf:∀b∈fp,FpOk X a0 H b)(q:rLC g tc te Q J (inner ix σ) H)(lN:∀D C m ys H' s',Inv X a0 σ (upd H' D (.lst ys)) s'→Q (.ref D) (upd H' D (.lst ys))→s'.heap.Ns C m→upd H' D (.lst ys) C=none→s.heap.objs.size<C→RR (.ref D) C (.ok .next) s') :
  wpAny (model X.prog X.w) X.A (newList []) (λad s₃=>wpAny (model X.prog X.w) X.A (newFunctionEnv sc X.env.globals (clOf sc X.env) [] X.env.qual none .none (some X.env)) (λcenv s₄ =>
   codeAny (model X.prog X.w) X.A (.compStart (.ListComp elt [⟨tg,iter,ifs,0⟩] sc pos) 0 (.ref it) ad {cenv with scope:=relabel sc X.env}) (RR ad cenv.locals) s₄) E s₃) E s:=by
 refine wpAny_newObj_type (newEnv_own B.one B.psh ?_)
 dsimp only
 generalize hD:s.heap.objs.size=D
 generalize aU:s.heap.push {cls:=.type "list",dict:=none,data:=.seq ([]:List Value).toArray}=g2
 generalize mx:och oz (g2.push {cls:=.type "dict",data:=.dict #[]})=h₁
 have kp:∀(q:Nm) (b:Nc) (o:Obj),q.get? b=some o→(och oz q).get? b=some o:=λq b o e=>by
  cases oz with
  |none=>exact e
  |some _=>exact Qj _ e
 have hns₁:h₁.Ns g2.objs.size (λ_=>none):=mx▸(Heap.Ns.new g2 (.type "dict")).keeps λb o e=>kp _ b o e
 have hz₁:∀z,oz=some z→h₁.IsCell (g2.objs.size+1) none:=λz ez=>by
  have e:(g2.push {cls:=.type "dict",data:=.dict #[]}).objs.size=g2.objs.size+1:=Wv ..
  rw[←mx,←e,ez]
  exact⟨_,Za _ rfl,rfl⟩
 have hC:g2.objs.size=D+1:=by rw[←aU,Wv,hD]
 have k2:∀b o,s.heap.get? b=some o→g2.get? b=some o:=λb o e=>by rw[←aU];exact Qj _ e
 have I3:Inv X a0 σ H {s with heap:=g2}:=I.kept (t':=s.toks) k2
 have HD:H D=none:=I.hok.fresh (by rw[hD];exact Qf _)
 have fD:FpOk X a0 H D:=I.fpOk (by rw[hD];exact Qf _) HD
 have D2:g2.get? D=some {cls:=.type "list",dict:=none,data:=.seq ([]:List Value).toArray}:=by rw[←aU,←hD];exact Za _ rfl
 have k1:∀b o,g2.get? b=some o→h₁.get? b=some o:=λb o e=>mx▸kp _ b o (Qj _ e)
 have fpx:∀b∈D::fp,FpOk X a0 H b:=λb hb=>by
  rcases Qd.mp hb with e | e
  ·rw[e];exact fD
  ·exact hf b e
 have fplt:∀b∈D::fp,b<g2.objs.size:=λb hb=>by
  rcases Qd.mp hb with e | e
  ·rw[e,hC];exact Wi _
  ·obtain ⟨o,q,_⟩:=T.obj _ _ h0 b e
   exact Qu (k2 b o q)
 have fpD:D∉fp:=λhm=>by
  obtain⟨o,q,_⟩:=T.obj _ _ h0 D hm
  have:=Qu q
  rw[hD]at this
  exact Yy _ this
 generalize aj:zeh X sc oz M g2.objs.size a0 (D::fp) {s with heap:=g2} H=Y
 have IY:Inv Y [] (inner ix σ) H {s with heap:=h₁,toks:=s.toks+([]:List (Str×Value)).length}:=by
  rw[←aj]
  exact inv_blkG B I3 fpx fplt rfl hns₁ hz₁ k1 rfl rfl
 have Yg:=aj▸hg g2.objs.size (D::fp) {s with heap:=g2} H
 have Yt:=aj▸ht g2.objs.size (D::fp) {s with heap:=g2} H
 have Ye:=aj▸he g2.objs.size (D::fp) {s with heap:=g2} H
 have eP:Y.prog=X.prog:=by rw[←aj];rfl
 have eW:Y.w=X.w:=by rw[←aj];rfl
 have eK:Y.K=X.K:=by rw[←aj];rfl
 have eA:Y.A=X.A:=by rw[←aj];rfl
 have eC:Y.calm=true:=by rw[←aj];exact hc
 have eE:Y.env=compEnvC sc (ocl oz g2.objs.size (clOf sc X.env)) g2.objs.size X.env:=by rw[←aj];rfl
 have eX:Y.xe=λ_ _=>False:=by rw[←aj];rfl
 have eEx:Y.ex=D::fp:=by rw[←aj];rfl
 have eFs:Y.fs=frs X.stack:=by rw[←aj];rfl
 have ePn:Y.pn=X.pn++a0:=by rw[←aj];rfl
 have eL:Y.env.locals=g2.objs.size:=by rw[eE];rfl
 have qp:Y.H₀=H:=by rw[←aj];rfl
 have kh:Y.s₀={s with heap:=g2}:=by rw[←aj];rfl
 have fY:∀{H':Hp} {pl:Nf} {b:Nc},b∈D::fp→H' b=none→(∀p∈pl,p.1≠b)→FpOk Y pl H' b:=λ{H' pl b} hb hn hp=>by
  obtain⟨f0,f1,f2,f3,f4,f5⟩:=fpx b hb
  refine⟨hn,?_,?_,.inl (by rw[eEx];exact hb),IY.ok.exf b (by rw[eEx];exact hb) |>.2,λp aW=>?_⟩
  ·rw[eL];exact Ze (fplt b hb)
  ·rw [eFs]
   intro z
   rcases Qd.mp (I3.stkSub b z) with q | q
   ·exact f1 q
   ·exact f2 q
  ·rw [ePn] at aW
   rcases Qe.mp aW with z | z
   ·exact f5 p z
   ·exact hp p z
 obtain⟨W,⟨m0,w0⟩,turn⟩:=q
 have loop:∀ sN:Shared,sN={ s with heap:=h₁,toks:=s.toks+([]:List (Str×Value)).length } →
   codeAny (model X.prog X.w) X.A (.compLoop (.ListComp elt [⟨tg,iter,ifs,0⟩] sc pos) 0 (.ref it) (.ref D) (compEnvC sc (ocl oz g2.objs.size (clOf sc X.env)) g2.objs.size X.env)) (RR (.ref D) g2.objs.size) sN:=by
  rintro sN rfl
  refine compLoop_any (λn s'=>Ex6 λi τ H' ys a7 k=>Aj7 (Inv Y [] τ H' s') (tn i s'.heap) (∀b∈D::fp,H' b=none) (s'.heap.get? D=some {cls:=.type "list",data:=.seq (a7:Ni).toArray k}) (Vals ys a7) (ys.length≤sizeLine) (W i n ys τ H')) ?_ m0
   ⟨0,inner ix σ,H,[],[],0,IY,T.keep _ _ _ h0 λb _ o e=>k1 b o (k2 b o e),λb hb=>(fpx b hb).1,k1 _ _ D2,.nil,Zi _,w0⟩
  rintro n s5 ⟨i,τ,H5,ys,a7,k,I5,t5,n5,d5,v5,z5,w5⟩
  have oD:∀{s':Nh} {its':Ni} {k':Nat},s'.heap.get? D=some {cls:=.type "list",data:=.seq its'.toArray k'}→∀b∈[D],∃o,s'.heap.get? b=some o∧∀v,o.data≠.cell v:=λ{s' its' k'} e b hb=>by
   rw[Qb.mp hb]
   exact⟨_,e,λv z=>by cases z⟩
  have fI:Inv Y ([]++za7 [D] s5.heap) τ H5 s5:=I5.pinned (λb hb=>fY (by rw[Qb.mp hb];exact Qc) (n5 b (by rw[Qb.mp hb];exact Qc)) (by simp)) (oD d5)
  have pD:∀p∈za7 [D] s5.heap,p.1=D∧p.2={cls:=.type "list",data:=.seq a7.toArray k}:=λp hp=>by
   obtain⟨e1,e2⟩:=zcu hp
   have cO:p.1=D:=Qb.mp e1
   rw[cO,d5]at e2
   exact⟨cO,(Qp e2).symm⟩
  have fN:∀{H':Hp},(∀b∈fp,H' b=none)→∀b∈fp,FpOk Y ([]++za7 [D] s5.heap) H' b:=λhn b hb=>fY (Qh _ hb) (hn b hb) λp hp z=>by
   rw[Wt]at hp
   rw[(pD p hp).1]at z
   exact fpD (z▸hb)
  rcases turn i n ys τ H5 w5 with⟨stop,qn⟩ | ⟨go,zl,step⟩
  ·have h6:=T.done Y eP eW eK eC i _ s5 τ H5 (fun _ _=>False) fI (fN fun b hb=>n5 b (Qh _ hb)) t5 stop
   rw[eA]at h6
   refine thn h6 λr s6 ⟨hr,I6⟩=>?_
   subst hr
   have d6:s6.heap.get? D=some {cls:=.type "list",data:=.seq a7.toArray k}:=by
    have hp:=za1 (fp:=[D]) (Qb.mpr rfl) d5
    exact(I6.pin (D,_) (Qi _ hp)).1
   have H5D:H5 D=none:=n5 D Qc
   obtain⟨mL,nL,_⟩:=I6.loc
   rw[eL]at nL
   have CD:g2.objs.size≠D:=by rw[hC];exact Xd _
   refine lN D _ mL ys H5 s6 ?_ (qn D H5D) nL ?_ (by rw[hC,hD];exact Wi _)
   ·have u6:=I6.base
    rw[eFs,eEx,qp,kh]at u6
    refine I3.call' (ch:=D::fp) (I6.os.trans (by rw[kh])) ⟨u6.keep,u6.slot,λb o e n hx=>?_,u6.there,λb xs e=>?_,λb o u e=>?_,λb ps e=>?_⟩ ?_ I6.bare λb hb=>?_
    ·rw[zad (λz=>hx (by rw[z];exact Qc))];exact u6.free b o e n hx
    ·rw[zad (zaa e HD)];exact u6.tups b xs e
    ·rw[zad (zaa e HD)];exact u6.frzs b o u e
    ·rw[zad (zaa e HD)];exact u6.tbls b ps e
    ·have jA:=I6.hok
     rw[eP,eW]at jA
     intro b u e
     by_cases hb:b=D
     ·subst hb
      rw[zab]at e
      cases e
      exact⟨z5,a7,k,v5,d6⟩
     ·rw [zad hb] at e
      exact(jA b u e).stay (λc v _ q=>q) (λc q=>by rw[zad (zaa q H5D)];exact q) λc xs q=>by rw[zad (zaa q H5D)];exact q
    ·obtain ⟨f0,f1,f2,f3,f4,f5⟩:=fpx b hb
     exact⟨f3,f1,f4,f5⟩
   ·rw [zad CD]
    have:=I6.free
    rw[eL]at this
    exact this
  ·have h6:=T.item Y eP eW eK eC i _ s5 τ H5 (fun _ _=>False) fI (fN fun b hb=>n5 b (Qh _ hb)) t5 go
   rw[eA]at h6
   refine thn h6 λr s6 ⟨u,hr,h7⟩=>?_
   subst hr
   refine thn h7 λ_ s7 ⟨x,H7,I7,r7,y7,t7,n7⟩=>?_
   have lT:=I7.pinned (fN n7) (T.obj _ _ t7)
   have h8:=Yg _ s7 τ H7 x u _ lT r7 (step x H7 y7)
   rw[eP,eW,eA,eX,eE]at h8
   refine thn h8 λ_ s8 ⟨τ8,H8,I8,q8⟩=>?_
   have h9:=Yt _ s8 τ8 H8 _ I8 q8
   rw[eP,eW,eA,eX,eE]at h9
   refine thn h9 λok s9 ⟨H9,I9,q9⟩=>?_
   have again:∀{τ':St} {H':Hp} {s':Nh},Inv Y (([]++za7 [D] s5.heap)++za7 fp s7.heap) τ' H' s'→s'.heap.get? D=some {cls:=.type "list",data:=.seq a7.toArray k}∧H' D=none∧tn (i+1) s'.heap∧∀b∈fp,H' b=none:=λ{τ' H' s'} I'=>by
    have pp:∀{b:Nc} {o:Obj},b∈fp→s7.heap.get? b=some o→s'.heap.get? b=some o∧H' b=none:=λ{b o} hb e =>
     let z:=I'.pin (b,o) (Qi _ (Qi _ (za1 hb e)))
     ⟨z.1,z.2.1⟩
    have hp:=za1 (fp:=[D]) (Qb.mpr rfl) d5
    have z:=I'.pin (D,_) (Qi _ (Ql _ hp))
    refine⟨z.1,z.2.1,T.keep _ _ _ t7 λb hb o e=>(pp hb e).1,λb hb=>?_⟩
    obtain⟨o,e,_⟩:=T.obj _ _ t7 b hb
    exact(pp hb e).2
   have drop:∀{pl:Nf} {τ':St} {H':Hp} {s':Nh},Inv Y pl τ' H' s'→Inv Y [] τ' H' s':=λI'=>I'.pins_of (by simp)
   cases ok with
   |false =>
    rw[if_neg (by decide)]at q9 ⊢
    obtain⟨m',hm,w9⟩:=q9
    obtain⟨d9,H9D,t9,n9⟩:=again I9
    exact⟨m',hm,i+1,τ8,H9,ys,a7,k,drop I9,t9,λb hb=>(Qd.mp hb).elim (λe=>e▸H9D) (n9 b),d9,v5,z5,w9⟩
   | true =>
    rw[if_pos rfl]at q9 ⊢
    have iR:=Ye _ s9 τ8 H9 _ I9 q9
    rw[eP,eW,eA,eX,eE]at iR
    refine thn iR λy dv ⟨yv,cK,ij,lU,m',hm,rM⟩=>?_
    obtain⟨lR,H10D,nr,rW⟩:=again ij
    refine call_meets F.slot_list_append ⟨_,lR,rfl⟩ F.entry_list_append (F.args_list_append_2 _ _) (PySem.list_append D a7.toArray k y (by rw[Qw,←v5.length];assumption)) ⟨lR,?_⟩
    have q:=PySem.IsL.update lR (λa=>a.push y)
    have vD:(a7.toArray.push y)=(a7++[y]).toArray:=by simp
    rw[vD]at q
    have kk:∀b o,b≠D→dv.heap.get? b=some o→(dv.heap.update D (Obj.mapSeq λa=>a.push y)).get? b=some o:=λb o hb e=>(Ug dv.heap (Obj.mapSeq λa=>a.push y) (Zc hb)).trans e
    obtain⟨g0,g1,g2',g3,g4,g5⟩:=fY (pl:=[]) (H':=cK) (b:=D) Qc H10D (by simp)
    have ni:=(drop ij).turned (h':=dv.heap.update D (Obj.mapSeq λa=>a.push y)) (t':=dv.toks) (it:=D) kk H10D g1 g3 g4 g5
    exact⟨m',hm,i+1,τ8,cK,ys++[yv],a7++[y],_,ni,T.keep _ _ _ nr λb hb o e=>kk b o (λz=>fpD (z▸hb)) e,λb hb=>(Qd.mp hb).elim (λe=>e▸H10D) (rW b),q,v5.append (.cons lU .nil),
     by rw[Qo,Wd];assumption,rM⟩
 exact codeAny_compStart_list (loop _ rfl) (T.self _ 0 _ _ _ (T.keep _ _ _ h0 λb _ o e=>k1 b o (k2 b o e)) (loop _ rfl))
def lc_block{tg elt iter:Expr}{ifs:Nq}{pos:Pos}{g:TG}{tc:TT}{te:TE}{fp:Nk}{it:Nc}{tn:Nat→Heap→Prop}{J:It}{Q:VK}{RR:Value→Addr→Result→Shared→Prop}{E:Nb}(B:Blk X sc M ix)(hc:X.calm=true)(hg:∀C ex s H,PG (zbx X sc M C a0 ex s H) tg g)(ht:∀C ex s H,PTs (zbx X sc M C a0 ex s H) ifs tc)(he:∀C ex s H,PE (zbx X sc M C a0 ex s H) elt te)(I:Inv X a0 σ H s)(T:Turn X.prog X.w X.K tg J fp it tn)(h0:tn 0 s.heap)(hf:∀b∈fp,FpOk X a0 H b)(q:rLC g tc te Q J (inner ix σ) H)(lN:∀D C m ys H' s',Inv X a0 σ (upd H' D (.lst ys)) s'→Q (.ref D) (upd H' D (.lst ys))→s'.heap.Ns C m→upd H' D (.lst ys) C=none→s.heap.objs.size<C→RR (.ref D) C (.ok .next) s') :
  wpAny (model X.prog X.w) X.A (newList []) (λad s₃=>wpAny (model X.prog X.w) X.A (newFunctionEnv sc X.env.globals (clOf sc X.env) [] X.env.qual none .none (some X.env)) (λcenv s₄ =>
   codeAny (model X.prog X.w) X.A (.compStart (.ListComp elt [⟨tg,iter,ifs,0⟩] sc pos) 0 (.ref it) ad {cenv with scope:=relabel sc X.env}) (RR ad cenv.locals) s₄) E s₃) E s:=lc_blockG B.g hc hg ht he I T h0 hf q lN
def Inv.letgo{C:Nc}{m:Ng}{h':Nm}{s₀:Nm}(I:Inv X a0 σ H s)(hn:s.heap.Ns C m)(hC:H C=none)(aa:X.env.locals<s₀.objs.size)(iK:∀x c,X.env.cells.lookup x=some c→c<s₀.objs.size)(hp:∀p∈X.pn++a0,p.1<s₀.objs.size)(aG:X.s₀.heap.objs.size≤s₀.objs.size)(hc:s₀.objs.size<C)(hs:Heap.SameBut C s.heap h'):Inv X a0 σ H {s with heap:=h'} :=
 I.turned (t':=s.toks) (it:=C) (λb o hb e=>(hs.2 b hb).trans e) hC (Yw (Ww aa hc)) (.inr (Zd aG (Wx hc))) (λx c e=>Ze (Ww (iK x c e) hc)) λp q=>Ze (Ww (hp p q) hc)
def Inv.cl_lt(I:Inv X a0 σ H s):∀x c,X.env.cells.lookup x=some c→c<s.heap.objs.size:=λx c e=>by
 obtain⟨v,q⟩:=I.cell x c e
 exact q.lt
def Inv.pin_lt(I:Inv X a0 σ H s):∀p∈X.pn++a0,p.1<s.heap.objs.size:=λp hp=>Qu (I.pin p hp).1
def pe_lcC(B:BlkG X sc oz M ix)(hc:X.calm=true)(hi:PI X tg iter wi)(hg:∀C a0 ex s H,PG (zeh X sc oz M C a0 ex s H) tg g)(ht:∀C a0 ex s H,PTs (zeh X sc oz M C a0 ex s H) ifs tc)(he:∀C a0 ex s H,PE (zeh X sc oz M C a0 ex s H) elt te)(hs:∀x,foldedSetIterable iter X.env x=pure x:=by intro _;rfl):PE X (.ListComp elt [⟨tg,iter,ifs,0⟩] sc pos) (tLC ix wi g tc te):=by
 intro a0 s σ H Q I h
 rw[eval_ListComp]
 refine wpAny_comprehension_free (use:=none) rfl hs (zb2 (B.clos I)) B.kind B.names (thn (hi a0 s σ H _ I h) λv s1 h1=>thn h1 λitv s2 h2=>?_)
 obtain⟨it,fp,tn,J,H2,e,I2,T,bJ,f2,q⟩:=h2
 subst e
 refine lc_blockG (RR:=λad C=>compPost (model X.prog X.w) X.A X.xe none (EP X a0 σ Q) ad C) B hc (hg · a0) (ht · a0) (he · a0) I2 T bJ f2 q ?_
 intro D C m ys H' s' I' q' hn hC aa
 refine⟨m,hn,λh' bj=>⟨.ref D,_,I'.letgo hn hC I2.lt I2.cl_lt I2.pin_lt I2.sz aa bj,rfl,q'⟩⟩
def zf3(B:Blk X sc M ix)(hc:X.calm=true)(hi:PI X tg iter wi)(hg:∀C a0 ex s H,PG (zbx X sc M C a0 ex s H) tg g)(ht:∀C a0 ex s H,PTs (zbx X sc M C a0 ex s H) ifs tc)(he:∀C a0 ex s H,PE (zbx X sc M C a0 ex s H) elt te)(hs:∀x,foldedSetIterable iter X.env x=pure x:=by intro _;rfl):PE X (.ListComp elt [⟨tg,iter,ifs,0⟩] sc pos) (tLC ix wi g tc te):=pe_lcC B.g hc hi hg ht he hs
def ps_lc(hN:X.N.Nodup)(dM:X.N[i]?=some y)(hy:X.env.scope.names.lookup y=some .local)(B:Blk X sc M ix)(hc:X.calm=true)(hi:PI X tg iter wi)(hg:∀C a0 ex s H,PG (zbx X sc M C a0 ex s H) tg g)(ht:∀C a0 ex s H,PTs (zbx X sc M C a0 ex s H) ifs tc)(he:∀C a0 ex s H,PE (zbx X sc M C a0 ex s H) elt te)(sU:swapsWith (.ListComp elt [⟨tg,iter,ifs,0⟩] sc pos) (some (.Name y py)) spos.line X.env=pure true)(hs:∀x,foldedSetIterable iter X.env x=pure x:=by intro _;rfl):PS X (.Assign [.Name y py] (.ListComp elt [⟨tg,iter,ifs,0⟩] sc pos) spos) (tAsg (tLC ix wi g tc te) (gName i)):=by
 intro a0 s σ H D' I h
 rw[exec_Assign_Name_used _ _ _ _ sU]
 refine wpAny_bind (wpAny_standAt (wpAny_bind ?_))
 show wpAny _ X.A (do let _ ←comprehension (.ListComp elt [⟨tg,iter,ifs,0⟩] sc pos) sc X.env _ (newList []) false (eval iter X.env) (some (assign (.Name y py) X.env))) _ _ s
 refine wpAny_bind (wpAny_mono (wpAny_comprehension_free (use:=some (assign (.Name y py) X.env)) (Q:=λ_ s'=>SP X a0 D' .next s') rfl hs (zb2 (B.clos I)) B.kind B.names
  (thn (hi a0 s σ H _ I h) λv s1 h1=>thn h1 λitv s2 h2=>?_)) (λ_ s' hq=>wpAny_pure (wpAny_pure hq)) λ_ _ e=>e)
 obtain⟨it,fp,tn,J,H2,e,I2,T,bJ,f2,q⟩:=h2
 subst e
 refine lc_block (RR:=λad C=>compPost (model X.prog X.w) X.A X.xe (some (assign (.Name y py) X.env)) (λ_ s'=>SP X a0 D' .next s') ad C) B hc (hg · a0) (ht · a0) (he · a0) I2 T bJ f2 q ?_
 intro D C m ys H' s' I' q' hn hC aa
 show wpAny _ X.A (assign (.Name y py) X.env (.ref D)) _ _ s'
 refine wpAny_assign_Name (zft I' hN dM (.inl hy) (v:=.ref D) rfl (λnC wg ⟨a,sb,ha⟩=>?_) (.inr hy))
 have aC:C≠a:=by
  rcases ha with z | z
  ·rw[z];exact Yw (Ww I2.lt aa)
  ·exact Yw (Ww (I2.cl_lt _ _ z) aa)
 have bQ:=hn.sameBut sb aC
 exact⟨m,bQ,λh' bj=>⟨_,_,wg.letgo bQ hC I2.lt I2.cl_lt I2.pin_lt I2.sz aa bj,q'⟩⟩
end
end L2
end
section
namespace Tm
open PySem PyProof.Rows
def gallopT:Bool→Keyed→Array Keyed→Nat→Nat→Nat→StateT SortSt Sem (Option Nat):=sortPriv% PySem.Builtin.gallop
def mergeLoT:Array Keyed→Array Keyed→StateT SortSt Sem (Array Keyed):=sortPriv% PySem.Builtin.mergeLo
def mergeHiT:Array Keyed→Array Keyed→StateT SortSt Sem (Array Keyed):=sortPriv% PySem.Builtin.mergeHi
section
variable{σ α β:Type}{M:Model}{A:Nn}{E:Nb}{s:Nh}{Q:α→σ→Prop}{st:σ}{c:Prop}[Decidable c]
def zc1(h:∀Q0:α→σ→Prop,(∀r a8,Q r a8→Q0 r a8)→wpS M A E s m Q0 st):wpS M A E s m Q st:=h Q λ_ _ z=>z
def jp_if{f:Unit→β→StateT σ Sem α}(h:∀z,wpS M A E s (f () z) Q st):wpS M A E s (if c then f () x else f () y) Q st:=by
 split
 ·exact h _
 ·exact h _
def zao{x y:StateT σ Sem α}(h1:c→wpS M A E s x Q st)(h2:¬c→wpS M A E s y Q st):wpS M A E s (if c then x else y) Q st:=by
 split
 next z=>exact h1 z
 next z=>exact h2 z
end
section
variable{prog:Nj}{w:Nl}{A:Nn}{E:Nb}{s:Nh}{kd:SortKind}{a₀:Array Keyed}
def Cmp(prog:Nj)(w:Nl)(A:Nn)(E:Nb)(s:Nh)(kd:SortKind)(a₀:Array Keyed):Prop :=
 ∀(x y:Keyed) (st:SortSt) (Q:Option Bool→SortSt→Prop),x∈a₀.toList→y∈a₀.toList→kindOf st=kd→(∀b,Q (some b) st)→wpS (model prog w) A E s (lt' x y) Q st
def Of(a₀ xs:Array Keyed):Prop:=∀(i:Nat) (p:Keyed),xs[i]?=some p→p∈a₀.toList
def zau{arr:Array Keyed}{i:Nat}{p:Keyed}{Q:Keyed→SortSt→Prop}{st:SortSt}(h:arr[i]?=some p)(q:Q p st):wpS (model prog w) A E s (elem' arr i) Q st:=by
 rw[elem'_eq,h];exact wpS_pure q
def beyondT(left:Bool)(ky:Keyed)(arr:Array Keyed)(i:Nat):StateT SortSt Sem (Option Bool):=do
 let x ←elem' arr i
 if left=true then lt' x ky else do
  let r ←lt' ky x
  pure (r.map λz=>!z)
def wpS_beyond{left:Bool}{ky:Keyed}{arr:Array Keyed}{i:Nat}{Q:Option Bool→SortSt→Prop}{st:SortSt}(C:Cmp prog w A E s kd a₀)(hk:kindOf st=kd)(hO:Of a₀ arr)(hy:ky∈a₀.toList)(hi:i<arr.size)(q:∀b,Q (some b) st):wpS (model prog w) A E s (beyondT left ky arr i) Q st:=by
 have e:=getElem?_pos arr i hi
 unfold beyondT
 refine wpS_bind (zau e ?_)
 have m:=hO _ _ e
 cases left with
 |true=>exact C _ _ _ _ m hy hk q
 |false=>exact wpS_bind (C _ _ _ _ hy m hk λb=>wpS_pure (q _))
def zcg{left:Bool}{ky:Keyed}{arr:Array Keyed}{base n hint:Nat}{Q:Option Nat→SortSt→Prop}{st:SortSt}(C:Cmp prog w A E s kd a₀)(hk:kindOf st=kd)(hO:Of a₀ arr)(hy:ky∈a₀.toList)(hb:base+n≤arr.size)(hh:hint<n)(h:∀k,k≤n→Q (some k) st):wpS (model prog w) A E s (gallopT left ky arr base n hint) Q st:=by
 have ask:∀{i:Nat} {Q':Option Bool→SortSt→Prop},i<n→(∀b,Q' (some b) st)→wpS (model prog w) A E s (beyondT left ky arr (base+i)) Q' st:=λ{i Q'} hi q=>wpS_beyond C hk hO hy (by omega) q
 have last:∀(f:Nat→(Option (Option Nat)×Nat×Nat)→StateT SortSt Sem (ForInStep (Option (Option Nat)×Nat×Nat))) (lo hi:Nat),lo≤hi→hi≤n →
   (∀x l r Q',l≥r→Q' (ForInStep.done (none,l,r)) st→wpS (model prog w) A E s (f x (none,l,r)) Q' st) →
   (∀x l r Q',¬l≥r→r≤n→Q' (ForInStep.yield (none,l+(r-l)/2+1,r)) st→Q' (ForInStep.yield (none,l,l+(r-l)/2)) st→wpS (model prog w) A E s (f x (none,l,r)) Q' st) →
   wpS (model prog w) A E s (forIn [:n] (none,lo,hi) f) (λc a8=>a8=st∧∃k,c=(none,k,k)∧k≤n) st:=by
  intro f lo hi h1 h2 f1 f2
  refine wpS_forRange (I:=λx c a8=>Aj2 (a8=st) (Ex2 λl r=>Aj4 (c=(none,l,r)) (l≤r) (r≤n) (r-l≤n-x))) ?step ?fin ?init
  case init=>exact⟨rfl,lo,hi,rfl,h1,h2,by omega⟩
  case fin =>
   rintro c a8 ⟨rfl,l,r,rfl,a1,a2,a3⟩
   have:l=r:=by omega
   subst this
   exact⟨rfl,l,rfl,a2⟩
  case step =>
   rintro x c a8 _ hx ⟨rfl,l,r,rfl,a1,a2,a3⟩
   by_cases fC:l≥r
   ·refine f1 x l r _ fC ?_
    have:l=r:=Nat.le_antisymm a1 fC
    subst this
    exact⟨rfl,l,rfl,a2⟩
   ·exact f2 x l r _ fC a2 ⟨rfl,_,_,rfl,by omega,a2,by omega⟩ ⟨rfl,_,_,rfl,Yr _ _,by omega,by omega⟩
 unfold gallopT
 refine wpS_bind (ask (i:=hint) hh λb0=>?_)
 cases b0 with
 | true =>
  refine wpS_bind (wpS_mono (wpS_forRange
   (I:=λx c a8=>Aj2 (a8=st) (Ex2 λla of=>Aj4 (c=(none,la,of)) (hint+la<n) (la<of) (x<of)))
   (Q:=λc a8=>Aj2 (a8=st) (Ex2 λla of=>Aj3 (c=(none,la,of)) (hint+la<n) (la<of))) ?step ?fin ?init) ?post)
  case init=>exact⟨rfl,0,1,rfl,hh,Qf _,Qf _⟩
  case fin =>
   rintro c a8 ⟨rfl,la,of,rfl,a2,a3,a4⟩
   exact⟨rfl,la,of,rfl,a2,a3⟩
  case step =>
   rintro x c a8 _ hx ⟨rfl,la,of,rfl,a2,a3,a4⟩
   dsimp only
   refine zao (λ_=>wpS_pure ⟨rfl,la,of,rfl,a2,a3⟩) λfC=>wpS_bind (ask (i:=hint+of) (by omega) λb=>?_)
   cases b with
   |true=>exact wpS_pure ⟨rfl,of,2*of+1,rfl,by omega,by omega,by omega⟩
   |false=>exact wpS_pure ⟨rfl,la,of,rfl,a2,a3⟩
  case post =>
   rintro c a8 ⟨rfl,la,of,rfl,a2,a3⟩
   refine wpS_bind (wpS_mono (last _ (hint+la+1) (hint+min of (n-hint)) (by omega) (by omega) ?_ ?_) ?_)
   ·intro x l r Q' fC q
    exact zao (λ_=>wpS_pure q) λz=>absurd fC z
   ·intro x l r Q' fC hr q1 q2
    refine zao (λz=>absurd z fC) λ_=>wpS_bind (ask (i:=l+(r-l)/2) (by omega) λb=>?_)
    cases b with
    |true=>exact wpS_pure q1
    |false=>exact wpS_pure q2
   ·rintro c a8 ⟨rfl,k,rfl,b1⟩
    exact wpS_pure (h k b1)
 | false =>
  refine wpS_bind (wpS_mono (wpS_forRange
   (I:=λx c a8=>Aj2 (a8=st) (Ex2 λla of=>Aj4 (c=(none,la,of)) (la≤hint) (la<of) (x<of)))
   (Q:=λc a8=>Aj2 (a8=st) (Ex2 λla of=>Aj3 (c=(none,la,of)) (la≤hint) (la<of))) ?step ?fin ?init) ?post)
  case init=>exact⟨rfl,0,1,rfl,Zi _,Qf _,Qf _⟩
  case fin =>
   rintro c a8 ⟨rfl,la,of,rfl,a2,a3,a4⟩
   exact⟨rfl,la,of,rfl,a2,a3⟩
  case step =>
   rintro x c a8 _ hx ⟨rfl,la,of,rfl,a2,a3,a4⟩
   dsimp only
   refine zao (λ_=>wpS_pure ⟨rfl,la,of,rfl,a2,a3⟩) λfC=>wpS_bind (ask (i:=hint-of) (by omega) λb=>?_)
   cases b with
   |true=>exact wpS_pure ⟨rfl,la,of,rfl,a2,a3⟩
   |false=>exact wpS_pure ⟨rfl,of,2*of+1,rfl,by omega,by omega,by omega⟩
  case post =>
   rintro c a8 ⟨rfl,la,of,rfl,a2,a3⟩
   refine wpS_bind (wpS_mono (last _ (hint+1-min of (hint+1)) (hint-la) (by omega) (by omega) ?_ ?_) ?_)
   ·intro x l r Q' fC q
    exact zao (λ_=>wpS_pure q) λz=>absurd fC z
   ·intro x l r Q' fC hr q1 q2
    refine zao (λz=>absurd z fC) λ_=>wpS_bind (ask (i:=l+(r-l)/2) (by omega) λb=>?_)
    cases b with
    |true=>exact wpS_pure q1
    |false=>exact wpS_pure q2
   ·rintro c a8 ⟨rfl,k,rfl,b1⟩
    exact wpS_pure (h k b1)
end
section
variable{prog:Nj}{w:Nl}{A:Nn}{E:Nb}{s:Nh}{kd:SortKind}{a₀:Array Keyed}
variable{all out ra rb seg:List Keyed}
def Pm(all out ra rb:List Keyed):Prop:=(out++(ra++rb)).Perm all
def Pm.appA(j:Pm all out (seg++ra) rb):Pm all (out++seg) ra rb:=by
 unfold Pm at *
 rw[Qt,←Qt seg];exact j
def Pm.appB(j:Pm all out ra (seg++rb)):Pm all (out++seg) ra rb:=by
 unfold Pm at *
 rw[Qt]
 refine List.Perm.trans (Zz _ ?_) j
 rw[←Qt,←Qt]
 exact Wg.append_right _
def drop_cons{a:Array Keyed}{i:Nat}(h:i<a.size):a.toList.drop i=a[i]::a.toList.drop (i+1):=by
 rw[Kr (by simpa using h)];simp
def zc2{a:Array Keyed}{i:Nat}:(a.extract i a.size).toList=a.toList.drop i:=by
 simp[Qr]
def zgk{a:Array Keyed}{i k:Nat}(h:i+k≤a.size):(a.extract i (i+k)).toList++a.toList.drop (i+k)=a.toList.drop i:=by
 rw[Array.toList_extract,Kq]
 have:i+k-i=k:=by omega
 rw[this,←List.drop_drop,Wc]
abbrev Pa(a b o:Array Keyed)(i k:Nat):Prop:=Pm (a.toList++b.toList) o.toList (a.toList.drop i) (b.toList.drop k)
variable{a b o:Array Keyed}{i k n:Nat}
def Pa.pushA(j:Pa a b o i k)(h:i<a.size):Pa a b (o.push a[i]) (i+1) k:=by
 have:=Pm.appA (seg:=[a[i]]) (ra:=a.toList.drop (i+1)) (by rw[Jv,←drop_cons h];exact j)
 rwa[←Js]at this
def Pa.pushB(j:Pa a b o i k)(h:k<b.size):Pa a b (o.push b[k]) i (k+1):=by
 have:=Pm.appB (seg:=[b[k]]) (rb:=b.toList.drop (k+1)) (by rw[Jv,←drop_cons h];exact j)
 rwa[←Js]at this
def Pa.runA(j:Pa a b o i k)(h:i+n≤a.size):Pa a b (o++a.extract i (i+n)) (i+n) k:=by
 have:=Pm.appA (seg:=(a.extract i (i+n)).toList) (ra:=a.toList.drop (i+n)) (by rw[zgk h];exact j)
 show Pm _ (o++a.extract i (i+n)).toList _ _
 rw[Zy];exact this
def Pa.runB(j:Pa a b o i k)(h:k+n≤b.size):Pa a b (o++b.extract k (k+n)) i (k+n):=by
 have:=Pm.appB (seg:=(b.extract k (k+n)).toList) (rb:=b.toList.drop (k+n)) (by rw[zgk h];exact j)
 show Pm _ (o++b.extract k (k+n)).toList _ _
 rw[Zy];exact this
def Pa.end1(j:Pa a b o i k):(o++a.extract i++b.extract k).toList.Perm (a.toList++b.toList):=by
 rw[Zy,Zy,zc2,zc2,Qt];exact j
def Pa.end2(j:Pa a b o i k):(o++b.extract k++a.extract i).toList.Perm (a.toList++b.toList):=by
 rw[Zy,Zy,zc2,zc2,Qt]
 exact(Zz _ Wg).trans j
def SG(st a8:SortSt):Prop:=∃g,a8=SortSt.mk' (kindOf st) (arrOf st) (pendingOf st) g (failedOf st)
def wpS_mergeLo{Q:Array Keyed→SortSt→Prop}{st:SortSt}(C:Cmp prog w A E s kd a₀)(hk:kindOf st=kd)(oa:Of a₀ a)(ob:Of a₀ b)(ha:0 < a.size)(hb:0 < b.size)(h:∀(res:Array Keyed) (a8:SortSt),res.toList.Perm (a.toList++b.toList)→SG st a8→Q res a8):wpS (model prog w) A E s (mergeLoT a b) Q st:=by
 have ia_:∀i (hi:i<a.size),a[i]∈a₀.toList:=λi hi=>oa i _ (getElem?_pos a i hi)
 have ib_:∀i (hi:i<b.size),b[i]∈a₀.toList:=λi hi=>ob i _ (getElem?_pos b i hi)
 have ea:∀i (hi:i<a.size),a[i]?=some a[i]:=λi hi=>getElem?_pos a i hi
 have eb:∀i (hi:i<b.size),b[i]?=some b[i]:=λi hi=>getElem?_pos b i hi
 have sgk:∀{a8},SG st a8→kindOf a8=kd:=λ⟨g,e⟩=>by rw[e];exact hk
 unfold mergeLoT
 refine wpS_bind (wpS_lift (wpAny_rule ⟨rfl,?_⟩))
 refine wpS_bind (zau (eb 0 hb) ?_)
 have j0:Pa a b (#[b[0]]:Array Keyed) 0 1:=by
  have j:Pa a b (#[]:Array Keyed) 0 0:=by show List.Perm _ _;simp
  exact j.pushB hb
 refine zao (λc1=>wpS_pure (h _ _ j0.end1 ⟨_,rfl⟩)) λc1=>zao (λc2=>wpS_pure (h _ _ j0.end2 ⟨_,rfl⟩)) λc2=>?_
 have n6:¬b.size=1:=λz=>c1 (by simp[z])
 have qt:¬a.size=1:=λz=>c2 (by simp[z])
 refine wpS_bind (wpS_get ?_)
 refine wpS_bind (wpS_mono (wpS_forRange
  (I:=λx c a8=>Aj2 (SG st a8) (Ex4 λo i k g=>Aj5 (c=(none,o,i,k,g)) (i+1<a.size) (k<b.size) (Pa a b o i k) (x≤i+k)))
  (Q:=λc a8=>Aj2 (SG st a8) (Ex2 λres r=>Aj2 (c=(some res,r)) (res.toList.Perm (a.toList++b.toList)))) ?step ?fin ?init) ?post)
 case init=>exact⟨⟨_,rfl⟩,_,0,1,_,rfl,by omega,by omega,j0,by omega⟩
 case fin =>
  rintro c a8 ⟨_,o,i,k,g,rfl,a1,a2,a3,a4⟩
  exfalso;omega
 case post =>
  rintro c a8 ⟨g,res,r,rfl,m⟩
  exact wpS_pure (h res a8 m g)
 case step =>
  rintro x c bv _ hx ⟨g1,o1,i1,k1,mg,rfl,a1,a2,a3,a4⟩
  dsimp -zeta only
  refine wpS_bind (wpS_mono (wpS_forRange
   (I:=λy c a8=>Aj2 (a8=bv) (Ex5 λo i k ac bc=>Aj5 (c=(none,o,i,k,ac,bc)) (i+1<a.size) (k<b.size) (Pa a b o i k) (i1+k1+y≤i+k)))
   (Q:=λc a8=>Aj2 (a8=bv) ((Ex2 λres r=>Aj2 (c=(some res,r)) (res.toList.Perm (a.toList++b.toList)))∨Ex5 λo i k ac bc=>Aj5 (c=(none,o,i,k,ac,bc)) (i+1<a.size) (k<b.size) (Pa a b o i k) (i1+k1<i+k))) ?step1 ?fin1 ?init1) ?post1)
  case init1=>exact⟨rfl,o1,i1,k1,0,0,rfl,a1,a2,a3,Qf _⟩
  case fin1 =>
   rintro c a8 ⟨_,o,i,k,ac,bc,rfl,b1,b2,b3,b4⟩
   exfalso;omega
  case step1 =>
   rintro y c bJ _ hy ⟨rfl,o,i,k,ac,bc,rfl,b1,b2,b3,b4⟩
   have rK:i<a.size:=by omega
   dsimp -zeta only
   refine wpS_bind (zau (eb k b2) (wpS_bind (zau (ea i rK) (wpS_bind (C _ _ _ _ (ib_ k b2) (ia_ i rK) (sgk g1) λe=>?_)))))
   dsimp -zeta only
   refine zao (λ_=>?_) (λ_=>?_)
   ·refine wpS_bind (zau (eb k b2) ?_)
    have j:=b3.pushB b2
    refine zao (λ_=>wpS_pure ⟨rfl,.inl ⟨_,_,rfl,j.end1⟩⟩) λd1=>?_
    have qr:¬k+1=b.size:=λz=>d1 (beq_iff_eq.mpr z)
    exact zao (λ_=>wpS_pure ⟨rfl,.inr ⟨_,i,k+1,_,_,rfl,b1,by omega,j,by omega⟩⟩) λ_=>wpS_pure ⟨rfl,_,i,k+1,_,_,rfl,b1,by omega,j,by omega⟩
   ·refine wpS_bind (zau (ea i rK) ?_)
    have j:=b3.pushA rK
    refine zao (λ_=>wpS_pure ⟨rfl,.inl ⟨_,_,rfl,j.end2⟩⟩) λd1=>?_
    have qr:¬i+1+1=a.size:=λz=>d1 (beq_iff_eq.mpr z)
    exact zao (λ_=>wpS_pure ⟨rfl,.inr ⟨_,i+1,k,_,_,rfl,by omega,b2,j,by omega⟩⟩) λ_=>wpS_pure ⟨rfl,_,i+1,k,_,_,rfl,by omega,b2,j,by omega⟩
  case post1 =>
   rintro c bJ ⟨rfl,⟨res,r,rfl,m⟩ | ⟨o2,i2,k2,ac2,bc2,rfl,b1,b2,b3,b4⟩⟩
   ·exact wpS_pure ⟨g1,res,_,rfl,m⟩
   dsimp -zeta only
   refine wpS_bind (wpS_lift (wpAny_rule ⟨rfl,?_⟩))
   refine wpS_bind (wpS_mono (wpS_forRange
    (I:=λy c a8=>Aj2 (SG st a8) (Ex6 λo i k g ac bc=>Aj5 (c=(none,o,i,k,g,ac,bc)) (i+1<a.size) (k<b.size) (Pa a b o i k) (i2+k2≤i+k)))
    (Q:=λc a8=>Aj2 (SG st a8) ((Ex2 λres r=>Aj2 (c=(some res,r)) (res.toList.Perm (a.toList++b.toList)))∨Ex6 λo i k g ac bc=>Aj5 (c=(none,o,i,k,g,ac,bc)) (i+1<a.size) (k<b.size) (Pa a b o i k) (i2+k2≤i+k))) ?step2 ?fin2 ?init2) ?post2)
   case init2=>exact⟨g1,o2,i2,k2,_,_,_,rfl,b1,b2,b3,Qf _⟩
   case fin2 =>
    rintro c a8 ⟨g,o,i,k,g',ac,bc,rfl,c1,c2,c3,c4⟩
    exact⟨g,.inr ⟨o,i,k,g',ac,bc,rfl,c1,c2,c3,c4⟩⟩
   case post2 =>
    rintro c av ⟨g3,⟨res,r,rfl,m⟩ | ⟨o3,i3,k3,g',wc,vJ,rfl,c1,c2,c3,c4⟩⟩
    ·exact wpS_pure ⟨g3,res,_,rfl,m⟩
    dsimp -zeta only
    refine wpS_bind (wpS_modify ?_)
    obtain⟨gg,e3⟩:=g3
    exact wpS_pure ⟨⟨_,by rw[e3]⟩,o3,i3,k3,_,rfl,c1,c2,c3,by omega⟩
   case step2 =>
    rintro y c av _ hy ⟨g3,o3,i3,k3,mg3,wc,vJ,rfl,c1,c2,c3,c4⟩
    refine zc1 λQ0 bX=>?_
    dsimp -zeta only
    have sgm:∀g',SG st (SortSt.mk' (kindOf av) (arrOf av) (pendingOf av) g' (failedOf av)):=λg'=>by
     obtain⟨g,e⟩:=g3
     exact⟨g',by rw[e]⟩
    extract_lets -underBinder +onlyGivenNames s1 out s2 ia s3 ib s4 mn s5 ac bc jp
    refine jp_if (f:=jp) λm'=>?_
    refine wpS_bind (wpS_modify ?_)
    refine wpS_bind (zau (eb k3 c2) ?_)
    refine wpS_bind (zcg (base:=i3) (n:=a.size-i3) (hint:=0) C (sgk (sgm _)) oa (ib_ k3 c2) (by omega) (by omega) λk q1=>?_)
    dsimp -zeta only
    have jr:=c3.runA (n:=k) (by omega)
    extract_lets -underBinder +onlyGivenNames ac' jp2
    have h2:∀(n':Nat) (o':Array Keyed) (f1:n'+1<a.size),i3≤n'→Pa a b o' n' k3→wpS (model prog w) A E s (jp2 () o' n') Q0 (SortSt.mk' (kindOf av) (arrOf av) (pendingOf av) m' (failedOf av)):=by
     intro n' o' f1 f2 fJ
     have f0:n'<a.size:=by omega
     refine wpS_bind (zau (eb k3 c2) ?_)
     have fK:=fJ.pushB c2
     refine zao (λ_=>wpS_pure (bX _ _ ⟨sgm _,.inl ⟨_,_,rfl,fK.end1⟩⟩)) λd=>?_
     have d':¬k3+1=b.size:=λz=>d (beq_iff_eq.mpr z)
     refine wpS_bind (zau (ea n' f0) ?_)
     refine wpS_bind (zcg (base:=k3+1) (n:=b.size-(k3+1)) (hint:=0) C (sgk (sgm _)) ob (ia_ n' f0) (by omega) (by omega) λk' r1=>?_)
     dsimp -zeta only
     have js:=fK.runB (n:=k') (by omega)
     extract_lets -underBinder +onlyGivenNames bc' jp3
     have h3:∀(m2:Nat) (o2:Array Keyed) (p1:m2<b.size),k3+1≤m2→Pa a b o2 n' m2→wpS (model prog w) A E s (jp3 () o2 m2) Q0 (SortSt.mk' (kindOf av) (arrOf av) (pendingOf av) m' (failedOf av)):=by
      intro m2 o2 p1 p2 pJ
      refine wpS_bind (zau (ea n' f0) ?_)
      have pK:=pJ.pushA f0
      refine zao (λ_=>wpS_pure (bX _ _ ⟨sgm _,.inl ⟨_,_,rfl,pK.end2⟩⟩)) λd=>?_
      have d2:¬n'+1+1=a.size:=λz=>d (beq_iff_eq.mpr z)
      exact zao (λ_=>wpS_pure (bX _ _ ⟨sgm _,.inr ⟨_,n'+1,m2,_,_,_,rfl,by omega,p1,pK,by omega⟩⟩)) λ_=>wpS_pure (bX _ _ ⟨sgm _,_,n'+1,m2,_,_,_,rfl,by omega,p1,pK,by omega⟩)
     refine zao (λkz=>?_) (λkz=>?_)
     ·refine zao (fun _=>wpS_pure (bX _ _ ⟨sgm _,.inl ⟨_,_,rfl,js.end1⟩⟩)) fun d4=>?_
      have d4':¬k3+1+k'=b.size:=λz=>d4 (beq_iff_eq.mpr z)
      exact h3 (k3+1+k') _ (by omega) (Yr _ _) js
     ·exact h3 (k3+1) _ (by omega) (Qf _) fK
    refine zao (λkz=>?_) (λkz=>?_)
    ·refine zao (fun _=>wpS_pure (bX _ _ ⟨sgm _,.inl ⟨_,_,rfl,jr.end2⟩⟩)) fun d=>zao (fun _=>wpS_pure (bX _ _ ⟨sgm _,.inl ⟨_,_,rfl,jr.end1⟩⟩)) fun e=>?_
     have d':¬i3+k+1=a.size:=λz=>d (beq_iff_eq.mpr z)
     have e':¬i3+k=a.size:=λz=>e (beq_iff_eq.mpr z)
     exact h2 (i3+k) _ (by omega) (Yr _ _) jr
    ·exact h2 i3 _ c1 (Qf _) c3
end
section
variable{prog:Nj}{w:Nl}{A:Nn}{E:Nb}{s:Nh}{kd:SortKind}{a₀:Array Keyed}
variable{a b o:Array Keyed}{na nb at_:Nat}
def zfn:(a.extract 0 n).toList=a.toList.take n:=by simp
def zfi{a:Array Keyed}{i n:Nat}(hi:i≤n)(h:n≤a.size):a.toList.take i++(a.extract i n).toList=a.toList.take n:=by
 rw[Array.toList_extract,Kq]
 have e:a.toList.take i=(a.toList.take n).take i:=by rw[List.take_take];congr 1;omega
 have e2:(a.toList.drop i).take (n-i)=(a.toList.take n).drop i:=by rw[List.drop_take]
 rw[e,e2,Wc]
def Ph(a b o:Array Keyed)(na nb:Nat):Prop:=(a.toList.take na++(b.toList.take nb++o.toList)).Perm (a.toList++b.toList)
def mvA{t sg nz u r all:List Keyed}(h:((t++sg)++(u++r)).Perm all)(hs:nz.Perm sg):(t++(u++(r++nz))).Perm all:=by
 refine List.Perm.trans ?_ h
 rw[Qt,←Qt u]
 exact Zz _ ((Zz _ hs).trans Wg)
def mvB{t sg nz u r all:List Keyed}(h:(t++((u++sg)++r)).Perm all)(hs:nz.Perm sg):(t++(u++(r++nz))).Perm all:=by
 refine List.Perm.trans ?_ h
 rw[Qt]
 exact Zz _ (Zz _ ((Zz _ hs).trans Wg))
def Ph.runA(j:Ph a b o na nb)(hi:at_≤na)(h:na≤a.size):Ph a b (o++(a.extract at_ na).reverse) at_ nb:=by
 unfold Ph at *
 rw[←zfi hi h]at j
 rw[Zy,Ke]
 exact mvA j (Jn _)
def Ph.runB(j:Ph a b o na nb)(hi:at_≤nb)(h:nb≤b.size):Ph a b (o++(b.extract at_ nb).reverse) na at_:=by
 unfold Ph at *
 rw[←zfi hi h]at j
 rw[Zy,Ke]
 exact mvB j (Jn _)
def Ph.pushA(j:Ph a b o (na+1) nb)(h:na<a.size):Ph a b (o.push a[na]) na nb:=by
 unfold Ph at *
 rw[Qn (by simpa using h)]at j
 rw[Js]
 exact mvA j (by simp)
def Ph.pushB(j:Ph a b o na (nb+1))(h:nb<b.size):Ph a b (o.push b[nb]) na nb:=by
 unfold Ph at *
 rw[Qn (by simpa using h)]at j
 rw[Js]
 exact mvB j (by simp)
def Ph.end1(j:Ph a b o na nb):(a.extract 0 na++b.extract 0 nb++o.reverse).toList.Perm (a.toList++b.toList):=by
 rw[Zy,Zy,Ke,zfn,zfn,Qt]
 exact(Zz _ (Zz _ (Jn _))).trans j
def Ph.end2(j:Ph a b o na nb):(b.extract 0 nb++a.extract 0 na++o.reverse).toList.Perm (a.toList++b.toList):=by
 rw[Zy,Zy,Ke,zfn,zfn]
 refine List.Perm.trans ?_ j
 rw[←Qt]
 exact(Wg).append (Jn _)
def wpS_mergeHi{Q:Array Keyed→SortSt→Prop}{st:SortSt}(C:Cmp prog w A E s kd a₀)(hk:kindOf st=kd)(oa:Of a₀ a)(ob:Of a₀ b)(ha:0 < a.size)(hb:0 < b.size)(h:∀(res:Array Keyed) (a8:SortSt),res.toList.Perm (a.toList++b.toList)→SG st a8→Q res a8):wpS (model prog w) A E s (mergeHiT a b) Q st:=by
 have ia_:∀i (hi:i<a.size),a[i]∈a₀.toList:=λi hi=>oa i _ (getElem?_pos a i hi)
 have ib_:∀i (hi:i<b.size),b[i]∈a₀.toList:=λi hi=>ob i _ (getElem?_pos b i hi)
 have ea:∀i (hi:i<a.size),a[i]?=some a[i]:=λi hi=>getElem?_pos a i hi
 have eb:∀i (hi:i<b.size),b[i]?=some b[i]:=λi hi=>getElem?_pos b i hi
 have sgk:∀{a8},SG st a8→kindOf a8=kd:=λ⟨g,e⟩=>by rw[e];exact hk
 obtain⟨n0,hn0⟩:∃n0,a.size=n0+1:=⟨a.size-1,by omega⟩
 have fX:n0<a.size:=by omega
 have j0:Ph a b (#[a[n0]]:Array Keyed) n0 b.size:=by
  have j:Ph a b (#[]:Array Keyed) (n0+1) b.size:=by
   have e1:a.toList.take (n0+1)=a.toList:=Qr (by simp;omega)
   have e2:b.toList.take b.size=b.toList:=Qr (by simp)
   unfold Ph;rw[e1,e2];simp
  exact j.pushA fX
 unfold mergeHiT
 refine wpS_bind (wpS_lift (wpAny_rule ⟨rfl,?_⟩))
 have e2:a.size-1=n0:=by omega
 simp -zeta only [e2]
 refine wpS_bind (zau (ea n0 fX) ?_)
 refine zao (λc1=>wpS_pure (h _ _ j0.end1 ⟨_,rfl⟩)) λc1=>zao (λc2=>wpS_pure (h _ _ j0.end2 ⟨_,rfl⟩)) λc2=>?_
 have n6:¬n0=0:=λz=>c1 (by simp[z])
 have qt:¬b.size=1:=λz=>c2 (by simp[z])
 refine wpS_bind (wpS_get ?_)
 obtain⟨n1,rfl⟩:∃n1,n0=n1+1:=⟨n0-1,by omega⟩
 obtain⟨m1,cq⟩:∃m1,b.size=m1+1+1:=⟨b.size-2,by omega⟩
 rw[cq]at j0
 refine wpS_bind (wpS_mono (wpS_forRange
  (I:=λx c a8=>Aj2 (SG st a8) (Ex4 λo i k g=>Aj5 (c=(none,i+1,k+1+1,o,g)) (i<a.size) (k+1<b.size) (Ph a b o (i+1) (k+1+1)) (i+k+x+4≤a.size+b.size)))
  (Q:=λc a8=>Aj2 (SG st a8) (Ex2 λres r=>Aj2 (c=(some res,r)) (res.toList.Perm (a.toList++b.toList)))) ?step ?fin ?init) ?post)
 case init=>exact⟨⟨_,rfl⟩,_,n1,m1,_,by rw[cq],by omega,by omega,j0,by omega⟩
 case fin =>
  rintro c a8 ⟨_,o,i,k,g,rfl,a1,a2,a3,a4⟩
  exfalso;omega
 case post =>
  rintro c a8 ⟨g,res,r,rfl,m⟩
  exact wpS_pure (h res a8 m g)
 case step =>
  rintro x c bv _ hx ⟨g1,o1,i1,k1,mg,rfl,a1,a2,a3,a4⟩
  dsimp -zeta only
  refine wpS_bind (wpS_mono (wpS_forRange
   (I:=λy c a8=>Aj2 (a8=bv) (Ex5 λo i k ac bc=>Aj5 (c=(none,i+1,k+1+1,o,ac,bc)) (i<a.size) (k+1<b.size) (Ph a b o (i+1) (k+1+1)) (i+k+y≤i1+k1)))
   (Q:=λc a8=>Aj2 (a8=bv) ((Ex2 λres r=>Aj2 (c=(some res,r)) (res.toList.Perm (a.toList++b.toList)))∨Ex5 λo i k ac bc=>Aj5 (c=(none,i+1,k+1+1,o,ac,bc)) (i<a.size) (k+1<b.size) (Ph a b o (i+1) (k+1+1)) (i+k<i1+k1))) ?step1 ?fin1 ?init1) ?post1)
  case init1=>exact⟨rfl,o1,i1,k1,0,0,rfl,a1,a2,a3,Qf _⟩
  case fin1 =>
   rintro c a8 ⟨_,o,i,k,ac,bc,rfl,b1,b2,b3,b4⟩
   exfalso;omega
  case step1 =>
   rintro y c bJ _ hy ⟨rfl,o,i,k,ac,bc,rfl,b1,b2,b3,b4⟩
   dsimp -zeta only
   refine wpS_bind (zau (eb (k+1) b2) (wpS_bind (zau (ea i b1) (wpS_bind (C _ _ _ _ (ib_ (k+1) b2) (ia_ i b1) (sgk g1) λe=>?_)))))
   dsimp -zeta only
   refine zao (λ_=>?_) (λ_=>?_)
   ·refine wpS_bind (zau (ea i b1) ?_)
    have j:=b3.pushA b1
    refine zao (λ_=>wpS_pure ⟨rfl,.inl ⟨_,_,rfl,j.end1⟩⟩) λd1=>?_
    have qr:¬i=0:=λz=>d1 (beq_iff_eq.mpr z)
    cases i with
    |zero=>exact absurd rfl qr
    |succ i'=>exact zao (λ_=>wpS_pure ⟨rfl,.inr ⟨_,i',k,_,_,rfl,by omega,b2,j,by omega⟩⟩) λ_=>wpS_pure ⟨rfl,_,i',k,_,_,rfl,by omega,b2,j,by omega⟩
   ·refine wpS_bind (zau (eb (k+1) b2) ?_)
    have j:=b3.pushB b2
    refine zao (λ_=>wpS_pure ⟨rfl,.inl ⟨_,_,rfl,j.end2⟩⟩) λd1=>?_
    have qr:¬k+1=1:=λz=>d1 (beq_iff_eq.mpr z)
    cases k with
    |zero=>exact absurd rfl qr
    |succ k'=>exact zao (λ_=>wpS_pure ⟨rfl,.inr ⟨_,i,k',_,_,rfl,b1,by omega,j,by omega⟩⟩) λ_=>wpS_pure ⟨rfl,_,i,k',_,_,rfl,b1,by omega,j,by omega⟩
  case post1 =>
   rintro c bJ ⟨rfl,⟨res,r,rfl,m⟩ | ⟨o2,i2,k2,ac2,bc2,rfl,b1,b2,b3,b4⟩⟩
   ·exact wpS_pure ⟨g1,res,_,rfl,m⟩
   dsimp -zeta only
   refine wpS_bind (wpS_lift (wpAny_rule ⟨rfl,?_⟩))
   refine wpS_bind (wpS_mono (wpS_forRange
    (I:=λy c a8=>Aj2 (SG st a8) (Ex6 λo i k g ac bc=>Aj5 (c=(none,i+1,k+1+1,o,g,ac,bc)) (i<a.size) (k+1<b.size) (Ph a b o (i+1) (k+1+1)) (i+k≤i2+k2)))
    (Q:=λc a8=>Aj2 (SG st a8) ((Ex2 λres r=>Aj2 (c=(some res,r)) (res.toList.Perm (a.toList++b.toList)))∨Ex6 λo i k g ac bc=>Aj5 (c=(none,i+1,k+1+1,o,g,ac,bc)) (i<a.size) (k+1<b.size) (Ph a b o (i+1) (k+1+1)) (i+k≤i2+k2))) ?step2 ?fin2 ?init2) ?post2)
   case init2=>exact⟨g1,o2,i2,k2,_,_,_,rfl,b1,b2,b3,Qf _⟩
   case fin2 =>
    rintro c a8 ⟨g,o,i,k,g',ac,bc,rfl,c1,c2,c3,c4⟩
    exact⟨g,.inr ⟨o,i,k,g',ac,bc,rfl,c1,c2,c3,c4⟩⟩
   case post2 =>
    rintro c av ⟨g3,⟨res,r,rfl,m⟩ | ⟨o3,i3,k3,g',wc,vJ,rfl,c1,c2,c3,c4⟩⟩
    ·exact wpS_pure ⟨g3,res,_,rfl,m⟩
    dsimp -zeta only
    refine wpS_bind (wpS_modify ?_)
    obtain⟨gg,e3⟩:=g3
    exact wpS_pure ⟨⟨_,by rw[e3]⟩,o3,i3,k3,_,rfl,c1,c2,c3,by omega⟩
   case step2 =>
    rintro y c av _ hy ⟨g3,o3,i3,k3,mg3,wc,vJ,rfl,c1,c2,c3,c4⟩
    refine zc1 λQ0 bX=>?_
    dsimp -zeta only
    have sgm:∀g',SG st (SortSt.mk' (kindOf av) (arrOf av) (pendingOf av) g' (failedOf av)):=λg'=>by
     obtain⟨g,e⟩:=g3
     exact⟨g',by rw[e]⟩
    extract_lets -underBinder +onlyGivenNames s1 na s2 nb s3 out s4 mn s5 ac bc jp
    refine jp_if (f:=jp) λm'=>?_
    refine wpS_bind (wpS_modify ?_)
    refine wpS_bind (zau (eb (k3+1) c2) ?_)
    refine wpS_bind (zcg (n:=i3+1) (hint:=i3) C (sgk (sgm _)) oa (ib_ (k3+1) c2) (by omega) (by omega) λrL q1=>?_)
    dsimp -zeta only
    have jr:=c3.runA (at_:=rL) q1 (by omega)
    extract_lets -underBinder +onlyGivenNames kk ac' jp2
    have h2:∀(n':Nat) (o':Array Keyed) (f1:n'<a.size),n'≤i3→Ph a b o' (n'+1) (k3+1+1)→wpS (model prog w) A E s (jp2 () (n'+1) o') Q0 (SortSt.mk' (kindOf av) (arrOf av) (pendingOf av) m' (failedOf av)):=by
     intro n' o' f1 f2 fJ
     refine wpS_bind (zau (eb (k3+1) c2) ?_)
     have fK:=fJ.pushB c2
     refine zao (λ_=>wpS_pure (bX _ _ ⟨sgm _,.inl ⟨_,_,rfl,fK.end2⟩⟩)) λd=>?_
     have d':¬k3+1=1:=λz=>d (beq_iff_eq.mpr z)
     refine wpS_bind (zau (ea n' f1) ?_)
     refine wpS_bind (zcg (n:=k3+1) (hint:=k3) C (sgk (sgm _)) ob (ia_ n' f1) (by omega) (by omega) λqu r1=>?_)
     dsimp -zeta only
     have js:=fK.runB (at_:=qu) r1 (by omega)
     extract_lets -underBinder +onlyGivenNames iw bc' jp3
     have h3:∀(m2:Nat) (o2:Array Keyed) (p1:m2+1<b.size),m2≤k3→Ph a b o2 (n'+1) (m2+1+1)→wpS (model prog w) A E s (jp3 () (m2+1+1) o2) Q0 (SortSt.mk' (kindOf av) (arrOf av) (pendingOf av) m' (failedOf av)):=by
      intro m2 o2 p1 p2 pJ
      refine wpS_bind (zau (ea n' f1) ?_)
      have pK:=pJ.pushA f1
      refine zao (λ_=>wpS_pure (bX _ _ ⟨sgm _,.inl ⟨_,_,rfl,pK.end1⟩⟩)) λd=>?_
      have d2:¬n'=0:=λz=>d (beq_iff_eq.mpr z)
      cases n' with
      |zero=>exact absurd rfl d2
      |succ t=>exact zao (λ_=>wpS_pure (bX _ _ ⟨sgm _,.inr ⟨_,t,m2,_,_,_,rfl,by omega,p1,pK,by omega⟩⟩)) λ_=>wpS_pure (bX _ _ ⟨sgm _,_,t,m2,_,_,_,rfl,by omega,p1,pK,by omega⟩)
     refine zao (λkz=>?_) (λkz=>?_)
     ·refine zao (fun _=>wpS_pure (bX _ _ ⟨sgm _,.inl ⟨_,_,rfl,js.end2⟩⟩)) fun d4=>zao (fun _=>wpS_pure (bX _ _ ⟨sgm _,.inl ⟨_,_,rfl,js.end1⟩⟩)) fun d5=>?_
      have d4':¬qu=1:=λz=>d4 (beq_iff_eq.mpr z)
      have d5':¬qu=0:=λz=>d5 (beq_iff_eq.mpr z)
      obtain⟨m2,e2⟩:∃m2,qu=m2+1+1:=⟨qu-2,by omega⟩
      have:=h3 m2 _ (by omega) (by omega) (by rw[←e2];exact js)
      rw[←e2]at this
      exact this
     ·obtain ⟨m2,e2⟩:∃ m2,k3=m2+1:=⟨k3 - 1,by omega⟩
      have:=h3 m2 _ (by omega) (by omega) (by rw[←e2];exact fK)
      rw[←e2]at this
      exact this
    refine zao (λkz=>?_) (λkz=>?_)
    ·refine zao (fun _=>wpS_pure (bX _ _ ⟨sgm _,.inl ⟨_,_,rfl,jr.end1⟩⟩)) fun d=>?_
     have d':¬rL=0:=λz=>d (beq_iff_eq.mpr z)
     obtain⟨n',e1⟩:∃n',rL=n'+1:=⟨rL-1,by omega⟩
     have:=h2 n' _ (by omega) (by omega) (by rw[←e1];exact jr)
     rw[←e1]at this
     exact this
    ·exact h2 i3 _ c1 (Qf _) c3
end
section
variable{prog:Nj}{w:Nl}{A:Nn}{E:Nb}{s:Nh}{kd:SortKind}{a₀:Array Keyed}{p:Array (Nat×Nat×Nat)}{lo:Nat}
structure Bs(kd:SortKind)(a₀:Array Keyed)(p:Array (Nat×Nat×Nat))(st:SortSt):Prop where
 kind:kindOf st=kd
 failed:failedOf st=none
 pend:pendingOf st=p
 perm:(arrOf st).Perm a₀
def Bs.size{st:SortSt}(B:Bs kd a₀ p st):(arrOf st).size=a₀.size:=B.perm.size_eq
def Bs.mem{st:SortSt}(B:Bs kd a₀ p st){i:Nat}(hi:i<a₀.size):∃q,(arrOf st)[i]?=some q∧q∈a₀.toList:=by
 have dM:i<(arrOf st).size:=by rw[B.size];exact hi
 exact⟨_,getElem?_pos _ i dM,(Yi.mp B.perm).mem_iff.mp (by simp)⟩
def zgy{st:SortSt}{i j:Nat}{Q:Option Bool→SortSt→Prop}(C:Cmp prog w A E s kd a₀)(B:Bs kd a₀ p st)(hi:i<a₀.size)(hj:j<a₀.size)(h:∀b,Q (some b) st):wpS (model prog w) A E s (ltAt' i j) Q st:=by
 obtain⟨x,e1,m1⟩:=B.mem hi
 obtain⟨y,e2,m2⟩:=B.mem hj
 rw[ltAt'_eq]
 refine wpS_bind (wpS_get ?_)
 refine wpS_bind (zau e1 (wpS_bind (zau e2 ?_)))
 exact C x y st Q m1 m2 B.kind h
def Bs.mirror{st:SortSt}(B:Bs kd a₀ p st)(i j k:Nat):Bs kd a₀ p (setArr st (mirror (arrOf st) i j k)):=⟨B.kind,B.failed,B.pend,(mirror_perm _ _ _ _).trans B.perm⟩
def Bs.bubble{st:SortSt}(B:Bs kd a₀ p st)(src d:Nat):Bs kd a₀ p (setArr st (bubble (arrOf st) src d)):=⟨B.kind,B.failed,B.pend,(bubble_perm _ _ _).trans B.perm⟩
def wpS_binary{st:SortSt}{n ok:Nat}{Q:Bool→SortSt→Prop}(C:Cmp prog w A E s kd a₀)(hn:lo+n≤a₀.size)(B:Bs kd a₀ p st)(h:∀a8,Bs kd a₀ p a8→Q true a8):wpS (model prog w) A E s (binarySort' lo n ok) Q st:=by
 rw[binarySort'_eq]
 refine wpS_bind (wpS_mono (wpS_forRange (I:=λk c a8=>Aj2 (c=(none,())) (Bs kd a₀ p a8)) (Q:=λc a8=>Aj2 (c=(none,())) (Bs kd a₀ p a8)) ?step (λ_ _ z=>z) ⟨rfl,B⟩) ?post)
 case post =>
  rintro c a8 ⟨rfl,B'⟩
  exact wpS_pure (h a8 B')
 case step =>
  rintro k c a8 hak bx ⟨rfl,B'⟩
  refine wpS_bind (wpS_mono (wpS_forRange
   (I:=λx c eJ=>Aj2 (eJ=a8) (Ex2 λl r=>Aj4 (c=(none,l,r)) (l≤r) (r≤k) (r-l≤k-x)))
   (Q:=λc eJ=>Aj2 (eJ=a8) (Ex1 λl=>Aj2 (c=(none,l,l)) (l≤k))) ?is ?if_ ?ii) ?ip)
  case ii=>exact⟨rfl,0,k,rfl,Zi _,Qf _,Qf _⟩
  case if_ =>
   rintro c eJ ⟨rfl,l,r,rfl,b1,b2,b3⟩
   have:l=r:=by omega
   subst this
   exact⟨rfl,l,rfl,b2⟩
  case is =>
   rintro x c eJ _ hx ⟨rfl,l,r,rfl,b1,b2,b3⟩
   dsimp only
   refine zao (λge=>?_) λge=>wpS_bind (zgy C B' (by omega) (by omega) λb=>?_)
   ·have:l=r:=Nat.le_antisymm b1 ge
    subst this
    exact wpS_pure ⟨rfl,l,rfl,b2⟩
   ·cases b with
    |true=>exact wpS_pure ⟨rfl,l,(l+r)/2,rfl,by omega,by omega,by omega⟩
    |false=>exact wpS_pure ⟨rfl,(l+r)/2+1,r,rfl,by omega,b2,by omega⟩
  case ip =>
   rintro c eJ ⟨rfl,l,rfl,b2⟩
   show wpS _ _ _ _ (do moveDown' (lo+k) (lo+l);pure (ForInStep.yield (none,()))) _ _
   rw[moveDown'_eq]
   exact wpS_bind (wpS_modify (wpS_pure ⟨rfl,B'.bubble _ _⟩))
def jp_rev{α:Type}{c:Prop}[Decidable c]{i j:Nat}{f:Unit→StateT SortSt Sem α}{Q:α→SortSt→Prop}{st:SortSt}(B:Bs kd a₀ p st)(h:∀a8,Bs kd a₀ p a8→wpS (model prog w) A E s (f ()) Q a8):wpS (model prog w) A E s (if c then reverseSlice' i j >>= f else f ()) Q st:=by
 split
 ·exact wpS_bind (wpS_reverse (h _ (B.mirror _ _ _)))
 ·exact h _ B
def wpS_count{st:SortSt}{nrem:Nat}{Q:Option Nat→SortSt→Prop}(C:Cmp prog w A E s kd a₀)(hn:lo+nrem≤a₀.size)(h1:1≤nrem)(B:Bs kd a₀ p st)(h:∀m a8,Bs kd a₀ p a8→1≤m→m≤nrem→Q (some m) a8):wpS (model prog w) A E s (countRun' lo nrem) Q st:=by
 have asc:∀(f:Nat→(Option (Option Nat)×Nat)→StateT SortSt Sem (ForInStep (Option (Option Nat)×Nat))) (a:Nat) (bv:SortSt),1≤a→a≤nrem →
   (∀x y Q',1≤y→y<nrem→Q' (ForInStep.done (none,y)) bv→Q' (ForInStep.yield (none,y+1)) bv→wpS (model prog w) A E s (f x (none,y)) Q' bv) →
   wpS (model prog w) A E s (forIn [a:nrem] (none,a) f) (λc a8=>Aj2 (a8=bv) (Ex1 λn=>Aj3 (c=(none,n)) (a≤n) (n≤nrem))) bv:=by
  intro f a bv a1 a2 hf
  refine wpS_forRange (I:=λx c a8=>Aj2 (a8=bv) (c=(none,x))) ?step ?fin ⟨rfl,rfl⟩
  case fin =>
   rintro c a8 ⟨rfl,rfl⟩
   rw[show max a nrem=nrem by omega]
   exact⟨rfl,nrem,rfl,a2,Qf _⟩
  case step =>
   rintro x c a8 g1 g2 ⟨rfl,rfl⟩
   exact hf x x _ (by omega) g2 ⟨rfl,x,rfl,g1,Wx g2⟩ ⟨rfl,rfl⟩
 have two:∀{bv:SortSt},Bs kd a₀ p bv→∀{y:Nat},1≤y→y<nrem→lo+y<a₀.size∧lo+y-1<a₀.size:=λ_ y y1 y2=>⟨by omega,by omega⟩
 rw[countRun'_eq]
 refine wpS_bind (wpS_mono (asc _ 1 st (Qf _) h1 ?_) ?_)
 ·intro x y Q' y1 y2 q1 q2
  refine wpS_bind (zgy C B (two B y1 y2).1 (two B y1 y2).2 λb=>?_)
  cases b with
  |true=>exact wpS_pure q1
  |false=>exact wpS_pure q2
 rintro c a8 ⟨rfl,n,rfl,n1,n2⟩
 refine zc1 λQ0 bX=>?_
 refine zao (λd=>wpS_pure (bX _ _ (h n _ B n1 n2))) λd=>?_
 have d':n<nrem:=by have:¬n=nrem:=λz=>d (beq_iff_eq.mpr z);omega
 extract_lets -underBinder +onlyGivenNames jp
 have oZ:∀bv,Bs kd a₀ p bv→wpS (model prog w) A E s (jp ()) Q0 bv:=by
  intro bv B1
  refine wpS_bind (wpS_lift (wpAny_rule ⟨rfl,?_⟩))
  refine wpS_bind (wpS_mono (wpS_forRange
   (I:=λx c bJ=>Ex1 λq=>Aj4 (c=(none,x,q)) (Bs kd a₀ p bJ) (2≤x) (x≤nrem))
   (Q:=λc bJ=>Ex2 λx q=>Aj4 (c=(none,x,q)) (Bs kd a₀ p bJ) (2≤x) (x≤nrem)) ?step ?fin ⟨0,rfl,B1,by omega,d'⟩) ?post)
  case fin =>
   rintro c bJ ⟨q,rfl,b1,b2,b3⟩
   exact⟨_,q,rfl,b1,b2,b3⟩
  case step =>
   rintro x c bJ x1 x2 ⟨q,rfl,b1,b2,b3⟩
   refine zc1 λQ1 iP=>?_
   refine wpS_bind (zgy (i:=lo+x) (j:=lo+x-1) C b1 (by omega) (by omega) λe1=>?_)
   cases e1 with
   |true =>
    refine zao (λ_=>?_) (λz=>absurd rfl z)
    exact jp_rev b1 λav B3=>wpS_pure (iP _ _ ⟨0,rfl,B3,by omega,x2⟩)
   |false =>
    refine zao (λz=>absurd z (by decide)) λ_=>wpS_bind (zgy (i:=lo+x-1) (j:=lo+x) C b1 (by omega) (by omega) λe2=>?_)
    cases e2 with
    |true=>exact zao (λ_=>wpS_pure (iP _ _ ⟨x,q,rfl,b1,b2,b3⟩)) (λz=>absurd rfl z)
    |false=>exact zao (λz=>absurd z (by decide)) λ_=>wpS_pure (iP _ _ ⟨q+1,rfl,b1,by omega,x2⟩)
  case post =>
   rintro c bJ ⟨x,q,rfl,b1,b2,b3⟩
   refine jp_rev b1 λav B3=>?_
   refine wpS_bind (wpS_reverse ?_)
   have B6:=B3.mirror lo (lo+x) ((lo+x-lo)/2)
   refine wpS_bind (wpS_mono (asc _ x _ (by omega) b3 ?_) ?_)
   ·intro z y Q' y1 y2 q1 q2
    refine wpS_bind (zgy C B6 (two B6 y1 y2).1 (two B6 y1 y2).2 λb=>?_)
    cases b with
    |true=>exact wpS_pure q1
    |false=>exact wpS_pure q2
   ·rintro c st6 ⟨rfl,m,rfl,m1,m2⟩
    exact wpS_pure (bX _ _ (h m _ B6 (by omega) m2))
 refine zao (λd2=>?_) λd2=>oZ _ B
 refine wpS_bind (zgy C B (by omega) (by omega) λe=>?_)
 cases e with
 |true=>exact zao (λ_=>wpS_pure (bX _ _ (h n _ B n1 n2))) (λz=>absurd rfl z)
 |false=>exact zao (λz=>absurd z (by decide)) λ_=>wpS_bind (wpS_reverse (oZ _ (B.mirror _ _ _)))
end
def PL:List (Nat×Nat×Nat)→Nat→Nat→Prop
 |[],off,tot=>off=tot
 |q::ps,off,tot=>q.1=off∧0<q.2.1∧PL ps (off+q.2.1) tot
def PL.split{iq:List (Nat×Nat×Nat)}{tot:Nat}:∀{dw:List (Nat×Nat×Nat)} {off:Nat},PL (dw++iq) off tot→∃mid,PL dw off mid∧PL iq mid tot:=by
 intro dw
 induction dw with
 |nil=>intro off h;exact⟨off,rfl,h⟩
 |cons q ps ih =>
  intro off h
  obtain⟨mid,a,b⟩:=ih h.2.2
  exact⟨mid,⟨h.1,h.2.1,a⟩,b⟩
def PL.join{iq:List (Nat×Nat×Nat)}{mid tot:Nat}:∀{dw:List (Nat×Nat×Nat)} {off:Nat},PL dw off mid→PL iq mid tot→PL (dw++iq) off tot:=by
 intro dw
 induction dw with
 |nil=>intro off a b;cases(show off=mid from a);exact b
 |cons q ps ih=>intro off a b;exact⟨a.1,a.2.1,ih a.2.2 b⟩
def PL.len{tot:Nat}:∀{ps:List (Nat×Nat×Nat)} {off:Nat},PL ps off tot→off+ps.length≤tot:=by
 intro ps
 induction ps with
 |nil=>intro off h;exact Nat.le_of_eq h
 |cons q ps ih =>
  intro off h
  have:=ih h.2.2
  have:=h.2.1
  rw[Qx];omega
def put_back{sa:Nat}:∀ (l:List Keyed) (n:Nat) (arr:Array Keyed) (F M S:List Keyed),arr.toList=F++(M++S)→F.length=sa+n→M.length=l.length →
  ((l.zipIdx n).foldl (λ(a:Array Keyed) (q:Keyed×Nat)=>a.setIfInBounds (sa+q.2) q.1) arr).toList=F++(l++S):=by
 intro l
 induction l with
 |nil =>
  intro n arr F M S e _ hl
  have:M=[]:=List.length_eq_zero_iff.mp (by simpa using hl)
  rw[this]at e
  simpa using e
 | cons p l ih =>
  intro n arr F M S e hf hl
  cases M with
  |nil=>simp at hl
  | cons m M =>
   rw[List.zipIdx_cons,Jg]
   have e2:(arr.setIfInBounds (sa+n) p).toList=(F++[p])++(M++S):=by
    rw[Array.toList_setIfInBounds,e,←hf,List.set_append_right _ _ (Qf _),Nat.sub_self]
    simp
   rw[ih (n+1) _ (F++[p]) M S e2 (by rw[Qo];simp;omega) (by simpa using hl)]
   simp
section
variable{prog:Nj}{w:Nl}{A:Nn}{E:Nb}{s:Nh}{kd:SortKind}{a₀:Array Keyed}
structure Rn(kd:SortKind)(a₀:Array Keyed)(tot:Nat)(st:SortSt):Prop where
 kind:kindOf st=kd
 failed:failedOf st=none
 perm:(arrOf st).Perm a₀
 pend:PL (pendingOf st).toList 0 tot
 le:tot≤a₀.size
def of_perm{xs:Array Keyed}(h:xs.Perm a₀):Of a₀ xs:=λi p e=>by
 refine(Yi.mp h).mem_iff.mp ?_
 have:xs.toList[i]?=some p:=by simpa using e
 exact Yv this
def of_ext{xs:Array Keyed}(h:xs.Perm a₀)(i j:Nat):Of a₀ (xs.extract i j):=λk p e=>by
 have e1:(xs.extract i j).toList[k]?=some p:=by rw[Uf];exact e
 have:=Yv e1
 rw[Array.toList_extract,Kq]at this
 exact(Yi.mp h).mem_iff.mp (Ui (We this))
def wpS_set{Q:PUnit→SortSt→Prop}{st a8:SortSt}(h:Q ⟨⟩ a8):wpS (model prog w) A E s (set a8:StateT SortSt Sem PUnit) Q st:=by
 unfold wpS;rw[StateT.run_set];exact wpAny_pure ⟨rfl,h⟩
def zfq{i tot:Nat}{Q:Bool→SortSt→Prop}{st:SortSt}(C:Cmp prog w A E s kd a₀)(R:Rn kd a₀ tot st)(hi:i+1 < (pendingOf st).size)(h:∀a8,Rn kd a₀ tot a8→(pendingOf a8).size+1=(pendingOf st).size→Q true a8):wpS (model prog w) A E s (mergeAt' i) Q st:=by
 obtain⟨dw,q1,q2,iq,hp,hl⟩:∃dw q1 q2 iq,(pendingOf st).toList=dw++q1::q2::iq∧dw.length=i:=by
  have h1:i<(pendingOf st).toList.length:=by simp;omega
  have h2:i+1<(pendingOf st).toList.length:=by simp;omega
  refine⟨(pendingOf st).toList.take i,(pendingOf st).toList[i],(pendingOf st).toList[i+1],(pendingOf st).toList.drop (i+2),?_,by rw[Zn];omega⟩
  rw[←Kr h2,←Kr h1,Wc]
 have pr:=R.pend
 rw[hp]at pr
 obtain⟨sa,pr1,e1,hA,e2,hB,rQ⟩:=pr.split
 obtain⟨aA,na,pw⟩:=q1
 obtain⟨sb',nb,pw2⟩:=q2
 dsimp only at e1 hA e2 hB rQ
 subst e1 e2
 have x1:(pendingOf st)[i]?=some (aA,na,pw):=by
  have:(pendingOf st)[i]?=(pendingOf st).toList[i]?:=by simp
  rw[this,hp,←hl];simp
 have x2:(pendingOf st)[i+1]?=some (aA+na,nb,pw2):=by
  have:(pendingOf st)[i+1]?=(pendingOf st).toList[i+1]?:=by simp
  rw[this,hp,←hl];simp
 have hsz:aA+na+nb≤(arrOf st).size:=by
  have:=rQ.len
  have:=R.le
  rw[R.perm.size_eq];omega
 have oA:=of_perm R.perm
 have mem:∀j (hj:j<(arrOf st).size),(arrOf st)[j]∈a₀.toList:=λj hj=>oA j _ (getElem?_pos _ j hj)
 have fin:∀(a8:SortSt),kindOf a8=kd→failedOf a8=none→(arrOf a8).Perm a₀→pendingOf a8=((pendingOf st).setIfInBounds i (aA,na+nb,pw)).eraseIdxIfInBounds (i+1)→Q true a8:=by
  intro a8 m3 m4 m5 m6
  have e:(pendingOf a8).toList=dw++(aA,na+nb,pw)::iq:=by
   rw[m6]
   have e1:((pendingOf st).setIfInBounds i (aA,na+nb,pw)).toList=dw++(aA,na+nb,pw)::(aA+na,nb,pw2)::iq:=by
    rw[Array.toList_setIfInBounds,hp,←hl,List.set_append_right _ _ (Qf _),Nat.sub_self]
    rfl
   rw[Array.toList_eraseIdxIfInBounds,e1,←hl,List.eraseIdx_append_of_length_le (Yr _ _)]
   simp
  refine h a8 ⟨m3,m4,m5,?_,R.le⟩ ?_
  ·rw [e]
   exact pr1.join ⟨rfl,Nat.add_pos_left hA _,by rw[←Nat.add_assoc];exact rQ⟩
  ·rw[←Wa,←Wa,e,hp];simp;omega
 unfold mergeAt'
 refine wpS_bind (wpS_get ?_)
 rw[x1,x2]
 dsimp only
 refine wpS_bind (wpS_set ?_)
 have mQ:aA+na<(arrOf st).size:=by omega
 refine wpS_bind (zau (getElem?_pos (arrOf st) (aA+na) mQ) ?_)
 refine wpS_bind (zcg (arr:=arrOf st) (base:=aA) (n:=na) (hint:=0) C R.kind oA (mem _ mQ) (by omega) hA λk k1=>?_)
 refine zao (λc1=>wpS_pure (fin _ R.kind R.failed R.perm rfl)) λc1=>?_
 have n6:¬na-k=0:=λz=>c1 (beq_iff_eq.mpr z)
 have hla:aA+k+(na-k)-1<(arrOf st).size:=by omega
 refine wpS_bind (zau (getElem?_pos (arrOf st) (aA+k+(na-k)-1) hla) ?_)
 refine wpS_bind (zcg (arr:=arrOf st) (base:=aA+na) (n:=nb) (hint:=nb-1) C R.kind oA (mem _ hla) (by omega) (by omega) λm n1=>?_)
 refine zao (λc2=>wpS_pure (fin _ R.kind R.failed R.perm rfl)) λc2=>?_
 have qt:¬m=0:=λz=>c2 (beq_iff_eq.mpr z)
 have qv:(arrOf st).toList=(arrOf st).toList.take (aA+k)++((((arrOf st).extract (aA+k) (aA+na)).toList++((arrOf st).extract (aA+na) (aA+na+m)).toList)++(arrOf st).toList.drop (aA+na+m)):=by
  rw[←Qt,←Qt,zfi (by omega) (by omega),zfi (by omega) (by omega),Wc]
 have oX:=of_ext R.perm (aA+k) (aA+na)
 have oY:=of_ext R.perm (aA+na) (aA+na+m)
 have zX:0<((arrOf st).extract (aA+k) (aA+na)).size:=by rw[Array.size_extract];omega
 have zY:0<((arrOf st).extract (aA+na) (aA+na+m)).size:=by rw[Array.size_extract];omega
 have done:∀(res:Array Keyed) (a8:SortSt),res.toList.Perm (((arrOf st).extract (aA+k) (aA+na)).toList++((arrOf st).extract (aA+na) (aA+na+m)).toList)→SG (SortSt.mk' (kindOf st) (arrOf st) (((pendingOf st).setIfInBounds i (aA,na+nb,pw)).eraseIdxIfInBounds (i+1)) (gallopOf st) (failedOf st)) a8 →
   wpS (model prog w) A E s (do
    modify λz=>SortSt.mk' (kindOf z) (res.toList.zipIdx.foldl (λ(a:Array Keyed) (q:Keyed×Nat)=>a.setIfInBounds (aA+k+q.2) q.1) (arrOf z)) (pendingOf z) (gallopOf z) (failedOf z)
    let z ←get
    pure (failedOf z).isNone) Q a8:=by
  intro res a8 mg ⟨g,est⟩
  subst est
  refine wpS_bind (wpS_modify (wpS_bind (wpS_get ?_)))
  have oH:failedOf st=none:=R.failed
  show wpS _ _ _ _ (pure (failedOf st).isNone) _ _
  rw[oH]
  refine wpS_pure (fin _ R.kind rfl ?_ rfl)
  have pb:=put_back (sa:=aA+k) res.toList 0 (arrOf st) _ _ _ qv (by rw[Zn,Wa];omega) mg.length_eq.symm
  refine Yi.mpr (List.Perm.trans ?_ (Yi.mp R.perm))
  refine List.Perm.trans (List.Perm.of_eq pb) ?_
  conv=>rhs;rw[qv]
  exact Zz _ (List.Perm.append_right _ mg)
 exact zao (λ_=>wpS_bind (wpS_mergeLo C R.kind oX oY zX zY done)) λ_=>wpS_bind (wpS_mergeHi C R.kind oX oY zX zY done)
end
section
variable{prog:Nj}{w:Nl}{A:Nn}{E:Nb}{s:Nh}{kd:SortKind}{a₀:Array Keyed}
def PL.congr:∀{ps lV:List (Nat×Nat×Nat)} {off:Nat},(ps.map λq=>(q.1,q.2.1))=(lV.map λq=>(q.1,q.2.1))→PL ps off tot→PL lV off tot:=by
 intro ps
 induction ps with
 |nil =>
  intro lV off e h
  cases lV with
  |nil=>exact h
  |cons q r=>cases e
 | cons q ps ih =>
  intro lV off e h
  cases lV with
  |nil=>cases e
  |cons q' r =>
   rw[Qm,Qm]at e
   obtain⟨e1,e2⟩:=List.cons.inj e
   obtain⟨e3,e4⟩:=Yu e1
   exact⟨e3.symm.trans h.1,e4▸h.2.1,ih e2 (e4▸h.2.2)⟩
def map_mod(f:Nat×Nat×Nat→Nat×Nat×Nat)(hf:∀q,((f q).1,(f q).2.1)=(q.1,q.2.1))(l:List (Nat×Nat×Nat))(i:Nat):((l.modify i f).map λq=>(q.1,q.2.1))=l.map λq=>(q.1,q.2.1):=by
 apply List.ext_getElem?
 intro k
 rw[Qz,Qz,List.getElem?_modify]
 cases l[k]? with
 |none=>simp
 |some q =>
  by_cases e:i=k
  ·simp[e];exact Yu (hf q)
  ·simp[e]
def Rn.mod{tot:Nat}{st:SortSt}(R:Rn kd a₀ tot st)(i:Nat)(f:Nat×Nat×Nat→Nat×Nat×Nat)(hf:∀q,((f q).1,(f q).2.1)=(q.1,q.2.1)):Rn kd a₀ tot (setPending st ((pendingOf st).modify i f)) :=
 ⟨R.kind,R.failed,R.perm,by
  show PL ((pendingOf st).modify i f).toList 0 tot
  rw[Array.toList_modify]
  exact R.pend.congr (map_mod f hf _ i).symm,R.le⟩
def zfp{st:SortSt}{Q:Unit→SortSt→Prop}(C:Cmp prog w A E s kd a₀)(hk:kindOf st=kd)(hf:failedOf st=none)(hp:(arrOf st).Perm a₀)(bn:pendingOf st=#[])(h:∀a8,(arrOf a8).Perm a₀→failedOf a8=none→Q () a8):wpS (model prog w) A E s sortRuns' Q st:=by
 have R0:Rn kd a₀ 0 st:=⟨hk,hf,hp,by rw[bn];rfl,Zi _⟩
 rw[sortRuns'_eq]
 refine wpS_bind (wpS_get ?_)
 dsimp -zeta only
 have hz:(arrOf st).size=a₀.size:=hp.size_eq
 rw[hz]
 refine wpS_bind (wpS_mono (wpS_forRange
  (I:=λx c a8=>Ex1 λtot=>Aj3 (c=(none,tot)) (Rn kd a₀ tot a8) (x≤tot))
  (Q:=λc a8=>Ex1 λtot=>Aj3 (c=(none,tot)) (Rn kd a₀ tot a8) (a₀.size≤tot)) ?step ?fin ⟨0,rfl,R0,Zi _⟩) ?post)
 case fin =>
  rintro c a8 ⟨tot,rfl,R,hx⟩
  exact⟨tot,rfl,R,by omega⟩
 case step =>
  rintro x c bv _ hx ⟨tot,rfl,R,hx2⟩
  refine zc1 λQ0 bX=>?_
  refine zao (λc0=>wpS_pure (bX _ _ ⟨tot,rfl,R,c0⟩)) λc0=>?_
  have B0:Bs kd a₀ (pendingOf bv) bv:=⟨R.kind,R.failed,rfl,R.perm⟩
  refine wpS_bind (wpS_count (lo:=tot) (nrem:=a₀.size-tot) C (by omega) (by omega) B0 λm bJ B2 m1 m2=>?_)
  dsimp -zeta only
  extract_lets -underBinder +onlyGivenNames n0 jp
  have oZ:∀(n':Nat) (av:SortSt),1≤n'→tot+n'≤a₀.size→Bs kd a₀ (pendingOf bv) av→wpS (model prog w) A E s (jp () n') Q0 av:=by
   intro n' av l1 l2 B3
   have R3:Rn kd a₀ tot av:=⟨B3.kind,B3.failed,B3.perm,by rw[B3.pend];exact R.pend,R.le⟩
   have push:∀aY,Rn kd a₀ tot aY→Rn kd a₀ (tot+n') (setPending aY ((pendingOf aY).push (tot,n',0))):=λaY R4 =>
    ⟨R4.kind,R4.failed,R4.perm,by show PL ((pendingOf aY).push _).toList 0 _;rw[Js];exact R4.pend.join ⟨rfl,l1,rfl⟩,l2⟩
   refine wpS_bind (wpS_get ?_)
   extract_lets -underBinder +onlyGivenNames jp2
   have oW:∀aY,Rn kd a₀ tot aY→wpS (model prog w) A E s (jp2 ()) Q0 aY:=λaY R4=>wpS_bind (wpS_modify (wpS_pure (bX _ _ ⟨tot+n',rfl,push aY R4,by omega⟩)))
   cases(pendingOf av).back? with
   |none=>exact oW _ R3
   | some q =>
    obtain⟨s1,n1,o1⟩:=q
    refine wpS_bind (wpS_mono (wpS_forRange (I:=λ_ c aY=>Aj2 (c=(none,())) (Rn kd a₀ tot aY)) (Q:=λc aY=>Aj2 (c=(none,())) (Rn kd a₀ tot aY)) ?istep (λ_ _ z=>z) ⟨rfl,R3⟩) ?ipost)
    case istep =>
     rintro y c aY _ _ ⟨rfl,R4⟩
     refine zc1 λQ1 iP=>wpS_bind (wpS_get ?_)
     dsimp only
     by_cases hs:(pendingOf aY).size>1
     ·rw [if_pos hs,getElem?_pos (pendingOf aY) ((pendingOf aY).size - 2) (by omega)]
      refine zao (λ_=>wpS_pure (iP _ _ ⟨rfl,R4⟩)) λ_=>wpS_bind (zfq C R4 (by omega) λny R5 _=>?_)
      exact zao (λz=>absurd z (by decide)) λ_=>wpS_pure (iP _ _ ⟨rfl,R5⟩)
     ·rw [if_neg hs]
      exact wpS_pure (iP _ _ ⟨rfl,R4⟩)
    case ipost =>
     rintro c aY ⟨rfl,R4⟩
     exact wpS_bind (wpS_modify (oW _ (R4.mod _ _ λq=>rfl)))
  refine zao (λc1=>?_) λc1=>oZ m bJ m1 (by omega) B2
  have n6:m<minRun' a₀.size a₀.size 0:=c1
  refine wpS_bind (wpS_lift (wpAny_rule ⟨rfl,?_⟩))
  refine wpS_bind (wpS_binary (lo:=tot) (n:=min (a₀.size-tot) (minRun' a₀.size a₀.size 0)) C (by omega) B2 λav B3=>?_)
  exact zao (λz=>absurd z (by decide)) λ_=>oZ _ av (by omega) (by omega) B3
 case post =>
  rintro c bv ⟨tot,rfl,R,hx⟩
  refine wpS_bind (wpS_mono (wpS_forRange (I:=λ_ c aY=>Aj2 (c=(none,())) (Rn kd a₀ tot aY)) (Q:=λc aY=>Aj2 (c=(none,())) (Rn kd a₀ tot aY)) ?istep (λ_ _ z=>z) ⟨rfl,R⟩) ?ipost)
  case istep =>
   rintro y c aY _ _ ⟨rfl,R4⟩
   refine zc1 λQ1 iP=>wpS_bind (wpS_get ?_)
   dsimp only
   refine zao (λ_=>wpS_pure (iP _ _ ⟨rfl,R4⟩)) λhs=>wpS_bind (zfq C R4 ?_ λny R5 _=>?_)
   ·repeat' split
    all_goals omega
   ·exact zao (λz=>absurd z (by decide)) λ_=>wpS_pure (iP _ _ ⟨rfl,R5⟩)
  case ipost =>
   rintro c aY ⟨rfl,R4⟩
   exact wpS_pure (h aY R4.perm R4.failed)
end
end Tm
end
section
namespace Tm
open PySem PyProof.Rows PySem.W
section
variable{O:KeyOrd}{kf:Nat→O.α}{n:Nat}{s:Nh}{cmp:Nat→Nat→(Bool→Shared→Prop)→Shared→Prop}
def kk(kf:Nat→O.α)(p:Array Nat)(i:Nat):O.α:=kf (p.getD i 0)
def kk_rev{p:Array Nat}{i j:Nat}(hj:j≤p.size)(k:Nat):kk kf (kas_rev p i j) k=if i≤k∧k<j then kk kf p (i+j-1-k) else kk kf p k:=by
 unfold kk kas_rev
 simp only[Wy,getElem?_mirror_all hj k]
 split<;>rfl
def kk_bub(hs:a<p.size)(hd:d≤a)(k:Nat):kk kf (bubble p a d) k=if k=a-d then kk kf p a else if a-d<k∧k≤a then kk kf p (k-1) else kk kf p k:=by
 unfold kk
 simp only[Wy,getElem?_bubble hs d hd k]
 repeat' split
 all_goals rfl
def Up(kf:Nat→O.α)(p:Array Nat)(k:Nat):Prop:=∀i j,i≤j→j<k→O.kle (kk kf p i) (kk kf p j)
def Dn(kf:Nat→O.α)(p:Array Nat)(k:Nat):Prop:=∀i j,i≤j→j<k→O.kle (kk kf p j) (kk kf p i)
def Up.snoc{p:Array Nat}{a:Nat}(h1:1≤a)(h:Up kf p a)(e:O.kle (kk kf p (a-1)) (kk kf p a)):Up kf p (a+1):=λi j cN hj=>by
 by_cases z:j<a
 ·exact h i j cN z
 obtain rfl:j=a:=by omega
 by_cases z2:i=j
 ·subst z2;exact Kg _
 ·exact Uy (h i (j-1) (by omega) (by omega)) e
def Dn.snoc{p:Array Nat}{a:Nat}(h1:1≤a)(h:Dn kf p a)(e:O.kle (kk kf p a) (kk kf p (a-1))):Dn kf p (a+1):=λi j cN hj=>by
 by_cases z:j<a
 ·exact h i j cN z
 obtain rfl:j=a:=by omega
 by_cases z2:i=j
 ·subst z2;exact Kg _
 ·exact Uy e (h i (j-1) (by omega) (by omega))
structure Ar(n:Nat)(p:Array Nat):Prop where
 sz:p.size=n
 lt:∀i,0<n→p.getD i 0<n
 pm:p.Perm (List.toArray (List.range n))
def Ar.of(h:p.Perm (List.toArray (List.range n))):Ar n p:=by
 have z:p.size=n:=by rw[h.size_eq];simp
 refine⟨z,λi h0=>?_,h⟩
 by_cases hi:i<p.size
 ·have:p[i]∈List.range n:=(Yi.mp h).mem_iff.mp (by simp)
  rw[Wy,getElem?_pos p i hi]
  exact Ud.mp this
 ·rw[Wy,getElem?_neg p i hi];exact h0
def Ar.rev{p:Array Nat}(h:Ar n p)(i j:Nat):Ar n (kas_rev p i j):=.of ((mirror_perm _ _ _ _).trans h.pm)
def Ar.bub(h:Ar n p)(i j:Nat):Ar n (bubble p i j):=.of ((bubble_perm _ _ _).trans h.pm)
variable(h0:0<n)(hc:∀i j C,i<n→j<n→C (O.blt (kf i) (kf j)) s→cmp i j C s)
include h0 hc
theorem t_ask{p:Array Nat}(P:Ar n p){α:Type}{i j:Nat}{k:Bool→KasT α}{Q:α→Shared→Prop}(h1:O.klt (kk kf p i) (kk kf p j)→(k true).kasWp cmp Q s)(h2:O.kle (kk kf p j) (kk kf p i)→(k false).kasWp cmp Q s):(KasT.ask (p.getD i 0) (p.getD j 0) k).kasWp cmp Q s:=by
 refine hc _ _ _ (P.lt _ h0) (P.lt _ h0) ?_
 cases e:O.blt (kf (p.getD i 0)) (kf (p.getD j 0)) with
 |true=>exact h1 e
 |false=>exact h2 e
theorem t_asc(P:Ar n p){Q:Nat→Shared→Prop}:∀(f a:Nat),1≤a→a+f≤n→Up kf p a→(∀m,a≤m→m≤a+f→Up kf p m→(m=a+f∨O.klt (kk kf p m) (kk kf p (m-1)))→Q m s)→(kas_asc p f a).kasWp cmp Q s
 |0,a,_,_,hs,h=>h a (Qf _) (Qf _) hs (.inl rfl)
 |f+1,a,h1,hn,hs,h=>t_ask h0 hc P (λe=>h a (Qf _) (by omega) hs (.inr e)) λe=>t_asc P f (a+1) (by omega) (by omega) (hs.snoc h1 e) λm h2 h3=>h m (by omega) (by omega)|>λq h4 h5=>q h4 (h5.imp (by omega) id)
theorem t_desc{Q:Array Nat×Nat×Nat→Shared→Prop}:∀(f:Nat) (p:Array Nat) (a q:Nat),Ar n p→1≤a→a+f≤n→Dn kf p a→q<a→(∀i,a-(q+1)≤i→i<a→kk kf p i=kk kf p (a-1))→(∀p' m q',Ar n p'→a≤m→m≤a+f→Dn kf p' m→q'<m→(∀i,m-(q'+1)≤i→i<m→kk kf p' i=kk kf p' (m-1))→Q (p',m,q') s)→(kas_desc f p a q).kasWp cmp Q s
 |0,p,a,q,P,_,_,hs,hq,he,h=>h p a q P (Qf _) (Qf _) hs hq he
 | f+1,p,a,q,P,h1,hn,hs,hq,he,h=>by
  have again:∀p',Ar n p'→Dn kf p' (a+1)→∀q'<a+1,(∀i,a+1-(q'+1)≤i→i<a+1→kk kf p' i=kk kf p' (a+1-1))→(kas_desc f p' (a+1) q').kasWp cmp Q s:=λp' P' bj q' fT br=>t_desc f p' (a+1) q' P' (by omega) (by omega) bj fT br λp2 m q2 P2 h3 h4=>h p2 m q2 P2 (by omega) (by omega)
  have one:∀(p':Array Nat) (i:Nat),a+1-(0+1)≤i→i<a+1→kk kf p' i=kk kf p' (a+1-1):=λp' i h2 h3=>by rw[show i=a+1-1 by omega]
  refine t_ask h0 hc P (λe=>?_) λe=>?_
  ·rw [if_pos rfl]
   have same:∀k,kk kf (kas_rev p (a-(q+1)) a) k=kk kf p k:=λk=>by
    rw[kk_rev (by rw[P.sz];omega)]
    split
    ·rw[he _ (by omega) (by omega),he k (by omega) (by omega)]
    ·rfl
   split
   ·refine again _ (P.rev _ _) (fun i j cN hj=>?_) 0 (by omega) (one _)
    rw[same,same]
    exact hs.snoc h1 (Ko e) i j cN hj
   ·exact again _ P (hs.snoc h1 (Ko e)) 0 (by omega) (one _)
  ·rw [if_neg (by simp)]
   refine t_ask h0 hc P (λe2=>?_) λe2=>?_
   ·rw[if_pos rfl];exact h p a q P (Qf _) (by omega) hs hq he
   ·rw [if_neg (by simp)]
    have eq:=KeyOrd.kle_antisymm e2 e
    refine again _ P (hs.snoc h1 e2) (q+1) (by omega) λi h2 h3=>?_
    rw[Nat.add_sub_cancel]
    by_cases z:i=a
    ·rw[z]
    ·rw[he i (by omega) (by omega),eq]
theorem t_tail(P:Ar n p)(h1:1≤m)(hm:m≤n)(hs:Dn kf p m)(h:∀p' k,Ar n p'→1≤k→k≤n→Up kf p' k→Q (k,p') s):(kas_tail3 m n p).kasWp cmp Q s:=by
 unfold kas_tail3
 rw[Ky]
 refine t_asc h0 hc (P.rev 0 m) _ m h1 (by omega) (λi j cN hj=>?_) λk h2 h3 h4 _=>h _ k (P.rev 0 m) (by omega) (by omega) h4
 rw[kk_rev (by rw[P.sz];omega),kk_rev (by rw[P.sz];omega),if_pos (by omega),if_pos (by omega)]
 exact hs _ _ (by omega) (by omega)
theorem t_dpart(P:Ar n p)(hm:m+1≤n)(hs:Dn kf p (m+1))(h:∀p' k,Ar n p'→1≤k→k≤n→Up kf p' k→Q (k,p') s):(kas_descPart m n p).kasWp cmp Q s:=by
 unfold kas_descPart
 rw[Ky]
 refine t_desc h0 hc _ p (m+1) 0 P (by omega) (by omega) hs (by omega) (λi h2 h3=>by rw[show i=m+1-1 by omega]) λp' k q P' h2 h3 bj hq he=>?_
 dsimp only
 split
 ·refine t_tail h0 hc (P'.rev _ _) (by omega) (by omega) (fun i j cN hj=>?_) h
  have same:∀i,kk kf (kas_rev p' (k-(q+1)) k) i=kk kf p' i:=λi=>by
   rw[kk_rev (by rw[P'.sz];omega)]
   split
   ·rw[he _ (by omega) (by omega),he i (by omega) (by omega)]
   ·rfl
  rw[same,same]
  exact bj i j cN hj
 ·exact t_tail h0 hc P' (by omega) (by omega) bj h
theorem t_count(P:Ar n p){Q:Nat×Array Nat→Shared→Prop}(h:∀p' k,Ar n p'→1≤k→k≤n→Up kf p' k→Q (k,p') s):(kas_count n p).kasWp cmp Q s:=by
 unfold kas_count
 rw[Ky]
 refine t_asc h0 hc P _ 1 (Qf _) (by omega) (λi j cN hj=>by rw[show i=j by omega];exact Kg _) λm h1 h2 hs jK=>?_
 split
 ·exact h p m P h1 (by omega) hs
 rename_i ap
 have hmn:m≠n:=by simpa using ap
 have aa:=jK.resolve_left (by omega)
 split
 ·refine t_ask h0 hc P (fun _=>?_) fun e=>?_
  ·rw[if_pos rfl];exact h p m P h1 (by omega) hs
  ·rw [if_neg (by simp)]
   have all:∀k,k<m→kk kf p k=kk kf p (m-1):=λk hk=>KeyOrd.kle_antisymm (hs k (m-1) (by omega) (by omega)) (Uy e (hs 0 k (by omega) hk))
   have same:∀k,kk kf (kas_rev p 0 m) k=kk kf p k:=λk=>by
    rw[kk_rev (by rw[P.sz];omega)]
    split
    ·rw[all _ (by omega),all k (by omega)]
    ·rfl
   refine t_dpart h0 hc (P.rev 0 m) (by omega) (Dn.snoc h1 (λi j cN hj=>?_) (by rw[same,same];exact Ko aa)) h
   rw[same,same,all i (by omega),all j hj]
   exact Kg _
 ·obtain rfl:m=1:=by omega
  exact t_dpart h0 hc P (by omega) (Dn.snoc (Qf _) (λi j cN hj=>by rw[show i=j by omega];exact Kg _) (Ko aa)) h
theorem t_place{k:Nat}(P:Ar n p)(hs:Up kf p k){Q:Nat→Shared→Prop}:∀(f l r:Nat),l≤r→r≤k→r-l≤f→(∀i,i<l→O.kle (kk kf p i) (kk kf p k))→(∀i,r≤i→i<k→O.klt (kk kf p k) (kk kf p i))→(∀l,l≤k→(∀i,i<l→O.kle (kk kf p i) (kk kf p k))→(∀i,l≤i→i<k→O.klt (kk kf p k) (kk kf p i))→Q l s)→(kas_place p k f l r).kasWp cmp Q s
 |0,l,r,h1,h2,h3,h4,h5,h=>h l (by omega) h4 λi q=>h5 i (by omega)
 | f+1,l,r,h1,h2,h3,h4,h5,h=>by
  unfold kas_place
  split
  ·exact h l (by omega) h4 λi q=>h5 i (by omega)
  ·refine t_ask h0 hc P (fun e=>?_) fun e=>?_
   ·rw [if_pos rfl]
    exact t_place P hs f l _ (by omega) (by omega) (by omega) h4 (λi q1 q2=>KeyOrd.klt_of_klt_of_kle e (hs _ _ q1 q2)) h
   ·rw [if_neg (by simp)]
    exact t_place P hs f _ r (by omega) h2 (by omega) (λi q=>Uy (hs i ((l+r)/2) (by omega) (by omega)) e) h5 h
theorem t_bin(h:∀p,Ar n p→Up kf p n→Q p s):∀(f:Nat) (p:Array Nat) (k:Nat),Ar n p→Up kf p k→k+f=n→(kas_bin f p k).kasWp cmp Q s
 |0,p,k,P,hs,e=>h p P (by rwa[←e])
 | f+1,p,k,P,hs,e=>by
  unfold kas_bin
  rw[Ky]
  refine t_place h0 hc P hs k 0 k (by omega) (by omega) (by omega) (λi q=>absurd q (by omega)) (λi q1 q2=>absurd q2 (by omega)) λl hl hlo hhi=>t_bin h f _ (k+1) (P.bub _ _) (λi j cN hj=>?_) (by omega)
  have hk:k<p.size:=by rw[P.sz];omega
  rw[kk_bub hk (by omega),kk_bub hk (by omega),show k-(k-l)=l by omega]
  repeat' split
  all_goals first
   |(exfalso;omega)
   |exact Kg _
   |exact hlo _ (by omega)
   |exact Ko (hhi _ (by omega) (by omega))
   |exact hs _ _ (by omega) (by omega)
theorem t_sort(h:∀p,Ar n p→Up kf p n→Q p s):(kas_sort n).kasWp cmp Q s:=by
 unfold kas_sort
 rw[Ky]
 refine t_count h0 hc (.of (Array.Perm.refl _)) λp k P h1 h2 hs=>?_
 dsimp only
 split
 ·exact t_bin h0 hc h _ p _ P (by rwa[Nat.max_eq_left h1]) (by omega)
 ·exact h p P (by rwa[show k=n by omega]at hs)
end
open AutoSeq1 (wpAny_loadPart')
open MeetsSeq MeetsSeq2 MeetsSeq3 SeqRoads2
section
variable{prog:Nj}{w:Nl}{A:Nn}{E:Nb}{s:Nh}{R:List Value→Prop}{vs:Ni}
structure zb3(prog:Nj)(w:Nl)(A:Nn)(E:Nb)(s:Nh)(R:List Value→Prop)(vs:Ni):Prop where
 few:vs.length<2→R vs
 go:2≤vs.length→∃kd:SortKind,(∀Q:SortKind→Shared→Prop,Q kd s→wpAny (model prog w) A (keyKind' vs.toArray) Q E s) ∧
  ∀Q:Unit→SortSt→Prop,(∀a8,(arrOf a8).Perm (pairsOf vs)→failedOf a8=none→R ((arrOf a8).toList.map (·.2))→Q () a8)→wpS (model prog w) A E s sortRuns' Q (SortSt.mk' kd (vs.toArray.zip vs.toArray) #[] 7 none)
def zdn(vs:Ni):(pairsOf vs).toList=vs.map λv=>(v,v):=by
 rw[pairsOf_toList]
 induction vs with
 |nil=>rfl
 |cons v r ih=>rw[List.zip_cons_cons,Qm,ih]
def perm_back{l:List Keyed}{vs:Ni}(h:l.Perm (vs.map λv=>(v,v))):(l.map (·.2)).Perm vs:=by
 have:=h.map (·.2)
 rwa[Zq,show((λ(p:Keyed)=>p.2)∘λv=>(v,v))=id from rfl,List.map_id]at this
def cmp_of{kd:SortKind}(h:∀x y,x∈vs→y∈vs→∀(Q:Bool→Shared→Prop) (E':Value→Shared→Prop),(∀b,Q b s)→wpAny (model prog w) A (keyLt' kd x y) Q E' s):Cmp prog w A E s kd (pairsOf vs):=by
 intro x y st Q hx hy hk q
 rw[zdn]at hx hy
 obtain⟨v,hv,rfl⟩:=Qk.mp hx
 obtain⟨u,hu,rfl⟩:=Qk.mp hy
 rw[lt'_eq]
 refine wpS_bind (wpS_get ?_)
 rw[hk]
 refine wpS_bind (wpS_lift (wpAny_attempt (h v u hv hu _ _ λb=>⟨rfl,?_⟩)))
 exact wpS_pure (q b)
def zb3.any(h:2≤vs.length→∃kd:SortKind,(∀Q:SortKind→Shared→Prop,Q kd s→wpAny (model prog w) A (keyKind' vs.toArray) Q E s)∧∀x y,x∈vs→y∈vs→∀(Q:Bool→Shared→Prop) (E':Nb),(∀b,Q b s)→wpAny (model prog w) A (keyLt' kd x y) Q E' s):zb3 prog w A E s (λ_=>True) vs :=
 ⟨fun _=>trivial,fun h2=>by
  obtain⟨kd,a1,a2⟩:=h h2
  exact⟨kd,a1,λQ q=>zfp (cmp_of a2) rfl rfl (Array.Perm.refl _) rfl λa8 p1 p2=>q a8 p1 p2 trivial⟩⟩
def zb3.ord{O:KeyOrd}{kv:Value→O.α}(h:2≤vs.length→∃ kd:SortKind,(∀ Q:SortKind→Shared→Prop,Q kd s→wpAny (model prog w) A (keyKind' vs.toArray) Q E s)∧∀ x y,x∈vs→y∈vs→∀ (Q:Bool→Shared→Prop) (E':Nb),Q (O.blt (kv x) (kv y)) s→wpAny (model prog w) A (keyLt' kd x y) Q E' s):zb3 prog w A E s (fun ws=>vs.length < 64→ws.Pairwise fun x y=>O.kle (kv x) (kv y)) vs:=by
 refine⟨λh2 _=>?_,λh2=>?_⟩
 ·obtain _ | ⟨v,_ | ⟨v',r⟩⟩:=vs
  ·exact List.Pairwise.nil
  ·exact Yj _ _
  ·exact absurd h2 (by simp)
 obtain⟨kd,a1,a2⟩:=h h2
 refine⟨kd,a1,λQ q=>?_⟩
 by_cases kb:vs.length<64
 ·have at_:∀ i,i < vs.length→vs.getD i .none∈vs:=fun i hi=>by
   rw[Yh,Qg hi]
   exact Qq hi
  have st0:SortSt.mk' kd (vs.toArray.zip vs.toArray) #[] 7 none=kas_st kd (pairsOf vs) (List.toArray (List.range vs.length)):=by
   unfold kas_st
   rw[←pairsOf_size vs,kas_range]
   rfl
  rw[st0]
  refine kas_runs (κ:=kd) (it:=pairsOf vs) (E:=E) (Q:=λr st s'=>s'=s∧Q r st) (G:=λp s'=>Aj3 (s'=s) (Ar vs.length p) (Up (O:=O) (λi=>kv (vs.getD i .none)) p vs.length)) h2 kb (λp a8 s' hz ha hf ⟨hs,P,U⟩=>⟨hs,q a8 ?_ hf λ_=>?_⟩) (t_sort (O:=O) (kf:=λi=>kv (vs.getD i .none)) (by omega) (λi j C hi hj hC=>?_) λp P U=>⟨rfl,P,U⟩)
  ·have:=(Yi.mp P.pm).map (kas_item (pairsOf vs))
   rw[←Xg,←Xg,←pairsOf_size vs,kas_range]at this
   rw[ha]
   exact Yi.mpr this
  ·rw [ha,Xg,Zq,Jp,Wf]
   intro i j hi hj cN
   have e:∀k (hk:k<p.toList.length),kv ((kas_item (pairsOf vs) p.toList[k]).2)=kk (λi=>kv (vs.getD i .none)) p k:=λk hk=>by
    unfold kk
    rw[kas_item_eq,Wy,getElem?_pos p k (by simpa using hk)]
    rfl
   show O.kle (kv _) (kv _)
   dsimp only[Function.comp]
   rw[e i hi,e j hj]
   exact U i j (Wx cN) (by simpa[P.sz] using hj)
  ·unfold kas_cmp
   rw[kas_item_eq,kas_item_eq]
   exact a2 _ _ (at_ i hi) (at_ j hj) _ _ hC
 ·exact zfp (cmp_of λx y hx hy Q' E' q'=>a2 x y hx hy Q' E' (q' _)) rfl rfl (Array.Perm.refl _) rfl λa8 p1 p2=>q a8 p1 p2 λz=>absurd z kb
abbrev strO:KeyOrd:=strKind.toKeyOrd
def kvS(v:Value):List Nat:=(strOf v).cps.toList
def zd3(hv:∀v∈vs,∃x t,v=.str x t):zb3 prog w A E s (λws=>vs.length<64→ws.Pairwise λx y=>strO.kle (kvS x) (kvS y)) vs:=by
 refine .ord λh2=>⟨oneType',λQ q=>kas_kind (T:=.type "str") h2 (λv hm=>?_) (by decide) (by decide) q,λx y hx hy Q E' q=>?_⟩
 ·obtain ⟨x,t,rfl⟩:=hv v hm
  exact Looks.of_pure rfl
 ·obtain ⟨a,t,rfl⟩:=hv x hx
  obtain⟨b,u,rfl⟩:=hv y hy
  rw[keyLt'_oneType]
  exact oneLt_str q
def sort_list{a:Nc}{n:Nat}{P:Fin→Shared→Prop}(ho:s.heap.get? a=some (seqObj "list" vs.toArray n))(hz:vs.length≤sizeLine)(hS:∀s':Shared,(∀b o,b≠a→s.heap.get? b=some o→s'.heap.get? b=some o)→zb3 prog w A E s' R vs)(h:∀ws:List Value,ws.Perm vs→R ws→P (.done (.ret .none)) {s with heap:=sortedHeap s.heap a vs ws.toArray}) :
  wpAny (model prog w) A (Builtin.«list.sort» ⟨[.ref a],[]⟩) P E s:=by
 have lt:a<s.heap.objs.size:=Qu ho
 rw[list_sort_plain]
 refine wpAny_bind (listItems_at ho rfl (wpAny_bind (listUpdate_at ho rfl ?_ (hsz:=by simpa using hz) (hsz2:=by simp))))
 obtain⟨e1,k1⟩:∃e,(s.heap.update a (Obj.mapSeq λ_=>#[])).get? a=some (seqObj "list" #[] e):=⟨_,get?_update_seq ho λ_=>#[]⟩
 refine wpAny_bind (seqEpoch_at k1 rfl (wpAny_bind (wpAny_newTuple (wpAny_bind (wpAny_newList (wpAny_holding ?_))))))
 show wpAny (model prog w) A _ P E {s with heap:=((s.heap.update a (Obj.mapSeq λ_=>#[])).push (seqObj "tuple" vs.toArray 0)).push (seqObj "list" #[] 0)}
 generalize hg:((s.heap.update a (Obj.mapSeq λ_=>#[])).push (seqObj "tuple" vs.toArray 0)).push (seqObj "list" #[] 0)=g
 have k6:g.get? a=some (seqObj "list" #[] e1):=by
  rw[←hg]
  exact Qj _ (Qj _ k1)
 have kk:∀b o,b≠a→s.heap.get? b=some o→g.get? b=some o:=λb o hb e=>by
  rw[←hg]
  exact Qj _ (Qj _ ((Ug s.heap _ (Zc hb)).trans e))
 have eh:∀out,sortedHeap s.heap a vs out=g.update a (Obj.mapSeq λ_=>out):=λout=>by rw[←hg];rfl
 have S:=hS {s with heap:=g} kk
 dsimp only
 have fin:∀(l:Array Keyed),l.toList.Perm (vs.map λv=>(v,v))→R (l.toList.map (·.2))→P (.done (.ret .none)) {s with heap:=g.update a (Obj.mapSeq λ_=>l.map (·.2))}:=λl p1 p2=>by
  have:=h _ (perm_back p1) p2
  rw[eh]at this
  rw[show l.map (·.2)=(l.toList.map (·.2)).toArray by rw[←Xg]]
  exact this
 have lz:vs.toArray.size=vs.length:=Qw
 have szOk:∀l:Array Keyed,l.toList.Perm (vs.map λv=>(v,v))→(l.map (·.2)).size≤sizeLine+1:=λl p1=>by
  rw[Array.size_map,←Wa,p1.length_eq,Qa];exact zar16 ‹_›
 by_cases few:vs.toArray.size<2
 ·rw [if_pos few,if_pos few]
  refine wpAny_bind (wpAny_pure ?_)
  rw[StateT.run_pure]
  have pr:(pairsOf vs).toList.Perm (vs.map λv=>(v,v)):=by rw[zdn]
  refine wpAny_bind (wpAny_pure (wpAny_bind (seqEpoch_at k6 rfl (wpAny_bind (listUpdate_at k6 rfl ?_ (hsz:=by simp) (hsz2:=szOk (pairsOf vs) pr))))))
  simp only[bne_self_eq_false,Kn,if_false]
  refine wpAny_pure (fin (pairsOf vs) pr ?_)
  rw[zdn,Zq,show((λ(p:Keyed)=>p.2)∘λv=>(v,v))=id from rfl,List.map_id]
  exact S.few (by rw[←lz];exact few)
 ·rw [if_neg few,if_neg few]
  obtain⟨kd,ask,C⟩:=S.go (by omega)
  refine wpAny_bind (ask _ ?_)
  refine wpAny_bind (wpAny_mono (C (λ_ a8=>Aj3 ((arrOf a8).Perm (pairsOf vs)) (failedOf a8=none) (R ((arrOf a8).toList.map (·.2)))) λa8 p1 p2 p3=>⟨p1,p2,p3⟩) ?_ λ_ _ e=>e)
  rintro⟨⟨⟩,a8⟩ s' ⟨rfl,p1,p2,p3⟩
  have pr:(arrOf a8).toList.Perm (vs.map λv=>(v,v)):=by rw[←zdn];exact Yi.mp p1
  dsimp only
  refine wpAny_bind (seqEpoch_at k6 rfl (wpAny_bind (listUpdate_at k6 rfl ?_ (hsz:=by simp) (hsz2:=szOk (arrOf a8) pr))))
  rw[p2]
  simp only[bne_self_eq_false,Kn,if_false]
  exact wpAny_pure (fin _ pr p3)
def zeo{x:Value}{G:List Value→Prop}{R:List Value→List Value→Prop}{Q:Nb}(v3:∀(E':Nb) (R:List Value→Shared→Prop),(∀(g:Nm) (tk:Nat) (vs:Ni),(∀b o,s.heap.get? b=some o→g.get? b=some o)→s.heap.objs.size≤g.objs.size→G vs→R vs {s with heap:=g,toks:=tk})→wpAny (model prog w) A.in1 (collect x) R E' s)(hz:∀vs,G vs→vs.length≤sizeLine)(hS:∀vs,G vs→∀(A':Around) (E':Value→Shared→Prop) (s':Shared),A'.units≤A.units+8→(∀b o,s.heap.get? b=some o→s'.heap.get? b=some o)→zb3 prog w A' E' s' (R vs) vs)(h:∀(vs ws:Ni) (l:Nc) (g:Nm) (tk e:Nat),G vs→ws.Perm vs→R vs ws→s.heap.objs.size≤l→(∀b o,s.heap.get? b=some o→g.get? b=some o)→g.get? l=some (seqObj "list" ws.toArray e)→Q (.ref l) {s with heap:=g,toks:=tk}) :
  wpAny (model prog w) A (call (.builtin "sorted") [x]) Q E s:=by
 refine Calls.call_function_entry kind_sorted plain_sorted entry_sorted (args_sorted1 _) ?_
 unfold Builtin.«sorted»
 refine wpAny_bind (m:=checkCount "sorted" 1 1 _) (wpAny_pure (wpAny_bind (v3 _ _ λg tk vs kg le hG=>?_)))
 have hzv:=hz vs hG
 refine wpAny_bind (wpAny_newList ?_ (hsz:=hzv))
 have o1:(g.push (seqObj "list" vs.toArray 0)).get? g.objs.size=some (seqObj "list" vs.toArray 0):=Za _ rfl
 show wpAny _ _ _ _ _ {s with heap:=g.push (seqObj "list" vs.toArray 0),toks:=tk}
 refine wpAny_bind (wpAny_holding (wpAny_call_entry slot_list_sort ⟨_,o1,rfl⟩ entry_list_sort (sort_list (R:=R vs) o1 hzv (λs' k=>hS vs hG _ _ s' ?_ λb o e=>k b o (λz=>?_) (Qj _ (kg b o e))) λws p1 p2=>⟨_,rfl,?_⟩) (args_list_sort _)))
 ·show A.units+1+1≤A.units+8
  omega
 ·have lt:b < g.objs.size:=Qu (kg b o e)
  rw[z]at lt
  exact absurd lt (Yy _)
 ·obtain ⟨e,he⟩:=sortedHeap_at (out:=ws.toArray) o1
  refine wpAny_pure ⟨_,rfl,h vs ws _ _ _ e hG p1 p2 le (λb o q=>?_) he⟩
  have lt:b<g.objs.size:=Qu (kg b o q)
  rw[sortedHeap_old (Ze lt) (by rw[size_push'];exact Jl lt)]
  exact Qj _ (kg b o q)
def zgn{T:String}{r d:Nc}{n:Nat}{P:Nat→Value→Prop}{OK:Heap→Prop}{R:List Value→Shared→Prop}(K:KdlSrc prog w T r d n P OK)(hh:A.handled=none)(ok:OK s.heap)(hn:n≤sizeLine)(h:∀(g:Nm) (tk:Nat) (ad:Array Value),(∀b o,s.heap.get? b=some o→g.get? b=some o)→s.heap.objs.size≤g.objs.size→ItemsOf P ad n→R ad.toList {s with heap:=g,toks:=tk}) :
  wpAny (model prog w) A (collect (.ref r)) R E s:=by
 have there:=K.there _ ok
 unfold collect
 refine wpAny_bind (wpAny_runValue (codeAny_builtin entry_proto_collect' ?_))
 rw[Wm PySem.F.plain_proto_collect _]
 show wpAny _ A.in1 (newList [] >>= λl =>
  again (.builtin "list.__iadd__" ⟨[l,.ref r],[]⟩)) _ _ s
 refine wpAny_bind (wpAny_newObj_type (wpAny_pure ⟨plainId_quiet PySem.F.plain_list_iadd _,codeAny_builtin entry_list_iadd' ?_⟩))
 rw[Wm PySem.F.plain_list_iadd _]
 show wpAny _ A.in1 (Builtin.List.listExtendWith (.ref s.heap.objs.size)
  (.ref r) (.ref s.heap.objs.size)) _ _ _
 have lS:(s.heap.push {cls:=.type "list",data:=.seq ([]:List Value).toArray}).get? s.heap.objs.size=some {cls:=.type "list",data:=.seq #[]}:=Za _ rfl
 refine wpAny_mono (kdl_extend (A:=A) (s:={s with heap:=s.heap.push {cls:=.type "list",data:=.seq ([]:List Value).toArray}})
  (R:=fun (q:Result) (s':Nh)=>∃ (g:Nm) (tk:Nat) (ad:Array Value) (c:Nat),q=.ok (.ret (.ref s.heap.objs.size))∧s'={ s with heap:=g,toks:=tk } ∧
   (∀b o,s.heap.get? b=some o→g.get? b=some o)∧g.get? s.heap.objs.size=some {cls:=.type "list",dict:=none,data:=.seq ad c,slots:=#[]}∧ItemsOf P ad n)
  K hh (K.keep _ _ ok λb _ o e=>Qj _ e) s.heap.objs.size (Yw there.1) (Yw there.2) (.ref s.heap.objs.size) 0 lS
  (λg tk ad c hk hS ha=>⟨g,tk,ad,c,rfl,rfl,λb o e=>hk b o (Ze (Qu e)) (Qj _ e),hS,ha⟩) hn) (λfin s' x=>?_) λe s' x=>?_
 ·cases fin with
  |done f =>
   obtain⟨g,tk,ad,c,e,rfl,hk,hS,ha⟩:=x
   cases e
   show wpAny _ A (load s.heap.objs.size >>= _) _ _ _
   exact wpAny_bind (wpAny_load hS (wpAny_pure (h g tk ad hk (Wx (Qu hS)) ha)))
  |again c1 =>
   refine⟨x.1,codeAny_mono x.2 λq s2 y=>?_⟩
   obtain⟨g,tk,ad,c,rfl,rfl,hk,hS,ha⟩:=y
   show wpAny _ A (load s.heap.objs.size >>= _) _ _ _
   exact wpAny_bind (wpAny_load hS (wpAny_pure (h g tk ad hk (Wx (Qu hS)) ha)))
 ·obtain ⟨_,_,_,_,e',_⟩:=x
  cases e'
def sorted_any{Q:Nb}(hl:s.heap.IsList l vs.toArray)(hz:vs.length≤sizeLine)(hS:∀(A':Around) (E':Value→Shared→Prop) (s':Shared),A'.units≤A.units+8→(∀b o,s.heap.get? b=some o→s'.heap.get? b=some o)→zb3 prog w A' E' s' R vs)(h:∀(ws:Ni) (l:Nc) (g:Nm) (tk e:Nat),ws.Perm vs→R ws→s.heap.objs.size≤l→(∀b o,s.heap.get? b=some o→g.get? b=some o)→g.get? l=some (seqObj "list" ws.toArray e)→Q (.ref l) {s with heap:=g,toks:=tk}) :
  wpAny (model prog w) A (call (.builtin "sorted") [.ref l]) Q E s :=
 zeo (G:=λus=>us=vs) (R:=λ_=>R) (λE' R' hR=>collect_list hl (hR _ _ _ (λb o e=>(Ug _ _ (Zc (Ze (Qu e)))).trans (Qj _ e)) (by rw[Heap.size_update,size_push'];exact Jk _) rfl) hz) (λus e=>e▸hz) (λus e=>e▸hS) λus ws l g tk e e' p1 p2=>h ws l g tk e (e'▸p1) p2
end
def str_ext{a b:Str}(h:a.cps.toList=b.cps.toList):a=b:=by
 cases a;cases b
 exact congrArg _ (Xh.mp h)
def str_ne{a b:Str}(h:¬a=b):¬a.cps.toList=b.cps.toList:=λq=>h (str_ext q)
def pairO(O P:KeyOrd):KeyOrd where
 α:=O.α×P.α
 blt a b:=O.blt a.1 b.1||(!O.blt b.1 a.1&&P.blt a.2 b.2)
 irrefl a:=by rw[O.irrefl,P.irrefl];rfl
 trans a b c h1 h2:=by
  simp only[Xk,Jz,Jr]at *
  rcases h1 with h1 | ⟨n1,h1⟩
  ·rcases h2 with h2 | ⟨n2,h2⟩
   ·exact .inl (O.trans _ _ _ h1 h2)
   ·exact .inl (KeyOrd.klt_of_klt_of_kle h1 n2)
  ·rcases h2 with h2 | ⟨n2,h2⟩
   ·exact .inl (KeyOrd.klt_of_kle_of_klt n1 h2)
   ·exact .inr ⟨Uy n1 n2,P.trans _ _ _ h1 h2⟩
 negTrans a b c h:=by
  simp only[Xk,Jz,Jr]at *
  rcases h with h | ⟨n,h⟩
  ·rcases O.negTrans _ b.1 _ h with q | q
   ·exact .inl (.inl q)
   ·exact .inr (.inl q)
  ·cases e1:O.blt a.1 b.1 with
   |true=>exact .inl (.inl rfl)
   | false =>
    cases e2:O.blt b.1 c.1 with
    |true=>exact .inr (.inl rfl)
    |false =>
     have n1:O.blt b.1 a.1=false:=Uy (O:=O) (a:=a.1) (b:=c.1) (c:=b.1) n e2
     have n2:O.blt c.1 b.1=false:=Uy (O:=O) (a:=b.1) (b:=a.1) (c:=c.1) e1 n
     rcases P.negTrans _ b.2 _ h with q | q
     ·exact .inl (.inr ⟨n1,q⟩)
     ·exact .inr (.inr ⟨n2,q⟩)
 total a b h1 h2:=by
  simp only[Bool.or_eq_false_iff,Bool.and_eq_false_iff,Bool.not_eq_false']at *
  have e1:=O.total _ _ h1.1 h2.1
  obtain⟨a1,a2⟩:=a
  obtain⟨b1,b2⟩:=b
  simp only at e1 h1 h2
  subst e1
  have i:=O.irrefl a1
  rw[i]at h1 h2
  have p1:P.blt a2 b2=false:=h1.2.elim (λz=>by cases z) id
  have p2:P.blt b2 a2=false:=h2.2.elim (λz=>by cases z) id
  rw[P.total _ _ p1 p2]
def zia(h:Nm):Value→List Value
 | .ref a=>match h.get? a with
  |some o=>match o.data with
   |.seq xs _=>xs.toList
   |_=>[]
  |none=>[]
 |_=>[]
def itemsAt_ref(e:h.get? a=some o)(d:o.data=.seq xs n):zia h (.ref a)=xs.toList:=by
 unfold zia
 dsimp only
 rw[e]
 dsimp only
 rw[d]
def kvP(h:Nm)(v:Value):List Nat×List Nat:=(kvS ((zia h v).getD 0 .none),kvS ((zia h v).getD 1 .none))
def ze4(h:Nm)(v:Value)(x:Str)(q:Value):Prop:=∃a o t n,v=.ref a∧h.get? a=some o∧o.cls=.type "tuple" ∧ o.data=.seq #[.str x t,q] n
def ze4.key(p:ze4 h v x q):kvP h v=(x.cps.toList,kvS q):=by
 obtain⟨a,o,t,n,rfl,e,c,d⟩:=p
 unfold kvP
 rw[itemsAt_ref e d]
 rfl
theorem katTups(k:∀b o,h.get? b=some o→s.get? b=some o):∀(vs:Ni),(∀v∈vs,∃x q,ze4 h v x q)→∃fs,KatTups s vs fs∧fs.length=vs.length∧∀f∈fs,∃x t,f=.str x t
 |[],_=>⟨[],.nil,rfl,λf hf=>by cases hf⟩
 |v::vs,hv=>by
  obtain⟨fs,h1,h2,h3⟩:=katTups k vs λu hu=>hv u (Qh _ hu)
  obtain⟨x,q,a,o,t,n,rfl,e,c,d⟩:=hv v Qc
  refine⟨.str x t::fs,.cons (k _ _ e) c d rfl h1,by rw[Qx,Qx,h2],λf hf=>?_⟩
  rcases Qd.mp hf with z | z
  ·exact⟨x,t,z⟩
  ·exact h3 f z
section
variable{prog:Nj}{w:Nl}{A:Nn}{E:Nb}{s:Nh}{vs:Ni}{h:Nm}
def kind_tups(k:∀b o,h.get? b=some o→s.heap.get? b=some o)(hv:∀v∈vs,∃x q,ze4 h v x q)(h2:2≤vs.length)(q:Q (tuples' true) s):wpAny (model prog w) A (keyKind' vs.toArray) Q E s:=by
 obtain⟨fs,h1,h3,h4⟩:=katTups k vs hv
 refine kat_kind (T:=.type "str") h1 (by omega) (λf hf=>?_) (by decide) q
 obtain⟨x,t,rfl⟩:=h4 f hf
 exact Looks.of_pure rfl
def blt_p:(pairO strO strO).blt (x,y) (x',y')=if x=x' then decide (y<y') else decide (x<x'):=by
 show(decide (x<x')||(!decide (x'<x)&&decide (y<y')))=_
 split
 ·rename_i e
  subst e
  rw[decide_eq_false (Ya x)];rfl
 ·rename_i ne
  by_cases h1:x<x'
  ·rw[decide_eq_true h1];rfl
  ·rw[decide_eq_false h1,decide_eq_true (Jc λh2=>ne (strO.total _ _ (decide_eq_false h1) (decide_eq_false h2)))];rfl
def zcz(k:∀ b o,h.get? b=some o→s.heap.get? b=some o)(hv:∀ v∈vs,∃ x q,ze4 h v x q)(hd:∀ v∈vs,∀ u∈vs,∀ x p q,ze4 h v x p→ze4 h u x q→v=u∨∃ y t y' t',p=.str y t∧q=.str y' t'):zb3 prog w A E s (fun ws=>vs.length < 64→ws.Pairwise fun x y=>(pairO strO strO).kle (kvP h x) (kvP h y)) vs:=by
 refine .ord λh2=>⟨tuples' true,λQ q=>kind_tups k hv h2 q,λv v' hx hy Q E' q=>?_⟩
 have same:=hd v hx v' hy
 obtain⟨x,z,p⟩:=hv v hx
 obtain⟨x',z',p'⟩:=hv v' hy
 have P:=p
 have P':=p'
 rw[P.key,P'.key,blt_p]at q
 obtain⟨a,o,t,n,rfl,e,c,d⟩:=p
 obtain⟨a',o',t',n',rfl,e',c',d'⟩:=p'
 refine kat_lt (k _ _ e) d (k _ _ e') d' ?_
 show KatLex _ _ _ _ _ _ [(Value.str x t,Value.str x' t'),(z,z')] 0 s
 refine kat_cons (wpAny_eqBool_str ?_)
 by_cases ex:x=x'
 ·subst ex
  rw[if_pos rfl]at q
  rw[decide_eq_true rfl]
  refine kat_yes (kat_cons ?_)
  rcases same x z z' P P' with e2 | ⟨y,u,y',u',rfl,rfl⟩
  ·cases e2
   rw[e]at e'
   cases e'
   rw[d]at d'
   have d2:(#[Value.str x t,z]:Array Value)=#[Value.str x t',z']:=by injection d'
   have d3:z=z':=by
    have:=congrArg (λa:Array Value=>a[1]?) d2
    simpa using this
   subst d3
   rw[decide_eq_false (Ya _)]at q
   exact SeqAt.EqAt.same z _ _ _ _ (kat_yes (kat_nil q))
  ·refine wpAny_eqBool_str ?_
   by_cases ey:y=y'
   ·subst ey
    rw[show kvS (Value.str y u')=kvS (Value.str y u) from rfl,decide_eq_false (Ya _)]at q
    rw[decide_eq_true rfl]
    exact kat_yes (kat_nil q)
   ·rw [decide_eq_false ey]
    exact kat_no (kat_one _ _ (lt_str q))
 ·rw [decide_eq_false ex]
  rw[if_neg (str_ne ex)]at q
  exact kat_no (oneLt_str q)
end
def lt_loopAt(l b:Nc)(xs ys:List (Str×Tok))(n n2:Nat)(k:Nat) :
  ∀ i:Nat,min xs.length ys.length - i=k→i≤min xs.length ys.length→Meets (Builtin.«list.__eq__.loop» ⟨[.ref l,.ref b,rawInt i,rawInt 0],[]⟩)
   (fun A R s=>s.heap.get? l=some { cls:=.type "list",data:=.seq (strValues xs).toArray n }∧s.heap.get? b=some { cls:=.type "list",data:=.seq (strValues ys).toArray n2 } ∧
    ∀z,R (.ok (.ret (.bool z))) s):=by
 have get:∀(zs:List (Str×Tok)) (i:Nat),(strValues zs).toArray[((i:Nat):Int).toNat]?=zs[i]?.map λp=>Value.str p.1 p.2:=λzs i=>by
  simp[strValues]
 induction k with
 | zero =>
  intro i hk iE prog w A R s h
  obtain⟨hp,g,d,tk,os⟩:=s;obtain⟨hl,hb,h⟩:=h
  wp_walk using wpAny_loadPart' hl,wpAny_loadPart' hb
  rw[get,get]
  by_cases hx:i<xs.length
  ·have hy:ys[i]?=none:=by simp;lia
   rw[hy,Qg hx]
   dsimp only[Option.map_some,Option.map_none]
   wp_walk using wpAny_loadPart' hl,wpAny_loadPart' hb
   exact h _
  ·have eO:xs[i]?=none:=by simp;lia
   rw[eO]
   dsimp only[Option.map_some,Option.map_none]
   wp_walk using wpAny_loadPart' hl,wpAny_loadPart' hb
   exact h _
 | succ k ih =>
  intro i hk iE prog w A R s h
  obtain⟨hp,g,d,tk,os⟩:=s;obtain⟨hl,hb,h⟩:=h
  wp_walk using wpAny_loadPart' hl,wpAny_loadPart' hb
  have hx:i<xs.length:=by lia
  have hy:i<ys.length:=by lia
  rw[get,get,Qg hx,Qg hy]
  dsimp only[Option.map_some]
  have hc:((i:Int)+1)=((i+1:Nat):Int):=by push_cast;rfl
  refine wpAny_bind (wpAny_eqBool_str ?_)
  by_cases he:xs[i].1=ys[i].1
  ·rw [decide_eq_true he]
   wp_walk
   rw[hc]
   exact⟨plainId_quiet plain_eq_loop _,codeAny_builtin entry_eq_loop (by
    rw[Wm plain_eq_loop _]
    exact ih (i+1) (by lia) (by lia) prog w A R _ ⟨hl,hb,h⟩)⟩
  ·rw [decide_eq_false he]
   wp_walk using wpAny_loadPart' hl,wpAny_loadPart' hb
   rw[get,get,Qg hx,Qg hy]
   dsimp only[Option.map_some]
   refine wpAny_bind (show wpAny _ _ (compareOp .Lt (Value.str xs[i].1 xs[i].2) (Value.str ys[i].1 ys[i].2)) _ _ _ from lt_str ?_)
   wp_walk
   exact h _
def list_ltAt(l b:Nc)(xs ys:List (Str×Tok))(n n2:Nat):Meets (Builtin.«list.__lt__» ⟨[.ref l,.ref b],[]⟩)
   (fun A R s=>s.heap.get? l=some { cls:=.type "list",data:=.seq (strValues xs).toArray n }∧s.heap.get? b=some { cls:=.type "list",data:=.seq (strValues ys).toArray n2 } ∧
    ∀z,R (.ok (.ret (.bool z))) s):=by
 intro prog w A R s h
 obtain⟨hp,g,d,tk,os⟩:=s;obtain⟨hl,hb,h⟩:=h
 have f3:=AutoSeq1.sub_list_list
 wp_walk using wpAny_loadPart' hl,wpAny_loadPart' hb
 exact⟨plainId_quiet plain_eq_loop _,codeAny_builtin entry_eq_loop (by
  rw[Wm plain_eq_loop _]
  exact lt_loopAt l b xs ys n n2 _ 0 rfl (Zi _) prog w A R _ ⟨hl,hb,h⟩)⟩
section
variable{prog:Nj}{w:Nl}{A:Nn}{E:Nb}{s:Nh}
def zgs{vs:Ni}{h:Nm}(hu:A.units<cLine)(k:∀b o,h.get? b=some o→s.heap.get? b=some o)(hv:∀v∈vs,∃a xs n,v=.ref a∧h.get? a=some {cls:=.type "list",data:=.seq (strValues xs).toArray n}):zb3 prog w A E s (λ_=>True) vs:=by
 refine .any λh2=>⟨oneType',λQ q=>kas_kind (T:=.type "list") h2 (λv hm=>?_) (by decide) (by decide) q,λx y hx hy Q E' q=>?_⟩
 ·obtain ⟨a,xs,n,rfl,e⟩:=hv v hm
  exact(Looks.ld (k _ _ e)).andThen .now
 ·obtain ⟨a,xs,n,rfl,e⟩:=hv x hx
  obtain⟨b,ys,m,rfl,e'⟩:=hv y hy
  rw[keyLt'_oneType,oneLt'_eq]
  simp only[if_true]
  refine wpAny_bind (wpAny_cRoomFor hu ?_)
  refine wpAny_bind (wpAny_callSpecialIfBound?_slot ⟨_,k _ _ e,rfl⟩ F.slot_list_lt (call_meets F.slot_list_lt ⟨_,k _ _ e,rfl⟩ F.entry_list_lt (F.args_list_lt_2 _ _) (list_ltAt a b xs ys n m) ⟨k _ _ e,k _ _ e',λz=>?_⟩))
  exact wpAny_truthy_bool (q _)
end
end Tm
end
section
namespace L2
open PySem PySem.Spec PyProof.Rows
def zco{K:Na}{a:Nc}{zs:Nd}{g:TG}{tb:TS}{D:Ends}{σ:St}{H:Hp}(Pv:Nat→St→Hp→Prop)(h0:Pv 0 σ H)(hl:∀i σ H,i≤(zs.map V.str).length→Pv i σ H→SqL K H a (zs.map V.str))(hs:∀i (hi:i<zs.length) σ H,Pv i σ H→g (.str zs[i]) σ H λ σ2 H2=>tb {D with nx:=Pv (i+1),ct:=Pv (i+1),bk:=D.nx} σ2 H2)(hd:∀σ H,Pv (zs.map V.str).length σ H→D.nx σ H) :
  ∃W:Nat→Nat→St→Hp→Prop,(∃m,W 0 m σ H)∧∀i m σ H,W i m σ H →
   ((Itl K a).stop i H∧D.nx σ H)∨((Itl K a).go i H∧∃N:St→Hp→Prop,(∀σ' H',N σ' H'→∃m',m'<m∧W (i+1) m' σ' H')∧∀x H',(Itl K a).yld i H x H'→g x σ H' λ σ2 H2=>tb {D with nx:=N,ct:=N,bk:=D.nx} σ2 H2) :=
 zbr Pv h0 hl (λi x σ H e p=>by
  have hi:i<zs.length:=by
   have:=(Zb.mp e).1
   rwa[Qa]at this
  rw[Qz,Qg hi]at e
  cases e
  exact hs i hi σ H p) hd
section
variable{X:Cx}
inductive RrIndex(x:V)(vs:List V)(H:Hp)(Q:VK):Prop
 |mk (l:Nc) (xs:List V) (y:V) (j:Nat) (h0:x=.ref l) (h1:vs=[y]) (h2:H l=some (.lst xs)) (h3:zdb y=true) (h4:xs.all zdb=true) (h5:(∃z,xs[j]?=some z∧eqV z y=true)) (h6:(∀m z,m<j→xs[m]?=some z→eqV z y=false)) (h7:Q (.int j) H):RrIndex x vs H Q
def rIndex:V→List V→Hp→VK→Prop:=λx vs H Q=>RrIndex x vs H Q
def zh7:MtM X "list.index" rIndex:=by
 intro a0 s σ H x vs v us Q I rx rv h
 obtain⟨l,xs,y,j,rfl,rfl,hH,fy,fs,⟨z,hz,ez⟩,aK,q⟩:=h
 cases rx
 obtain⟨u,rfl,ru⟩:=rv.one
 obtain⟨zz,a7,n,r,hl,e⟩:=I.lstM hH
 have hn:=zec
 obtain⟨wv,hw,eM⟩:=r.get hz
 have hj:j<a7.length:=(Zb.mp hw).1
 have fl:∀{i:Nat} {a:V},xs[i]?=some a→zdb a=true:=λ{i a} q=>Ua.mp fs a (Yv q)
 refine call_meets F.slot_list_index ⟨_,e,rfl⟩ F.entry_list_index (F.args_list_index_2 _ _)
  (SeqAt.list_indexAt l a7.toArray n none #[] u (eqU y) j (by simpa using hj) (by lia) ?_ ?_) ⟨e,λa ha=>zdo ru fy r fs a (by simpa using ha),?_⟩
 ·have e1:a7[j]=wv:=by
   have:=Qg hj
   rw[this]at hw;exact Qp hw
  show eqU y (a7.toArray[j])=true
  rw[Kd,e1,eqU_of eM (fl hz)]
  exact ez
 ·intro m hm aa
  have hm':m<a7.length:=by simpa using hm
  have cq:m<xs.length:=by exact zar6 ‹_› ‹_›
  have gx:xs[m]?=some xs[m]:=Qg cq
  obtain⟨wm,hwm,rm⟩:=r.get gx
  have e1:a7[m]=wm:=by
   have:=Qg hm'
   rw[this]at hwm;exact Qp hwm
  show eqU y (a7.toArray[m])=false
  rw[Kd,e1,eqU_of rm (fl gx)]
  exact aK m _ aa gx
 ·exact⟨.int j,H,I.tok _,⟨_,rfl⟩,q⟩
inductive RrInsert(x:V)(vs:List V)(H:Hp)(Q:VK):Prop
 |mk (l:Nc) (xs:List V) (y:V) (k:Nat) (h0:x=.ref l) (h1:vs=[.int k,y]) (h2:H l=some (.lst xs)) (h3:xs.length<sizeLine) (h4:k≤xs.length) (h5:Q .non (upd H l (.lst (xs.take k++y::xs.drop k)))):RrInsert x vs H Q
def rInsert:V→List V→Hp→VK→Prop:=λx vs H Q=>RrInsert x vs H Q
def mt_insert:MtM X "list.insert" rInsert:=by
 intro a0 s σ H x vs v us Q I rx rv h
 obtain⟨l,xs,y,k,rfl,rfl,hH,hz,hk,q⟩:=h
 cases rx
 obtain⟨u1,u,rfl,⟨t,rfl⟩,ru⟩:=rv.two
 obtain⟨zz,a7,n,r,hl,e⟩:=I.lstM hH
 have hn:=zec
 obtain⟨i,hi⟩:∃i:Int,i=(k:Int):=⟨_,rfl⟩
 have uu:¬(!Builtin.List.listFitsIndex i)=true:=by
  rw[fitsIndex_both (by lia) (by lia)]
  exact Zg
 have hsz:a7.toArray.size≤sizeLine:=by rw[Qw];exact zdz ‹_› ‹_›
 have M:=AutoSeq1.list_insert_list_int_val_1 l a7.toArray n i t u uu hsz
 rw[←hi]
 refine call_meets F.slot_list_insert ⟨_,e,rfl⟩ F.entry_list_insert (F.args_list_insert_3 _ _ _) M ⟨e,?_⟩
 refine⟨.non,_,I.lset (its':=a7.take k++u::a7.drop k) hH e ?_ ((r.take k).append (.cons ru (r.drop k))) ?_,rfl,q⟩
 ·have e1:¬ (i < 0):=by lia
  have e2:min i.toNat a7.toArray.size=k:=by rw[Qw];lia
  show(a7.toArray.extract 0 (if i<0 then(i+((a7.toArray.size:Nat):Int)).toNat else min i.toNat a7.toArray.size)).push u++a7.toArray.extract (if i<0 then(i+((a7.toArray.size:Nat):Int)).toNat else min i.toNat a7.toArray.size)=_
  rw[if_neg e1,e2]
  apply Xh.mp
  simp
  rw[Qr (by rw[Ja];exact Qf _)]
 ·simp;lia
def joined_len(sep:Str):∀(l:Nd) (n:Nat),(l.toArray.foldl (λn s=>n+s.length+sep.length) n)=n+(l.map λz=>z.length+sep.length).sum:=by
 intro l n
 rw[←Array.foldl_toList]
 show l.foldl _ n=_
 induction l generalizing n with
 |nil=>simp
 |cons a r ih=>rw[Jg,ih,Qm,Zf];lia
theorem zd0:∀{zs:Nd} {a7:Ni},Vals (zs.map V.str) a7→∃l:List (Str×Tok),a7=PySem.strValues l∧l.map (·.1)=zs
 |[],_,.nil=>⟨[],rfl,rfl⟩
 |z::zs,_,.cons r t=>by
  obtain⟨tk,rfl⟩:=r
  obtain⟨l,rfl,e⟩:=zd0 t
  exact⟨(z,tk)::l,rfl,by rw[Qm,e]⟩
inductive RrJoin(x:V)(vs:List V)(H:Hp)(Q:VK):Prop
 |mk (l:Nc) (sep:Str) (zs:Nd) (h0:x=.str sep) (h1:vs=[.ref l]) (h2:H l=some (.lst (zs.map V.str))) (h3:(zs.map λz=>z.length+sep.length).sum≤sizeLine) (h4:Q (.str (Txt.join sep zs)) H):RrJoin x vs H Q
def rJoin:V→List V→Hp→VK→Prop:=λx vs H Q=>RrJoin x vs H Q
def mt_join:MtM X "str.join" rJoin:=by
 intro a0 s σ H x vs v us Q I rx rv h
 obtain⟨l,sep,zs,rfl,rfl,hH,hz,q⟩:=h
 obtain⟨t,rfl⟩:=rx
 obtain⟨u,rfl,ru⟩:=rv.one
 cases ru
 obtain⟨zz,a7,n,r,hl,e⟩:=I.lstM hH
 obtain⟨l',rfl,e'⟩:=zd0 r
 refine SC.join ⟨_,e,rfl,n,rfl⟩ e' ?_ λt' k=>⟨.str _,H,I.tok _,⟨t',rfl⟩,q⟩
 unfold JoinOk
 rw[Jr,joined_len]
 exact decide_eq_false (by lia)
def call_isi_str:zb4 X (.builtin "isinstance") (λxs H Q=>Ex1 λz=>Aj2 (xs=[.str z,.ty "str"]) (Q (.bl true) H)):=by
 intro a0 s σ H xs us Q I r h
 obtain⟨z,rfl,q⟩:=h
 obtain⟨u,w',rfl,⟨t,rfl⟩,e⟩:=vals2 r
 have e':w'=Value.type "str" := e
 subst e'
 exact IsiPair.str_str ⟨.bl true,H,I,rfl,q⟩
def zfg{a0:Nf}{s:Nh}{σ:St}{H:Hp}{p:Nc}{ys:List V}(hc:X.calm=true)(I:Inv X a0 σ H s)(hq:SqL X.K H p ys){Q:Nb}(h:∀ (a7:Ni) (It:Nc) (h1:Nm),Vals ys a7→Walks X.prog X.w X.A.in1 It [It,p] [It] a7.toArray.size (fun i v=>a7.toArray[i]?=some v) (fun i h=>h.IsListIter It p i∧h.IsList p a7.toArray)→(h1.IsListIter It p 0∧h1.IsList p a7.toArray)→(∀ b∈[It,p],b < h1.objs.size) →
   (∀(h':Nm) (tk:Nat),(∀b o,b∉[It]→h1.get? b=some o→h'.get? b=some o)→Inv X a0 σ H {s with heap:=h',toks:=tk})→Q (.ref It) {s with heap:=h1}) :
  wpAny (model X.prog X.w) X.A.in1 (pyIter (.ref p)) Q X.xe s:=by
 obtain⟨a7,rv,pl,hz⟩:=I.list hq
 refine wpAny_pyIter_list pl.isList ?_
 have lt:p<s.heap.objs.size:=by obtain⟨o,n,e,_⟩:=pl;exact Qu e
 refine h a7 s.heap.objs.size _ rv (Walks.list (show X.A.in1.handled=none from I.ok.hd hc) _ _ (Ze lt) _) ⟨⟨_,Za _ rfl,rfl,rfl⟩,?_⟩ (λb hb=>?_) λh' tk k=>I.kept (t':=tk) λb o e=>?_
 ·obtain ⟨o,e,r⟩:=pl.isList
  exact⟨o,Qj _ e,r⟩
 ·rcases Qd.mp hb with e | e
  ·rw[e];simp[Heap.push]
  ·rw[Qb.mp e];simp[Heap.push];exact Jl lt
 ·exact k b o (λz=>absurd (Qu e) (by rw[Qb.mp z];exact Yy _)) (Qj _ e)
theorem zdv(ns:List Int):∀k,k≤ns.length→preSum (λi=>ns.getD i 0) k=(ns.take k).sum
 |0,_=>rfl
 |k+1,h=>by
  show preSum (λi=>ns.getD i 0) k+ns.getD k 0=_
  have hk:k<ns.length:=h
  rw[zdv ns k (by exact Wx ‹_›),Qn hk,List.sum_append,List.sum_singleton]
  congr 1
  simp[List.getD,hk]
theorem zgz:∀{ns:List Int} {a7:Ni},Vals (ns.map V.int) a7→∀(i:Nat) (v:Value),a7[i]?=some v→∃t,v=Value.int (ns.getD i 0) t
 |[],_,.nil,i,v,e=>by simp at e
 |n::ns,_,.cons r t,0,v,e=>by
  obtain⟨tk,rfl⟩:=r
  simp at e;subst e
  exact⟨tk,rfl⟩
 |n::ns,_,.cons r t,i+1,v,e=>by
  obtain⟨tk,h⟩:=zgz t i v (by simpa using e)
  exact⟨tk,by rw[h];simp⟩
def sum_small{ns:List Int}(hb:∀n∈ns,0≤n∧n≤1000000):0≤ns.sum∧ns.sum≤1000000*(ns.length:Int):=by
 induction ns with
 |nil=>simp
 |cons a r ih =>
  have h1:=hb a Qc
  have h2:=ih λn hn=>hb n (Qh _ hn)
  rw[Zf,Qx]
  lia
def call_sum(hc:X.calm=true):zb4 X (.builtin "sum") (λxs H Q=>Ex2 λ(p:Nc) (ns:List Int)=>Aj5 (xs=[.ref p]) (SqL X.K H p (ns.map V.int)) (ns.length≤1000000) (∀n∈ns,0≤n∧n≤1000000) (Q (.int ns.sum) H)):=by
 intro a0 s σ H xs us Q I r h
 obtain⟨p,ns,rfl,hq,hl,hb,q⟩:=h
 obtain⟨u,rfl,rx⟩:=vals1 r
 cases rx
 refine call_sum_walk (zfg hc I hq λa7 It h1 rv W st lt keep=>⟨It,_,_,_,_,_,λi=>ns.getD i 0,rfl,W,st,lt,λi v e=>zgz rv i v (by simpa using e),λj hj=>?_,λh' tk t' k=>⟨.int ns.sum,H,keep h' tk k,⟨t',?_⟩,q⟩⟩)
 ·have ah:=rv.length
  rw[Qa]at ah
  have mw:j<ns.length:=by rw[ah];simpa using hj
  have s1:=sum_small (ns:=ns.take (j+1)) λn hn=>hb n (We hn)
  rw[Zn]at s1
  have g:ns.getD j 0=ns[j]:=by simp[List.getD,mw]
  have g2:=hb _ (Qq mw)
  refine⟨?_,?_⟩
  ·show InLong (ns.getD j 0)
   rw[g];unfold InLong;lia
  ·rw [zdv ns (j+1) mw]
   unfold InLong;lia
 ·have ah:=rv.length
  rw[Qa]at ah
  rw[Qw,zdv ns _ (by lia),←ah,Qr (Qf _)]
theorem zel:∀{bs:List Bool} {a7:Ni},Vals (bs.map V.bl) a7→∀(i:Nat) (v:Value),a7[i]?=some v→v=Value.bool (bs.getD i true)
 |[],_,.nil,i,v,e=>by simp at e
 |n::ns,_,.cons r t,0,v,e=>by
  cases r
  simp at e;subst e
  rfl
 |n::ns,_,.cons r t,i+1,v,e=>by
  have h:=zel t i v (by simpa using e)
  rw[h];simp
def all_range(bs:List Bool):(List.range bs.length).all (λi=>bs.getD i true)=bs.all id:=by
 rw[Yf,Ua,Ua]
 constructor
 ·intro h x hx
  obtain⟨i,hi,e⟩:=Zo hx
  have:=h i (Ud.mpr hi)
  simp[List.getD,hi]at this
  rw[←e];exact this
 ·intro h i hi
  have dM:=Ud.mp hi
  simp[List.getD,dM]
  exact h _ (Qq dM)
def zfo(hc:X.calm=true):zb4 X (.builtin "all") (λxs H Q=>Ex2 λ(p:Nc) (bs:List Bool)=>Aj3 (xs=[.ref p]) (SqL X.K H p (bs.map V.bl)) (Q (.bl (bs.all id)) H)):=by
 intro a0 s σ H xs us Q I r h
 obtain⟨p,bs,rfl,hq,q⟩:=h
 obtain⟨u,rfl,rx⟩:=vals1 r
 cases rx
 refine call_all_walk (zfg hc I hq λa7 It h1 rv W st lt keep=>⟨It,_,_,_,_,_,λi=>bs.getD i true,rfl,W,st,λi v s' Q' E' e q'=>?_,λh' tk k=>⟨.bl (bs.all id),H,keep h' tk k,?_,q⟩⟩)
 ·have e':=zel rv i v (by simpa using e)
  subst e'
  exact wpAny_truthy_bool q'
 ·have ah:=rv.length
  rw[Qa]at ah
  show Value.bool _=Value.bool _
  rw[Qw,←ah,all_range]
end
end L2
end
section
namespace L2
open PySem PySem.Spec PyProof.Rows Tm
def Vals.perm{ws us:Ni}(p:ws.Perm us):∀{ys:List V},Vals ys us→∃zs,zs.Perm ys∧Vals zs ws:=by
 induction p with
 |nil=>intro ys r;cases r;exact⟨[],.nil,.nil⟩
 | cons x q ih =>
  intro ys r
  cases r with
  |cons r1 r2 =>
   obtain⟨zs,h1,h2⟩:=ih r2
   exact⟨_::zs,h1.cons _,.cons r1 h2⟩
 | swap x y l =>
  intro ys r
  cases r with
  |cons r1 r2 =>
   cases r2 with
   |cons r3 r4=>exact⟨_,List.Perm.swap ..,.cons r3 (.cons r1 r4)⟩
 |trans _ _ ih1 ih2 =>
  intro ys r
  obtain⟨zs,h1,h2⟩:=ih2 r
  obtain⟨kj,h3,h4⟩:=ih1 h2
  exact⟨kj,h3.trans h1,h4⟩
theorem Vals.pairwise{α:Type}{R:α→α→Prop}{kv:Value→α}{kV:V→α}:∀{zs:List V} {ws:Ni},Vals zs ws→(∀v∈zs,∀u,RelV v u→kv u=kV v)→ws.Pairwise (λa b=>R (kv a) (kv b))→zs.Pairwise λa b=>R (kV a) (kV b)
 |_,_,.nil,_,_=>.nil
 |v::zs,u::ws,.cons r t,hk,h=>by
  rw[Uc]at h ⊢
  refine⟨λb hb=>?_,Vals.pairwise t (λv hv=>hk v (Qh _ hv)) h.2⟩
  obtain⟨i,hi,e⟩:=Zo hb
  obtain⟨x,hx,rx⟩:=Vals.get t (i:=i) (x:=b) (by rw[Qg hi,e])
  have:=h.1 x (Yv hx)
  rw[hk v Qc u r,hk b (Qh _ hb) x rx]at this
  exact this
section
variable{X:Cx}
def zcy{a0:Nf}{s:Nh}{σ:St}{H:Hp}{p:Nc}{ys:List V}{R:List Value→List Value→Prop}{Q:VK}(I:Inv X a0 σ H s)(hq:SqL X.K H p ys)(hS:∀a7,Vals ys a7→∀(A':Around) (E':Value→Shared→Prop) (s':Shared),A'.units≤X.A.units+8→(∀b o,s.heap.get? b=some o→s'.heap.get? b=some o)→zb3 X.prog X.w A' E' s' (R a7) a7)(h:∀(l:Nc) (ws:List V) (a7 us:Ni),H l=none→ws.Perm ys→Vals ys a7→Vals ws us→R a7 us→Q (.ref l) (upd H l (.lst ws))) :
  wpAny (model X.prog X.w) X.A (call (.builtin "sorted") [.ref p]) (EP X a0 σ Q) X.xe s:=by
 obtain⟨a7,r,pl,hz⟩:=I.list hq
 refine sorted_any pl.isList (by rw[←r.length];exact hz) (hS a7 r) λws l g tk e p1 p2 le k he=>?_
 obtain⟨zs,q1,q2⟩:=Vals.perm p1 r
 exact⟨.ref l,_,I.laid (t':=tk) k le (show zbp X.prog X.w _ g _ (.lst zs) from⟨by rw[q1.length_eq];exact hz,ws,e,q2,he⟩),rfl,h l zs a7 ws (I.hok.fresh le) q1 r q2 p2⟩
def leS(x y:Str):Prop:=¬y.cps.toList<x.cps.toList
def txV:V→List Nat
 |.str x=>x.cps.toList
 |_=>[]
def strs_perm{ws:List V}{zs:Nd}(pm:ws.Perm (zs.map V.str)):∃ts:List Str,ws=ts.map V.str∧ts.Perm zs:=by
 have a1:∀v∈ws,∃x,v=V.str x:=λv hv=>by
  obtain⟨x,_,e⟩:=Qk.mp (pm.mem_iff.mp hv)
  exact⟨x,e.symm⟩
 have a2:∃ts:List Str,ws=ts.map V.str:=by
  clear pm
  induction ws with
  |nil=>exact⟨[],rfl⟩
  |cons v r ih =>
   obtain⟨ts,e⟩:=ih λv hv=>a1 v (Qh _ hv)
   obtain⟨x,e2⟩:=a1 v Qc
   exact⟨x::ts,by rw[e,e2];rfl⟩
 obtain⟨ts,rfl⟩:=a2
 refine⟨ts,rfl,?_⟩
 have:=pm.map (λv=>match v with | .str x=>x | _=>Str.empty)
 rw[Zq,Zq]at this
 simpa[Function.comp_def] using this
def ze5{zs:Nd}{a7:Ni}(r:Vals (zs.map V.str) a7):∀v∈a7,∃x t,v=.str x t:=λv hv=>by
 obtain⟨l,rfl,e⟩:=zd0 r
 obtain⟨pr,_,e2⟩:=Qk.mp hv
 exact⟨_,_,e2.symm⟩
def txV_str{zs:Nd}:∀v∈zs.map V.str,∀u,RelV v u→kvS u=txV v:=λv hv u ru=>by
 obtain⟨x,_,rfl⟩:=Qk.mp hv
 obtain⟨t,rfl⟩:=ru
 rfl
def strs_out{zs ts:Nd}{a7 us:Ni}(r:Vals (zs.map V.str) a7)(r2:Vals (ts.map V.str) us)(p:a7.length<64→us.Pairwise λx y=>strO.kle (kvS x) (kvS y))(h:zs.length<64):ts.Pairwise leS:=by
 have p2:=Vals.pairwise (R:=λa b=>strO.kle a b) (kV:=txV) r2 txV_str (p (by rw[←r.length,Qa];exact h))
 rw[Jp]at p2
 exact p2.imp of_decide_eq_false
def zc4:zb4 X (.builtin "sorted") (λxs H Q=>Ex2 λ(p:Nc) (zs:Nd)=>Aj3 (xs=[.ref p]) (SqL X.K H p (zs.map V.str)) (∀(l:Nc) (ws:Nd),H l=none→ws.Perm zs→(zs.length<64→ws.Pairwise leS)→Q (.ref l) (upd H l (.lst (ws.map V.str))))):=by
 intro a0 s σ H xs us Q I r h
 obtain⟨p,zs,rfl,hq,q⟩:=h
 obtain⟨u,rfl,rx⟩:=vals1 r
 cases rx
 refine zcy I hq (λa7 r A' E' s' _ _=>zd3 (ze5 r)) λl ws a7 us hl p1 r1 r2 p2=>?_
 obtain⟨ts,rfl,p3⟩:=strs_perm p1
 exact q l ts hl p3 (strs_out r1 r2 p2)
def zd2(I:Inv X a0 σ H s)(e:H a=some (.tup [.str x,z])):∃q,RelV z q∧ze4 s.heap (.ref a) x q:=by
 obtain⟨_,a7,r,o,e1,c,n,d⟩:=I.hok a _ e
 obtain⟨u,w',rfl,⟨t,rfl⟩,rz⟩:=vals2 r
 exact⟨w',rz,a,o,t,n,rfl,e1,c,d⟩
def zd1(r:Vals ys a7):∀v∈a7,∃b∈ys,RelV b v:=λv hv=>by
 obtain⟨i,hi,e⟩:=Zo hv
 have hl:=r.length
 have ar:i<ys.length:=by exact zar6 ‹_› ‹_›
 obtain⟨u,hu,ru⟩:=r.get (i:=i) (Qg ar)
 rw[Qg hi,e]at hu
 cases hu
 exact⟨_,Qq ar,ru⟩
def zdh(a:ze4 h v x p)(b:ze4 h v y q):x=y∧p=q:=by
 obtain⟨a,o,t,n,rfl,e,c,d⟩:=a
 obtain⟨a',o',t',n',e0,e',c',d'⟩:=b
 cases e0
 rw[e]at e'
 cases e'
 rw[d]at d'
 have d2:(#[Value.str x t,p]:Array Value)=#[Value.str y t',q]:=by injection d'
 have d3:=congrArg (λa:Array Value=>a[0]?) d2
 have d4:=congrArg (λa:Array Value=>a[1]?) d2
 simp at d3 d4
 exact⟨d3.1,d4⟩
def rowV(H:Hp):V→List Nat
 |.ref a=>match H a with
  |some (.tup [x,_])=>txV x
  |_=>[]
 |_=>[]
def zd6(e:H a=some (.tup [x,y])):rowV H (.ref a)=txV x:=by
 unfold rowV;dsimp only;rw[e]
def zff:zb4 X (.builtin "sorted") (λxs H Q=>Ex2 λ(p:Nc) (ys:List V)=>Aj5 (xs=[.ref p]) (SqL X.K H p ys) (∀v∈ys,∃a x z,v=.ref a∧H a=some (.tup [.str x,z])) (∀v∈ys,∀u∈ys,rowV H v=rowV H u→v=u) (∀(l:Nc) (ws:List V),H l=none→ws.Perm ys→(ys.length<64→ws.Pairwise λa b=>strO.kle (rowV H a) (rowV H b))→Q (.ref l) (upd H l (.lst ws)))):=by
 intro a0 s σ H xs us Q I r h
 obtain⟨p,ys,rfl,hq,hy,hd,q⟩:=h
 obtain⟨u,rfl,rx⟩:=vals1 r
 cases rx
 have back:∀a7,Vals ys a7→∀v∈a7,∃b∈ys,RelV b v∧∃a x z q,b=.ref a∧v=.ref a∧H a=some (.tup [.str x,z])∧ze4 s.heap v x q:=λa7 r v hv=>by
  obtain⟨b,hb,rb⟩:=zd1 r v hv
  obtain⟨a,x,z,rfl,e2⟩:=hy b hb
  have rb':=rb
  cases rb
  obtain⟨q',_,T⟩:=zd2 I e2
  exact⟨_,hb,rb',a,x,z,q',rfl,rfl,e2,T⟩
 refine zcy I hq (λa7 r A' E' s' _ k=>zcz k (λv hv=>?_) λv hv u hu x p q T T'=>?_) λl ws a7 us hl p1 r1 r2 p2=>q l ws hl p1 λkb=>?_
 ·obtain ⟨b,hb,rb,a,x,z,q,_,_,_,T⟩:=back a7 r v hv
  exact⟨x,q,T⟩
 ·obtain ⟨b,hb,rb,a,x1,z,q1,rfl,rfl,e1,T1⟩:=back a7 r v hv
  obtain⟨c,hc,rc,a',x2,z',q2,rfl,rfl,e2,T2⟩:=back a7 r u hu
  have h1:=(zdh T T1).1
  have h2:=(zdh T' T2).1
  subst h1
  subst h2
  have:=hd _ hb _ hc (by rw[zd6 e1,zd6 e2])
  cases this
  exact .inl rfl
 ·refine Vals.pairwise (R:=fun a b=>strO.kle a b) (kv:=fun u=>(kvP s.heap u).1) r2 (fun v hv u ru=>?_) ((p2 (by rw [← r1.length];exact kb)).imp fun h=>(Bool.or_eq_false_iff.mp h).1)
  obtain⟨a,x,z,rfl,e2⟩:=hy v (p1.mem_iff.mp hv)
  cases ru
  obtain⟨q',_,T⟩:=zd2 I e2
  rw[T.key,zd6 e2]
  rfl
def pairV(H:Hp):V→List Nat×List Nat
 |.ref a=>match H a with
  |some (.tup [x,y])=>(txV x,txV y)
  |_=>([],[])
 |_=>([],[])
def zf6(e:H a=some (.tup [x,y])):pairV H (.ref a)=(txV x,txV y):=by
 unfold pairV;dsimp only;rw[e]
def ze2:zb4 X (.builtin "sorted") (λxs H Q=>Ex2 λ(p:Nc) (ys:List V)=>Aj4 (xs=[.ref p]) (SqL X.K H p ys) (∀v∈ys,∃a x y,v=.ref a∧H a=some (.tup [.str x,.str y])) (∀(l:Nc) (ws:List V),H l=none→ws.Perm ys→(ys.length<64→ws.Pairwise λa b=>(pairO strO strO).kle (pairV H a) (pairV H b))→Q (.ref l) (upd H l (.lst ws)))):=by
 intro a0 s σ H xs us Q I r h
 obtain⟨p,ys,rfl,hq,hy,q⟩:=h
 obtain⟨u,rfl,rx⟩:=vals1 r
 cases rx
 have all:∀a7,Vals ys a7→∀v∈a7,∃x y t,ze4 s.heap v x (.str y t):=λa7 r v hv=>by
  obtain⟨b,hb,ru⟩:=zd1 r v hv
  obtain⟨a,x,y,rfl,e2⟩:=hy b hb
  cases ru
  obtain⟨q',⟨t,rfl⟩,T⟩:=zd2 I e2
  exact⟨x,y,t,T⟩
 refine zcy I hq (λa7 r A' E' s' _ k=>zcz k (λv hv=>let⟨x,y,t,T⟩:=all a7 r v hv;⟨x,_,T⟩) λv hv u hu x p q T T'=>.inr ?_) λl ws a7 us hl p1 r1 r2 p2=>q l ws hl p1 λkb=>?_
 ·obtain ⟨_,y,t,T1⟩:=all a7 r v hv
  obtain⟨_,y',t',T2⟩:=all a7 r u hu
  exact⟨y,t,y',t',(zdh T T1).2,(zdh T' T2).2⟩
 ·refine Vals.pairwise (R:=fun a b=>(pairO strO strO).kle a b) r2 (fun v hv u ru=>?_) (p2 (by rw [← r1.length];exact kb))
  obtain⟨a,x,y,rfl,e2⟩:=hy v (p1.mem_iff.mp hv)
  cases ru
  obtain⟨q',⟨t,rfl⟩,T⟩:=zd2 I e2
  rw[T.key,zf6 e2]
  rfl
def ze3(hu:X.A.units+8<cLine):zb4 X (.builtin "sorted") (λxs H Q=>Ex2 λ(p:Nc) (ys:List V)=>Aj4 (xs=[.ref p]) (SqL X.K H p ys) (∀v∈ys,∃a zs,v=.ref a∧H a=some (.lst (List.map V.str zs))) (∀(l:Nc) (ws:List V),H l=none→ws.Perm ys→Q (.ref l) (upd H l (.lst ws)))):=by
 intro a0 s σ H xs us Q I r h
 obtain⟨p,ys,rfl,hq,hy,q⟩:=h
 obtain⟨u,rfl,rx⟩:=vals1 r
 cases rx
 refine zcy I hq (λa7 r A' E' s' hA k=>zgs (by exact Km ‹_› ‹_›) k λv hv=>?_) λl ws _ _ hl p1 _ _ _=>q l ws hl p1
 obtain⟨b,hb,ru⟩:=zd1 r v hv
 obtain⟨a,zs,rfl,e2⟩:=hy b hb
 cases ru
 obtain⟨_,cQ,n,r2,e3⟩:=I.hok a _ e2
 obtain⟨l2,rfl,_⟩:=zd0 r2
 exact⟨a,l2,n,rfl,e3⟩
def dk_at{a0:Nf}{s:Nh}{σ:St}{H:Hp}{d:Nc}{kvs:List (Key×V)}(I:Inv X a0 σ H s)(rd:Rd H d (.dK kvs)) :
  kvs.length≤sizeLine∧(d==sysModules)=false∧∃vs ep,KV kvs vs∧s.heap.DictAt (zap X.prog X.w) d vs ep∧vs.length=kvs.length:=by
 obtain⟨z,y,vs,r,hd⟩:=rd.ok I.hok
 obtain⟨ep,ha⟩:=hd.dictAt
 exact⟨z,y,vs,ep,r,ha,(Yb r).symm⟩
def KV.get{kvs:List (Key×V)}{vs:List (Key×Value)}(r:KV kvs vs){i:Nat}(e:vs[i]?=some (k,x)):∃v,kvs[i]?=some (k,v)∧RelV v x:=by
 induction r generalizing i with
 |nil=>simp at e
 | cons h t ih =>
  cases i with
  |zero =>
   simp at e
   subst e
   exact⟨_,by simp;exact Kl h.1 rfl,h.2⟩
  |succ j =>
   obtain⟨v,h1,h2⟩:=ih (i:=j) (by simpa using e)
   exact⟨v,by simpa using h1,h2⟩
def key_rel(h:(zap P w).is k v=true):RelV (kV k) v:=by
 rcases za9 h with⟨i,t,rfl,rfl⟩ | ⟨x,t,rfl,rfl⟩
 ·exact⟨t,rfl⟩
 ·exact⟨t,rfl⟩
def keys_vals{P:Nj}{w:Nl}{kvs:List (Key×V)}{vs:List (Key×Value)}{ad:Array Value}(r:KV kvs vs)(hl:vs.length=kvs.length)(h:ItemsOf (λi v=>∃k x,vs[i]?=some (k,x)∧(zap P w).is k v=true) ad vs.length):Vals (kvs.map λp=>kV p.1) ad.toList:=by
 have g:∀(i:Nat),i<kvs.length→∃v,ad.toList[i]?=some v∧RelV (kV ((kvs.map Prod.fst).getD i (.inl 0))) v:=λi hi=>by
  have ar:i<ad.size:=by rw[h.1];exact zar6 ‹_› ‹_›
  have e:ad[i]?=some ad[i]:=by simp[ar]
  obtain⟨k,x,e1,e2⟩:=h.2 i _ e
  obtain⟨v',e3,_⟩:=KV.get r e1
  refine⟨ad[i],by rw[Uf];exact e,?_⟩
  have e4:(kvs.map Prod.fst).getD i (.inl 0)=k:=by
   rw[Yh,Qz,e3];rfl
  rw[e4]
  exact key_rel e2
 have hsz:ad.toList.length=kvs.length:=by rw[Wa,h.1];exact hl
 clear h r hl
 generalize ad.toList=l at g hsz
 induction kvs generalizing l with
 |nil =>
  have:l=[]:=List.length_eq_zero_iff.mp hsz
  subst this
  exact .nil
 | cons p t ih =>
  cases l with
  |nil=>cases hsz
  | cons u us =>
   refine .cons ?_ (ih us (λi hi=>?_) (by simpa using hsz))
   ·obtain ⟨v,e1,e2⟩:=g 0 (by simp)
    simp at e1
    subst e1
    exact e2
   ·obtain ⟨v,e1,e2⟩:=g (i+1) (by simpa using hi)
    exact⟨v,by simpa using e1,by simpa using e2⟩
def zgw(hc:X.calm=true):zb4 X (.type "list") (λxs H Q=>Ex2 λ(d:Nc) (kvs:List (Key×V))=>Aj3 (xs=[.ref d]) (Rd H d (.dK kvs)) (∀l,H l=none→Q (.ref l) (upd H l (.lst (kvs.map λp=>kV p.1))))):=by
 intro a0 s σ H xs us Q I r h
 obtain⟨d,kvs,rfl,hq,q⟩:=h
 obtain⟨u,rfl,rx⟩:=vals1 r
 cases rx
 obtain⟨z,lo,vs,ep,rk,ha,hl⟩:=dk_at I hq
 refine PySem.W.kdl_call (PySem.W.kdl_dict lo) (I.ok.hd hc) ha (by rw[hl];exact z) λh' tk ad c k e hi=>?_
 have rv:=keys_vals rk hl hi
 exact⟨.ref _,_,I.laid (t':=tk) k (Qf _) (show zbp X.prog X.w _ h' _ (.lst _) from⟨by rw[Qa];exact z,ad.toList,c,rv,by rw[e]⟩),rfl,q _ (I.hok.fresh (Qf _))⟩
def zbs(hc:X.calm=true):zb4 X (.builtin "sorted") (λxs H Q=>Ex3 λ(d:Nc) (kvs:List (Key×V)) (zs:Nd)=>Aj4 (xs=[.ref d]) (Rd H d (.dK kvs)) ((kvs.map λp=>kV p.1)=zs.map V.str) (∀(l:Nc) (ws:Nd),H l=none→ws.Perm zs→(zs.length<64→ws.Pairwise leS)→Q (.ref l) (upd H l (.lst (ws.map V.str))))):=by
 intro a0 s σ H xs us Q I r h
 obtain⟨d,kvs,zs,rfl,hq,ez,q⟩:=h
 obtain⟨u,rfl,rx⟩:=vals1 r
 cases rx
 obtain⟨z,lo,vs,ep,rk,ha,hl⟩:=dk_at I hq
 refine zeo (G:=λa7=>Vals (zs.map V.str) a7) (λE' R hR=>zgn (PySem.W.kdl_dict lo) (show X.A.in1.handled=none from I.ok.hd hc) ha (by rw[hl];exact z) λg tk ad k le hi=>hR g tk _ k le (ez▸keys_vals rk hl hi))
  (λa7 r=>by rw[←r.length,←ez,Qa];exact z) (λa7 r A' E' s' _ _=>zd3 (ze5 r)) λa7 ws l g tk e r p1 p2 le k he=>?_
 obtain⟨kj,q1,q2⟩:=Vals.perm p1 r
 obtain⟨ts,rfl,p3⟩:=strs_perm q1
 refine⟨.ref l,_,I.laid (t':=tk) k le (show zbp X.prog X.w _ g _ (.lst _) from⟨?_,ws,e,q2,he⟩),rfl,q l ts (I.hok.fresh le) p3 (strs_out r q2 p2)⟩
 rw[q1.length_eq,←ez,Qa];exact z
end
section
variable{X:Cx}{a0:Nf}{σ:St}{H:Hp}{s:Nh}
def Inv.freeze(I:Inv X a0 σ H s)(hd:H d=some u)(ho:s.heap.get? d=some o)(mu:Mut (some u)):Inv X a0 σ (upd H d (.frz o u)) s:=by
 have ne:∀b,H b=none→b≠d:=λb e z=>by rw[z,hd]at e;cases e
 have nt:∀b xs,H b=some (.tup xs)→b≠d:=λb xs e z=>by rw[z,hd]at e;cases e;exact mu
 have nf:∀b o' u',H b=some (.frz o' u')→b≠d:=λb o' u' e z=>by rw[z,hd]at e;cases e;exact mu
 have nb:∀b ps,H b=some (.tbl ps)→b≠d:=λb ps e z=>by rw[z,hd]at e;cases e;exact mu
 have no:∀b a,H b=some (.own a)→b≠d:=λb a e z=>by rw[z,hd]at e;cases e;exact mu
 refine I.un (h':=s.heap) (t':=s.toks) ⟨λb o e _ _ _=>e,λb o e _ _ _=>⟨o.slots,e⟩,λb o e n _=>by rw[zad (ne b n)];exact n,λb o e _=>⟨o,e⟩,λb xs e=>by rw[zad (nt b xs e)];exact e,
  λb o' u' e=>by rw[zad (nf b o' u' e)];exact e,λb ps e=>⟨#[],by rw[zad (nb b ps e),e];simp⟩⟩ λb v e=>?_
 by_cases hb:b=d
 ·subst hb
  rw[zab]at e
  cases e
  exact⟨ho,(I.hok b u hd).stay (λc v _ q=>q) (λc q=>by rw[zad (no c _ q)];exact q) λc xs q=>by rw[zad (nt c xs q)];exact q⟩
 ·rw [zad hb] at e
  exact(I.hok b v e).stay (λc v _ q=>q) (λc q=>by rw[zad (no c _ q)];exact q) λc xs q=>by rw[zad (nt c xs q)];exact q
def Inv.thaw(I:Inv X a0 σ H s)(hd:H d=some (.frz o u))(hx:∀o' u',X.H₀ d≠some (.frz o' u')):Inv X a0 σ (upd H d u) s:=by
 have ne:∀b,H b=none→b≠d:=λb e z=>by rw[z,hd]at e;cases e
 have nt:∀b xs,H b=some (.tup xs)→b≠d:=λb xs e z=>by rw[z,hd]at e;cases e
 have nb:∀b ps,H b=some (.tbl ps)→b≠d:=λb ps e z=>by rw[z,hd]at e;cases e
 have no:∀b a,H b=some (.own a)→b≠d:=λb a e z=>by rw[z,hd]at e;cases e
 have B:=I.base
 refine⟨I.ok,I.os,I.bare,⟨B.keep,B.slot,λb o e n hx=>?_,B.there,λb xs e=>?_,λb o' u' e=>?_,λb ps e=>?_⟩,I.loc,I.cell,?_,λx c e=>?_,λp hp=>?_,λb v e=>?_,I.len⟩
 ·have:=B.free b o e n hx
  rw[zad (ne b this)];exact this
 ·have:=B.tups b xs e
  rw[zad (nt b xs this)];exact this
 ·have:=B.frzs b o' u' e
  have nd:b≠d:=λz=>hx o' u' (z▸e)
  rw[zad nd];exact this
 ·obtain ⟨m,q⟩:=B.tbls b ps e
  exact⟨m,by rw[zad (nb b _ q)];exact q⟩
 ·rw[zad (ne _ I.free)];exact I.free
 ·rw[zad (ne c (I.freeC x c e))];exact I.freeC x c e
 ·obtain ⟨h1,h2,h3⟩:=I.pin p hp
  exact⟨h1,by rw[zad (ne _ h2)];exact h2,h3⟩
 ·by_cases hb:b=d
  ·subst hb
   rw[zab]at e
   cases e
   exact(show s.heap.get? b=some o∧zbp X.prog X.w H s.heap b u from I.hok b _ hd).2.stay (λc v _ q=>q) (λc q=>by rw[zad (no c _ q)];exact q) λc xs q=>by rw[zad (nt c xs q)];exact q
  ·rw [zad hb] at e
   exact(I.hok b v e).stay (λc v _ q=>q) (λc q=>by rw[zad (no c _ q)];exact q) λc xs q=>by rw[zad (nt c xs q)];exact q
inductive Thaw(X:Cx)(R:Hp→Prop)(H':Hp):Prop
 |mk (d:Nc) (o:Obj) (u:HO) (h:H' d=some (.frz o u)) (n:∀o' u',X.H₀ d≠some (.frz o' u')) (q:R (upd H' d u)):Thaw X R H'
def tThaw(X:Cx)(t:TE):TE:=λ σ H Q=>t σ H λv H'=>Thaw X (Q v) H'
def zh2(h:PE X e t):PE X e (tThaw X t):=by
 intro a0 s σ H Q I q
 refine thn (h a0 s σ H _ I q) λu s' ⟨v,H',I',r,d,o,w',e1,e2,e3⟩=>?_
 exact⟨v,_,I'.thaw e1 e2,r,e3⟩
def sThaw(X:Cx)(t:TS):TS:=λD σ H=>t {nx:=λ σ' H'=>Thaw X (D.nx σ') H',rt:=λv H'=>Thaw X (D.rt v) H',bk:=λ σ' H'=>Thaw X (D.bk σ') H',ct:=λ σ' H'=>Thaw X (D.ct σ') H'} σ H
def ps_thaw{st:Stmt}{t:TS}(h:PS X st t):PS X st (sThaw X t):=by
 intro a0 s σ H D I q
 refine thn (h a0 s σ H _ I q) λf s' z=>?_
 cases f with
 |next=>obtain⟨σ',H',I',d,o,w',e1,e2,e3⟩:=z;exact⟨σ',_,I'.thaw e1 e2,e3⟩
 |brk=>obtain⟨σ',H',I',d,o,w',e1,e2,e3⟩:=z;exact⟨σ',_,I'.thaw e1 e2,e3⟩
 |cont=>obtain⟨σ',H',I',d,o,w',e1,e2,e3⟩:=z;exact⟨σ',_,I'.thaw e1 e2,e3⟩
 |ret u=>obtain⟨v,σ',H',I',r,d,o,w',e1,e2,e3⟩:=z;exact⟨v,σ',_,I'.thaw e1 e2,r,e3⟩
def Itd(d:Nc)(o:Obj)(kvs:List (Key×V)):It :=
 ⟨λi H=>H d=some (.frz o (.dK kvs))∧i<kvs.length,λi H x H'=>H'=H∧∃p,kvs[i]?=some p∧x=kV p.1,λi H=>H d=some (.frz o (.dK kvs))∧kvs.length≤i⟩
def frz_at(I:Inv X a0 σ H s)(e:H d=some (.frz o (.dK kvs))):s.heap.get? d=some o∧zbp X.prog X.w H s.heap d (.dK kvs):=I.hok d _ e
def zhc{h:Nm}{kvs:List (Key×V)}{vs vs':List (Key×Value)}{ep ep':Nat}(ho:h.get? d=some o)(a:h.DictAt (zap P w) d vs ep)(o':Obj)(h':Nm)(dG:h'.get? d=some o):h'.DictAt (zap P w) d vs ep:=by
 obtain⟨q,es,e,r⟩:=a
 rw[ho]at e
 cases e
 exact⟨o,es,dG,r⟩
theorem turn_dict{P:Nj}{w:Nl}{K:Na}{tg:Expr}{o:Obj}{kvs:List (Key×V)}{vs:List (Key×Value)}{ep:Nat}{h0:Nm}(d it:Nc)(rk:KV kvs vs)(hl:vs.length=kvs.length)(h00:h0.get? d=some o)(lS:h0.DictAt (zap P w) d vs ep) :
  Turn P w K tg (Itd d o kvs) [it] it (λi h=>h.IsKeyIter it d i vs.length ep) where
 mem:=by simp
 obj:=λi h st b hb=>by
  have e:b=it:=by simpa using hb
  subst e
  obtain⟨o,e,c,d⟩:=st
  exact⟨o,e,λv z=>by rw[d]at z;cases z⟩
 keep:=λi h h' st k=>st.at λo e=>k it (by simp) o e
 item:=by
  intro X hP hw hK hc i a0 s σ H E I hf st hg
  subst hP hw hK
  obtain⟨fz,hi⟩:=hg
  obtain⟨ho,_⟩:=frz_at I fz
  have DA:s.heap.DictAt (zap X.prog X.w) d vs ep:=zhc (kvs:=kvs) (vs':=vs) (ep':=ep) h00 lS o s.heap ho
  obtain⟨f0,f1,f2,f3,f4,f5⟩:=hf it (by simp)
  have ar:i<vs.length:=by exact zar6 ‹_› ‹_›
  obtain⟨v',e3,_⟩:=KV.get rk (i:=i) (k:=vs[i].1) (x:=vs[i].2) (Qg ar)
  refine wpAny_pyNext_dict_item st DA (k:=vs[i].1) (v:=vs[i].2) (Qg ar) λkey h' hk a8 sb=>?_
  have I1:Inv X a0 σ H {s with heap:=h'}:=I.turned (t':=s.toks) (λb o hb e=>(sb.2 b hb).trans e) f0 f1 f3 f4 f5
  obtain⟨o2,e,c,d2⟩:=id a8
  exact⟨key,rfl,go_of (s:={s with heap:=h'}) e c d2 (by decide) ⟨kV vs[i].1,H,I1,key_rel hk,⟨rfl,_,e3,rfl⟩,a8,λb hb=>(hf b hb).1⟩⟩
 done:=by
  intro X hP hw hK hc i a0 s σ H E I hf st hg
  subst hP hw hK
  obtain⟨fz,hi⟩:=hg
  obtain⟨ho,_⟩:=frz_at I fz
  have DA:s.heap.DictAt (zap X.prog X.w) d vs ep:=zhc (kvs:=kvs) (vs':=vs) (ep':=ep) h00 lS o s.heap ho
  obtain⟨f0,f1,f2,f3,f4,f5⟩:=hf it (by simp)
  exact wpAny_pyNext_dict_end (I.ok.hd hc) st DA (Xn (by omega)) λh' eb=>⟨rfl,I.turned (t':=s.toks) (λb o hb e=>eb b o hb e) f0 f1 f3 f4 f5⟩
 self:=λ_ _ _ _ _ st h=>wpAny_pyIter_keyiter st h
inductive RIDi(x:V)(H:Hp)(R:It→Hp→Prop):Prop
 |mk (d:Nc) (kvs:List (Key×V)) (e:x=.ref d) (h:H d=some (.dK kvs)) (q:∀o,R (Itd d o kvs) (upd H d (.frz o (.dK kvs)))):RIDi x H R
def iDict(td:TE):TI:=λ σ H R=>td σ H λx H1=>RIDi x H1 R
def zdw{tg l:Expr}{tl:TE}(hl:PE X l tl):PI X tg l (iDict tl):=by
 intro a0 s σ H R I h
 refine thn (hl a0 s σ H _ I h) λv s1 ⟨x,H1,I1,r1,q1⟩=>?_
 obtain⟨d,kvs,e,hd,q⟩:=q1
 subst e
 cases r1
 obtain⟨z,lo,vs,ep,rk,ha,a9⟩:=dk_at I1 (.inl hd)
 obtain⟨o,es,ho,r⟩:=id ha
 refine wpAny_pyIter_dict lo ha ?_
 have I2:=I1.freeze hd ho trivial
 have I3:Inv X a0 σ (upd H1 d (.frz o (.dK kvs))) {s1 with heap:=s1.heap.push {cls:=.type "dict_keyiterator",data:=.fields #[.ref d,.int 0 0,.int vs.length 0,.int ep 0]}}:=I2.kept (t':=s1.toks) λb o e=>Qj _ e
 refine⟨s1.heap.objs.size,[s1.heap.objs.size],_,_,_,rfl,I3,turn_dict d _ rk a9 ho ha,⟨_,Za _ rfl,rfl,rfl⟩,λb hb=>?_,q o⟩
 have e:b=s1.heap.objs.size:=by simpa using hb
 subst e
 exact I2.fpOk (Qf _) (I2.hok.fresh (Qf _))
end
def for_dict{d:Nc}{o:Obj}{kvs:List (Key×V)}{g:TG}{tb:TS}{D:Ends}{σ:St}{H:Hp}(Pv:Nat→St→Hp→Prop)(h0:Pv 0 σ H)(hl:∀i σ H,i≤kvs.length→Pv i σ H→H d=some (.frz o (.dK kvs)))(hs:∀i p σ H,kvs[i]?=some p→Pv i σ H→g (kV p.1) σ H λ σ2 H2=>tb {D with nx:=Pv (i+1),ct:=Pv (i+1),bk:=D.nx} σ2 H2)(hd:∀σ H,Pv kvs.length σ H→D.nx σ H) :
  ∃W:Nat→Nat→St→Hp→Prop,(∃m,W 0 m σ H)∧∀i m σ H,W i m σ H →
   ((Itd d o kvs).stop i H∧D.nx σ H)∨((Itd d o kvs).go i H∧∃N:St→Hp→Prop,(∀σ' H',N σ' H'→∃m',m'<m∧W (i+1) m' σ' H')∧∀x H',(Itd d o kvs).yld i H x H'→g x σ H' λ σ2 H2=>tb {D with nx:=N,ct:=N,bk:=D.nx} σ2 H2):=by
 refine⟨λi m σ H=>m=kvs.length-i∧i≤kvs.length∧Pv i σ H,⟨kvs.length,by simp,Zi _,h0⟩,?_⟩
 rintro i m σ H ⟨rfl,hi,p⟩
 have q:=hl i σ H hi p
 by_cases aa:i<kvs.length
 ·refine .inr ⟨⟨q,aa⟩,Pv (i+1),fun σ' H' p'=>⟨kvs.length - (i+1),by exact zar1 ‹_›,rfl,aa,p'⟩,fun x H' y=>?_⟩
  obtain⟨e,pr,e2,rfl⟩:=y
  subst e
  exact hs i pr σ _ e2 p
 ·have e:i=kvs.length:=by exact zar3 ‹_› ‹_›
  subst e
  exact .inl ⟨⟨q,Qf _⟩,hd σ H p⟩
end L2
end
section
namespace Enu
open PySem PyProof.Rows
open AutoSeq1 (wpAny_loadPart')
section
variable{prog:Nj}{w:Nl}{A:Nn}{E:Nb}{s:Nh}
def next_item(st:s.heap.IsTupleIter j t i)(ht:s.heap.IsTuple t xs)(hx:xs[i]?=some x)(hQ:∀g,g.IsTupleIter j t (i+1)→Heap.SameBut j s.heap g→Q x {s with heap:=g}):wpAny (model prog w) A (Builtin.SmallTypes.nextOf (.ref j)) Q E s:=by
 obtain⟨o,ho,hc,hd⟩:=id st
 obtain⟨p,hp,_,k,hk⟩:=ht
 unfold Builtin.SmallTypes.nextOf
 refine wpAny_bind (wpAny_callSpecial?_slot (name:=Str.ofString "__next__") st.typeIs Jf (wpAny_call_entry Jf st.typeIs F.entry_tuple_iterator_next ?_ (F.args_tuple_iterator_next_1 _)))
 show wpAny _ _ (field (.ref j) 0 >>= _) _ _ s
 refine wpAny_bind (wpAny_field ho hd (x:=.ref t) rfl ?_)
 show wpAny _ _ (if(Value.ref t==.none)=true then _ else _) _ _ s
 rw[if_neg (show ¬((Value.ref t==.none)=true) from Zg)]
 show wpAny _ _ (field (.ref j) 1 >>= _) _ _ s
 refine wpAny_bind (wpAny_field ho hd (x:=.int i 0) rfl ?_)
 show wpAny _ _ (seqItems? (.ref t) >>= _) _ _ s
 refine wpAny_bind (wpAny_seqItems hp hk ?_)
 simp only[Wl,hx]
 refine wpAny_bind (wpAny_setField ho hd (by simp) (wpAny_pure ⟨x,rfl,wpAny_pure (hQ _ ⟨_,Heap.get?_update_self _ ho (Obj.isFreed_of_fields (Xc hd _)),(Obj.cls_mapFields ..).trans hc,by rw[Xc hd];simp[rawInt]⟩ (Kx ..))⟩))
def next_end(hh:A.handled=none)(st:s.heap.IsTupleIter j t i)(ht:s.heap.IsTuple t xs)(hx:xs[i]?=none)(hE:∀g e,Heap.ExtBut j s.heap g→(∃o,g.get? e=some o∧o.cls=.type "StopIteration")→E (.ref e) {s with heap:=g}):wpAny (model prog w) A (Builtin.SmallTypes.nextOf (.ref j)) Q E s:=by
 obtain⟨o,ho,hc,hd⟩:=id st
 obtain⟨p,hp,_,k,hk⟩:=ht
 unfold Builtin.SmallTypes.nextOf
 refine wpAny_bind (wpAny_callSpecial?_slot (name:=Str.ofString "__next__") st.typeIs Jf (wpAny_call_entry Jf st.typeIs F.entry_tuple_iterator_next ?_ (F.args_tuple_iterator_next_1 _)))
 show wpAny _ _ (field (.ref j) 0 >>= _) _ _ s
 refine wpAny_bind (wpAny_field ho hd (x:=.ref t) rfl ?_)
 show wpAny _ _ (if(Value.ref t==.none)=true then _ else _) _ _ s
 rw[if_neg (show ¬((Value.ref t==.none)=true) from Zg)]
 show wpAny _ _ (field (.ref j) 1 >>= _) _ _ s
 refine wpAny_bind (wpAny_field ho hd (x:=.int i 0) rfl ?_)
 show wpAny _ _ (seqItems? (.ref t) >>= _) _ _ s
 refine wpAny_bind (wpAny_seqItems hp hk ?_)
 simp only[Wl,hx]
 refine wpAny_bind (wpAny_rule (wpAny_bind (wpAny_setField ho hd (by simp) ?_)))
 show wpAny _ _ (newExc (.type "StopIteration") [] >>= _) _ _ _
 refine wpAny_bind ?_
 simp only[newExc,newTuple]
 refine wpAny_bind (wpAny_newObj_type (wpAny_bind (m:=firstArgMember _ _) (wpAny_of_eq (a:=Value.none) (by first | rfl | (simp only[firstArgMember];rfl)) (wpAny_newObj_type ?_ (by size_fits)))) (by size_fits))
 simp only[raiseNew]
 refine wpAny_bind (wpAny_handled ?_)
 first | rw[show A.in1.handled=none from hh] | rw[hh]
 refine wpAny_bind (wpAny_pure (wpAny_throw (hE _ _ (((Kx ..).extBut.push _).push _) ⟨_,Za _ rfl,rfl⟩)))
theorem drawsT(hh:A.handled=none)(j t:Nc)(ap:t≠j)(xs:Array Value) :
  Draws prog w A j [j,t] xs.size (λi v=>xs[i]?=some v) (λi h=>h.IsTupleIter j t i∧h.IsTuple t xs) where
 live:=λ_ _ st=>let⟨o,ho,_⟩:=st.1;⟨o,ho⟩
 frame:=λi h h' st k=>⟨st.1.at λo e=>k j (by simp) o e,let⟨o,e,r⟩:=st.2;⟨o,k t (by simp) o e,r⟩⟩
 item:=λi s Q E hi st hQ=>by
  refine next_item st.1 st.2 (x:=xs[i]) (by simp[hi]) λg a b=>?_
  obtain⟨o,e,r⟩:=st.2
  exact hQ _ g s.toks (by simp[hi]) ⟨a,o,(b.2 t ap).trans e,r⟩ b
 done:=λs Q E st hE=>next_end hh st.1 st.2 (by simp) hE
def new_tuple(t:Nc)(xs:Array Value)(n:Nat)(dct:Option Addr)(sl:Array (Option Value)) :
  Meets (Builtin.«enumerate.__new__» ⟨[.type "enumerate",.ref t],[]⟩) (λ_ R s=>s.heap.get? t=some {cls:=.type "tuple",dict:=dct,data:=.seq xs n,slots:=sl} ∧
   R (.ok (.ret (.ref (s.heap.push {cls:=.type "tuple_iterator",data:=.fields #[.ref t,.int 0 0]}).objs.size)))
    {s with heap:=(s.heap.push {cls:=.type "tuple_iterator",data:=.fields #[.ref t,.int 0 0]}).push {cls:=.type "enumerate",data:=.fields #[.none,.bool false,.ref s.heap.objs.size,rawInt 0,.none,.none]}}) :=
 .of_wp λprog w A R s h=>by
  obtain⟨hp,g,d,tk,os⟩:=s;obtain⟨hl,h⟩:=h
  have kN:=sub_enumerate
  have hL:Heap.IsTuple (Shared.heap ⟨hp,g,d,tk,os⟩) t xs:=⟨_,hl,rfl,n,rfl⟩
  wp_walk using wpAny_loadPart' hl
  refine wpAny_stack_any λst=>wpAny_pure ?_
  split
  ·rename_i c _ _ _ _ _
   cases(c==Value.type "enumerate")<;>(wp_walk using wpAny_loadPart' hl,wpAny_pyIter_tuple hL;exact⟨_,rfl,h⟩)
  ·wp_walk using wpAny_loadPart' hl,wpAny_pyIter_tuple hL
   exact⟨_,rfl,h⟩
def call_enum(hL:s.heap.IsTuple t xs)(h:∀g,IsEnum g (s.heap.objs.size+1) s.heap.objs.size 0 .none→g.IsTupleIter s.heap.objs.size t 0→g.objs.size=s.heap.objs.size+2→(∀b o,s.heap.get? b=some o→g.get? b=some o)→Q (.ref (s.heap.objs.size+1)) {s with heap:=g}) :
  wpAny (model prog w) A (call (.type "enumerate") [.ref t]) Q E s:=by
 obtain⟨⟨c,dct,dt,sl⟩,hl,hc,n,hd⟩:=hL
 replace hc:c=.type "tuple" := hc
 replace hd:dt=.seq xs n:=hd
 subst hc hd
 refine callType_new F.called_enumerate (by decide) (F.typeCall_enumerate_1 _) (F.newCall_enumerate_1 _) (λobj=>F.args_object_init_2 obj _) F.entry_enumerate_new (new_tuple t xs n dct sl) ⟨hl,?_⟩
 have hz:(s.heap.push {cls:=.type "tuple_iterator",data:=.fields #[.ref t,.int 0 0]}).objs.size=s.heap.objs.size+1:=Wv ..
 show _∧_
 rw[hz]
 have he:IsEnum ((s.heap.push {cls:=.type "tuple_iterator",data:=.fields #[.ref t,.int 0 0]}).push {cls:=.type "enumerate",data:=.fields #[.none,.bool false,.ref s.heap.objs.size,rawInt 0,.none,.none]}) (s.heap.objs.size+1) s.heap.objs.size 0 .none:=by
  have q:=Za (s.heap.push {cls:=.type "tuple_iterator",data:=.fields #[.ref t,.int 0 0]}) (o:={cls:=.type "enumerate",data:=.fields #[.none,.bool false,.ref s.heap.objs.size,rawInt 0,.none,.none]}) rfl
  rw[hz]at q;exact q
 exact⟨⟨_,he,rfl⟩,h _ he ⟨_,Qj _ (Za _ rfl),rfl,rfl⟩ (by rw[Wv,hz]) λb o x=>Qj _ (Qj _ x)⟩
end
end Enu
namespace L2
open PySem PySem.Spec PyProof.Rows Enu
def Ite(a:Nc)(K:Na):It :=
 ⟨λi H=>∃xs,SqT K H a xs∧i<xs.length,λi H x H'=>∃y t,(∀xs,SqT K H a xs→xs[i]?=some y)∧H t=none∧x=.ref t∧H'=upd H t (.tup [.int i,y]),λi H=>∃xs,SqT K H a xs∧xs.length≤i⟩
theorem turn_enum{P:Nj}{w:Nl}{K:Na}{elts:Nq}{kk:Nat}{pos:Pos}(a e j:Nc)(uT:e≠j)(rg:a≠j)(hae:e≠a) :
  Turn P w K (.Tuple elts kk pos) (Ite a K) [e,j] e (λi h=>(∃old,IsEnum h e j i old)∧h.IsTupleIter j a i) where
 mem:=by simp
 obj:=λi h st b hb=>by
  rcases Qd.mp hb with z | z
  ·subst z
   obtain⟨old,q⟩:=st.1
   exact⟨_,q,λv z=>by
    have z':Data.fields _=Data.cell v:=z
    cases z'⟩
  ·rw [Qb.mp z]
   obtain⟨o,q,c,d⟩:=st.2
   exact⟨o,q,λv z=>by rw[d]at z;cases z⟩
 keep:=λi h h' st k=>⟨let⟨old,q⟩:=st.1;⟨old,k e (by simp) _ q⟩,st.2.at λo q=>k j (by simp) o q⟩
 item:=by
  intro X hP hw hK hc i a0 s σ H E I hf st hg
  subst hP hw hK
  obtain⟨xs,hq,hi⟩:=hg
  obtain⟨a7,rv,p,hz⟩:=I.tuple hq
  have hl:=rv.length
  obtain⟨⟨old,he⟩,hit⟩:=st
  have hh:X.A.in1.handled=none:=I.ok.hd hc
  refine wpAny_pyNext_enum_itemD (drawsT hh j a rg a7.toArray) he ⟨hit,p⟩ (by simp;exact zar7 ‹_› ‹_›) uT (by simp[uT,hae]) λx g tk hP ho hs hT hsz hk=>⟨.ref s.heap.objs.size,rfl,?_⟩
  have fr:∀b,b∈[e,j]→FpOk X a0 H b:=hf
  obtain⟨e0,e1,e2,e3,e4,e5⟩:=hf e (by simp)
  obtain⟨j0,j1,j2,j3,j4,j5⟩:=hf j (by simp)
  have hHe:∀b u,H b=some u→b≠e∧b≠j:=λb u q=>⟨λz=>(by rw[z,e0]at q;cases q),λz=>(by rw[z,j0]at q;cases q)⟩
  have I1:Inv X a0 σ H {s with heap:=g,toks:=tk+1}:=by
   refine I.step (g':=s.gens) (d':=s.drawn) (ch:=[e,j]) (λb hb=>?_) (λb o _ _ hc q _=>hk b o (λz=>hc (by simp[z])) (λz=>hc (by simp[z])) q) (λb o _ _ hc q _=>⟨o.slots,hk b o (λz=>hc (by simp[z])) (λz=>hc (by simp[z])) q⟩) (λ_ _ _ _ n=>n)
    (λb o hc q=>⟨o,hk b o (λz=>hc (by simp[z])) (λz=>hc (by simp[z])) q⟩) (λ_ _ q=>q) (λ_ _ _ q=>q) (λb ps q=>⟨#[],by rw[q];simp⟩) (λm hm=>?_) (λb u q=>?_) I.bare
   ·rcases Qd.mp hb with z | z
    ·subst z;exact⟨e3,e1,e4,e5⟩
    ·rw[Qb.mp z];exact⟨j3,j1,j4,j5⟩
   ·obtain ⟨o,es,ep,q,r⟩:=hm
    exact⟨o,es,ep,hk _ o (Zc e1) (Zc j1) q,r⟩
   ·refine (I.hok b u q).stay (fun c v hc z=>?_) (fun _ z=>z) fun _ _ z=>z
    have qZ:c≠e∧c≠j:=by
     rcases hc with rfl | hc
     ·exact hHe c u q
     ·exact hHe c _ hc
    exact hk c v qZ.1 qZ.2 z
  obtain⟨y,hy⟩:∃y,xs[i]?=some y:=⟨xs[i],Qg hi⟩
  obtain⟨u,hu,ru⟩:=rv.get hy
  have hP':a7[i]?=some x:=by simpa using hP
  rw[hu]at hP'
  have qH:u=x:=Qp hP'
  subst qH
  have hN:H s.heap.objs.size=none:=I.hok.fresh (Qf _)
  refine wpAny_letOwnedTupleGo_enum ho λg' br bj=>?_
  have nT:s.heap.objs.size≠e:=Yw (Qu he)
  have nJ:s.heap.objs.size≠j:=by obtain⟨o,q,_⟩:=hit;exact Yw (Qu q)
  have I2:Inv X a0 σ H {s with heap:=g',toks:=tk+1}:=Inv.turned (s:={s with heap:=g,toks:=tk+1}) (t':=tk+1) (it:=e) I1 (λb o hb q=>(bj.2 b hb).trans q) e0 e1 e3 e4 e5
  have vf:g'.get? s.heap.objs.size=some {cls:=.type "tuple",data:=.seq #[.int i tk,u]}:=(bj.2 _ nT).trans hT
  have I3:Inv X a0 σ (upd H s.heap.objs.size (.tup [.int i,y])) {s with heap:=g',toks:=tk+1}:=by
   refine⟨I2.ok,I2.os,I2.bare,⟨I2.base.keep,I2.base.slot,λb o q n hx=>?_,I2.base.there,λb zs q=>?_,λb o v q=>?_,λb ps q=>?_⟩,I2.loc,I2.cell,?_,λz c q=>?_,λpp hp=>?_,λb v q=>?_,I2.len⟩
   ·have lt:b < s.heap.objs.size:=Zw (Qu q) I.sz
    rw[zad (Ze lt)];exact I2.base.free b o q n hx
   ·have:=I2.base.tups b zs q
    rw[zad (zaa this hN)];exact this
   ·have:=I2.base.frzs b o v q
    rw[zad (zaa this hN)];exact this
   ·obtain ⟨m,z⟩:=I2.base.tbls b ps q
    exact⟨m,by rw[zad (zaa z hN)];exact z⟩
   ·rw[zad (Ze I.lt)];exact I2.free
   ·rw[zad (Ze (I.cl_lt z c q))];exact I2.freeC z c q
   ·obtain ⟨h1,h2,h3⟩:=I2.pin pp hp
    exact⟨h1,by rw[zad (Ze (I.pin_lt pp hp))];exact h2,h3⟩
   ·by_cases hb:b=s.heap.objs.size
    ·subst hb
     rw[zab]at q
     cases q
     exact⟨by show 2≤sizeLine;decide,[.int i tk,u],.cons ⟨tk,rfl⟩ (.cons ru .nil),_,vf,rfl,_,rfl⟩
    ·rw [zad hb] at q
     exact(I2.hok b v q).stay (λc v _ z=>z) (λc z=>by rw[zad (zaa z hN)];exact z) λc zs z=>by rw[zad (zaa z hN)];exact z
  refine⟨.ref s.heap.objs.size,_,I3,rfl,⟨y,_,λys nO=>by rw[I.tuple_inj nO hq];exact hy,hN,rfl,rfl⟩,⟨⟨u,by simpa using br⟩,?_⟩,λb hb=>?_⟩
  ·exact hs.1.at λo q=>(bj.2 j (Zc uT)).trans q
  ·rcases Qd.mp hb with z | z
   ·rw[z,zad (Zc nT)];exact e0
   ·rw[Qb.mp z,zad (Zc nJ)];exact j0
 done:=by
  intro X hP hw hK hc i a0 s σ H E I hf st hg
  subst hP hw hK
  obtain⟨xs,hq,hi⟩:=hg
  obtain⟨a7,rv,p,hz⟩:=I.tuple hq
  have hl:=rv.length
  obtain⟨⟨old,he⟩,hit⟩:=st
  obtain⟨j0,j1,j2,j3,j4,j5⟩:=hf j (by simp)
  have hh:X.A.in1.handled=none:=I.ok.hd hc
  have hT:s.TypeIs (.ref e) "enumerate" := ⟨_,he,rfl⟩
  unfold pyNext
  refine wpAny_bind (wpAny_attempt (wpAny_callSpecial?_slot (name:=Str.ofString "__next__") hT F.slot_enumerate_next (wpAny_call_entry F.slot_enumerate_next hT F.entry_enumerate_next ?_ (F.args_enumerate_next_1 _))))
  show wpAny _ _ (field (.ref e) 2 >>= _) _ _ _
  refine wpAny_bind (wpAny_field he rfl (x:=.ref j) rfl (wpAny_bind (next_end hh hit p (by simp;exact zdz ‹_› ‹_›) λg x hg hx=>?_)))
  obtain⟨o,ho,hc⟩:=hx
  refine wpAny_bind (wpAny_isInstance (T := "StopIteration") (b:=true) ⟨o,ho,hc⟩ isSubtype_stop (wpAny_pure ⟨rfl,?_⟩))
  exact I.turned (t':=s.toks) (λb o hb q=>hg b o hb q) j0 j1 j3 j4 j5
 self:=λA i s Q E st h=>by
  obtain⟨⟨old,he⟩,_⟩:=st
  exact wpAny_pyIter_enum he h
end L2
end
section
namespace L2
open PySem PySem.Spec PyProof.Rows Enu
section
variable{X:Cx}
def iEnum(K:Na)(ta:TA):TI:=λ σ H R=>ta σ H λvs H1=>∃a,vs=[.ref a]∧(∃xs,SqT K H1 a xs)∧R (Ite a K) H1
def pi_enum(hg:Gl X "enumerate")(hm:X.mg "enumerate" = none)(ha:PA X [a] ta)(hs:starEach [a] X.env=[(false,eval a X.env)]:=by rfl) :
  PI X (.Tuple elts kk tpos) (.Call (.Name "enumerate" p) [a] [] pos) (iEnum X.K ta):=by
 intro a0 s σ H R I h
 refine Call_ (zg8 I hg hm boot_enumerate (Us (thn (ha pos a0 s σ H _ I h) λus s1 ⟨vs,H1,I1,r1,q1⟩=>?_) hs rfl))
 obtain⟨t,e,⟨xs,hq⟩,q⟩:=q1
 subst e
 obtain⟨u,rfl,ru⟩:=vals1 r1
 cases ru
 obtain⟨a7,rv,pl,hz⟩:=I1.tuple hq
 have lt:t<s1.heap.objs.size:=by obtain⟨o,q,_⟩:=pl;exact Qu q
 refine call_enum pl λg he hit hsz k=>wpAny_pyIter_enum he ?_
 have I2:Inv X a0 σ H1 {s1 with heap:=g}:=I1.kept (t':=s1.toks) k
 refine⟨s1.heap.objs.size+1,[s1.heap.objs.size+1,s1.heap.objs.size],_,_,H1,rfl,I2,turn_enum t _ _ (Xd _) (Ze lt) (Yw (Jl lt)),⟨⟨_,he⟩,hit⟩,λb hb=>?_,q⟩
 have g9:s1.heap.objs.size≤b:=by
  rcases Qd.mp hb with z | z
  ·rw[z];exact Jk _
  ·rw[Qb.mp z];exact Qf _
 exact I1.fpOk g9 (I1.hok.fresh g9)
def for_enum{K:Na}{a:Nc}{xs:List V}{g:TG}{tb:TS}{D:Ends}{σ:St}{H:Hp}(Pv:Nat→St→Hp→Prop)(h0:Pv 0 σ H)(hl:∀i σ H,i≤xs.length→Pv i σ H→H a=some (.tup xs))(hs:∀i x t σ H,xs[i]?=some x→Pv i σ H→H t=none→g (.ref t) σ (upd H t (.tup [.int i,x])) λ σ2 H2=>tb {D with nx:=Pv (i+1),ct:=Pv (i+1),bk:=D.nx} σ2 H2)(hd:∀σ H,Pv xs.length σ H→D.nx σ H) :
  ∃W:Nat→Nat→St→Hp→Prop,(∃m,W 0 m σ H)∧∀i m σ H,W i m σ H →
   ((Ite a K).stop i H∧D.nx σ H)∨((Ite a K).go i H∧∃N:St→Hp→Prop,(∀σ' H',N σ' H'→∃m',m'<m∧W (i+1) m' σ' H')∧∀x H',(Ite a K).yld i H x H'→g x σ H' λ σ2 H2=>tb {D with nx:=N,ct:=N,bk:=D.nx} σ2 H2):=by
 refine⟨λi m σ H=>m=xs.length-i∧i≤xs.length∧Pv i σ H,⟨xs.length,by simp,Zi _,h0⟩,?_⟩
 rintro i m σ H ⟨rfl,hi,p⟩
 have q:=hl i σ H hi p
 by_cases aa:i<xs.length
 ·refine .inr ⟨⟨xs,SqT.of q,aa⟩,Pv (i+1),fun σ' H' p'=>⟨xs.length - (i+1),by exact zar1 ‹_›,rfl,aa,p'⟩,fun x H' y=>?_⟩
  obtain⟨z,t,e1,e3,rfl,rfl⟩:=y
  exact hs i z t σ H (e1 xs (SqT.of q)) p e3
 ·have e:i=xs.length:=by exact zar3 ‹_› ‹_›
  subst e
  exact .inl ⟨⟨xs,SqT.of q,Qf _⟩,hd σ H p⟩
def Its(x:Str):It:=⟨λi _=>i<x.cps.size,λi H v H'=>H'=H∧∃c,x.cps[i]?=some c∧v=.str ⟨#[c]⟩,λi _=>x.cps.size≤i⟩
theorem turn_str{P:Nj}{w:Nl}{K:Na}{tg:Expr}{x:Str}{t:Tok}(it:Nc):Turn P w K tg (Its x) [it] it (λi h=>h.IsStrIter it "str_ascii_iterator" x t i) where
 mem:=by simp
 obj:=λi h st b hb=>by
  rw[Qb.mp hb]
  obtain⟨o,e,c,d⟩:=st
  exact⟨o,e,λv z=>by rw[d]at z;cases z⟩
 keep:=λi h h' st k=>let⟨o,ho,r⟩:=st;⟨o,k it (by simp) o ho,r⟩
 item:=by
  intro X hP hw hK hc i a0 s σ H E I hf st hg
  subst hP hw hK
  obtain⟨f0,f1,f2,f3,f4,f5⟩:=hf it (by simp)
  have hi:i<x.cps.size:=hg
  refine wpAny_pyNext_ascii_item st (c:=x.cps[i]) (by simp[hi]) λh' a8 sb=>?_
  have I1:Inv X a0 σ H {s with heap:=h',toks:=s.toks+1}:=I.turned (λb o hb e=>(sb.2 b hb).trans e) f0 f1 f3 f4 f5
  obtain⟨o,e,c,d⟩:=id a8
  exact⟨_,rfl,go_of (s:={s with heap:=h',toks:=s.toks+1}) e c d (by decide) ⟨.str ⟨#[x.cps[i]]⟩,H,I1,⟨_,rfl⟩,⟨rfl,_,by simp[hi],rfl⟩,a8,λb hb=>(hf b hb).1⟩⟩
 done:=by
  intro X hP hw hK hc i a0 s σ H E I hf st hg
  subst hP hw hK
  obtain⟨f0,f1,f2,f3,f4,f5⟩:=hf it (by simp)
  have hi:x.cps.size≤i:=hg
  exact wpAny_pyNext_ascii_end (I.ok.hd hc) st (by simp[hi]) λh' eb=>⟨rfl,I.turned (t':=s.toks) (λb o hb e=>eb b o hb e) f0 f1 f3 f4 f5⟩
 self:=λ_ _ _ _ _ st h=>wpAny_pyIter_striter_ascii st h
def iStr(tl:TE):TI:=λ σ H R=>tl σ H λv H1=>∃x:Str,v=.str x∧x.cps.all (· < 128)=true∧R (Its x) H1
def pi_str{tg l:Expr}{tl:TE}(hl:PE X l tl):PI X tg l (iStr tl):=by
 intro a0 s σ H R I h
 refine thn (hl a0 s σ H _ I h) λv s1 ⟨y,H1,I1,r1,q1⟩=>?_
 obtain⟨x,e,ha,q⟩:=q1
 subst e
 obtain⟨t,rfl⟩:=r1
 refine wpAny_pyIter_ascii ha ?_
 refine⟨s1.heap.objs.size,[s1.heap.objs.size],_,_,H1,rfl,I1.kept (t':=s1.toks) λb o e=>Qj _ e,turn_str (t:=t) _,⟨_,Za _ rfl,rfl,rfl⟩,λb hb=>?_,q⟩
 rw[Qb.mp hb]
 exact I1.fpOk (Qf _) (I1.hok.fresh (Qf _))
def op_le_str:OpR X (compareOp .LtE) (λx y H Q=>Ex2 λi j=>Aj3 (x=.str i) (y=.str j) (Q (.bl (!decide (j.cps.toList<i.cps.toList))) H)):=by
 intro a0 s σ H x y v u Q I rx ry h
 obtain⟨i,j,rfl,rfl,q⟩:=h
 obtain⟨t,rfl⟩:=rx
 obtain⟨t',rfl⟩:=ry
 exact PySem.P.le_str (za4 I q rfl)
end
end L2
end
section
namespace L2
open PySem PySem.Spec PyProof.Rows
section
variable{X:Cx}{a0:Nf}{σ:St}{H:Hp}{s:Nh}
inductive RrNil(neg:Bool)(K:Na)(x:V)(y:V)(H:Hp)(Q:VK):Prop
 |mk (l:_) (b:_) (xs:_) (h0:x=.ref l) (h1:y=.ref b) (h2:SqL K H l xs) (h3:SqL K H b []) (h4:Q (.bl (if neg then !xs.isEmpty else xs.isEmpty)) H):RrNil neg K x y H Q
def rNil(neg:Bool)(K:Na):R2:=λx y H Q=>RrNil neg K x y H Q
def op_eq_nil(hu:X.A.units<cLine):OpR X (compareOp .Eq) (rNil false X.K):=by
 intro a0 s σ H x y v u Q I rx ry h
 obtain⟨l,b,xs,rfl,rfl,h1,h2,q⟩:=h
 cases rx;cases ry
 obtain⟨a7,r,pl,_⟩:=I.list h1
 obtain⟨cQ,r2,ko,_⟩:=I.list h2
 cases r2
 cases r with
 |nil=>exact SeqAt.eq_listAt (e:=λ_=>true) pl.isList ko.isList rfl hu (λj h1 _=>by simp at h1) ⟨.bl true,H,I,rfl,q⟩
 |cons a t=>exact SeqAt.eq_list_lengthsAt pl.isList ko.isList (by simp) hu ⟨.bl false,H,I,rfl,q⟩
def zf7(hu:X.A.units<cLine):OpR X (compareOp .NotEq) (rNil true X.K):=by
 intro a0 s σ H x y v u Q I rx ry h
 obtain⟨l,b,xs,rfl,rfl,h1,h2,q⟩:=h
 cases rx;cases ry
 obtain⟨a7,r,pl,_⟩:=I.list h1
 obtain⟨cQ,r2,ko,_⟩:=I.list h2
 cases r2
 cases r with
 |nil=>exact SeqAt.RcNeAt.lists (e:=λ_=>true) pl.isList ko.isList rfl hu (λj h1 _=>by simp at h1) _ _ _ _ ⟨.bl false,H,I,rfl,q⟩
 |cons a t=>exact SeqAt.RcNeAt.lists_lengths pl.isList ko.isList (by simp) hu _ _ _ _ ⟨.bl true,H,I,rfl,q⟩
def eq_pairs(I:Inv X a0 σ H s)(hu:A.units < cLine)(ha:H a=some (.tup [.str x,.str y]))(hb:H b=some (.tup [.str x',.str y'])) :
  SeqAt.EqAt A s (.ref a) (.ref b) (decide ((x,y)=(x',y'))):=by
 obtain⟨_,a7,r,p⟩:=I.hok a _ ha
 obtain⟨_,cQ,r2,p2⟩:=I.hok b _ hb
 obtain⟨u1,u2,rfl,⟨t1,rfl⟩,⟨t2,rfl⟩⟩:=vals2 r
 obtain⟨w1,w2,rfl,⟨t3,rfl⟩,⟨t4,rfl⟩⟩:=vals2 r2
 by_cases iN:a=b
 ·subst iN
  rw[ha]at hb
  cases hb
  rw[decide_eq_true rfl]
  exact SeqAt.EqAt.same _
 ·have key:=SeqAt.RcAt.tuples (A:=A) (s:=s) (e:=fun j=>if j=0 then x == x' else y == y') p p2 hu fun j j1 j2=>by
   have j1':j<2:=by simpa using j1
   match j,j1' with
   |0,_=>exact Jt x t1 x' t3
   |1,_=>exact Jt y t2 y' t4
  have e:((List.range (min (#[Value.str x t1,Value.str y t2]:Array Value).size (#[Value.str x' t3,Value.str y' t4]:Array Value).size)).all (λj=>if j=0 then x==x' else y==y')&&(#[Value.str x t1,Value.str y t2]:Array Value).size==(#[Value.str x' t3,Value.str y' t4]:Array Value).size)=decide ((x,y)=(x',y')):=by
   show((List.range 2).all (λj=>if j=0 then x==x' else y==y')&&true)=_
   rw[show List.range 2=[0,1] from rfl]
   by_cases hx:x=x'
   ·by_cases hy:y=y'
    ·simp[hx,hy]
    ·simp[hx,hy]
   ·simp[hx]
  have sj:SeqAt.RcAt A s (.ref a) (.ref b) (decide ((x,y)=(x',y'))):=e▸key
  exact SeqAt.EqAt.of_refs iN sj
inductive RrInP(neg:Bool)(K:Na)(x:V)(y:V)(H:Hp)(Q:VK):Prop
 |mk (a p:Nc) (q:Str×Str) (as:Nk) (qs:Nr) (h0:x=.ref a) (h1:y=.ref p) (h2:H a=some (.tup [.str q.1,.str q.2])) (h3:SqL K H p (as.map V.ref)) (h4:Paired (λb (r:Str×Str)=>H b=some (.tup [.str r.1,.str r.2])) as qs) (h5:Q (.bl (if neg then !decide (q∈qs) else decide (q∈qs))) H):RrInP neg K x y H Q
def rInP(neg:Bool)(K:Na):R2:=λx y H Q=>RrInP neg K x y H Q
def in_pairs(I:Inv X a0 σ H s)(hu:X.A.units+1 < cLine)(ha:H a=some (.tup [.str q.1,.str q.2]))(rv:Vals (as.map V.ref) a7)(pq:Paired (λb (r:Str×Str)=>H b=some (.tup [.str r.1,.str r.2])) as qs):∃e:Value→Bool,(∀y∈a7,SeqAt.EqAt X.A.in1 s y (.ref a) (e y))∧a7.any e=decide (q∈qs):=by
 refine⟨λv=>match v with | .ref b=>(match H b with | some (.tup [.str x,.str y])=>decide ((x,y)=q) | _=>false) | _=>false,?_,?_⟩
 ·intro y hy
  obtain⟨b,hb,rb⟩:=zd1 rv y hy
  obtain⟨c,hc,rfl⟩:=Qk.mp hb
  cases rb
  obtain⟨i,hi,ei⟩:=Zo hc
  obtain⟨r,_,hr⟩:∃r,r∈qs∧H c=some (.tup [.str r.1,.str r.2]):=by
   clear rv hy hb hi ei i
   induction pq with
   |nil=>cases hc
   | cons h t ih =>
    rcases Qd.mp hc with z | z
    ·subst z;exact⟨_,Qc,h⟩
    ·obtain ⟨r,h1,h2⟩:=ih z
     exact⟨r,Qh _ h1,h2⟩
  dsimp only
  rw[hr]
  exact eq_pairs I (by show X.A.units+1<cLine;exact hu) hr ha
 ·induction pq generalizing a7 with
  |nil=>cases rv;simp
  | cons h t ih =>
   cases rv with
   | cons r1 r2 =>
    cases r1
    rw[Ka,ih r2]
    dsimp only
    rw[h]
    rename_i r _ rs _
    have:decide (q∈r::rs)=(decide ((r.1,r.2)=q)||decide (q∈rs)):=by
     rw[Yf]
     simp only[decide_eq_true_eq,Qd,Xk]
     constructor
     ·rintro (z | z)
      ·exact .inl z.symm
      ·exact .inr z
     ·rintro (z | z)
      ·exact .inl z.symm
      ·exact .inr z
    rw[this]
def zgu(hu:X.A.units+1<cLine):OpR X (compareOp .NotIn) (rInP true X.K):=by
 intro a0 s σ H x y v u Q I rx ry h
 obtain⟨a,p,q,as,qs,rfl,rfl,ha,hq,pq,q'⟩:=h
 cases rx;cases ry
 obtain⟨a7,r,pl,_⟩:=I.list hq
 obtain⟨e,h1,h2⟩:=in_pairs I hu ha r pq
 refine SeqAt.notIn_listAt e pl.isList (λw hw=>h1 w (by simpa using hw)) ⟨.bl _,H,I,?_,q'⟩
 show Value.bool (!(a7.toArray.any e))=_
 rw[show a7.toArray.any e=a7.any e by simp,h2]
 rfl
theorem argBest_lt:∀k,argBest bt k≤k
 |0=>Qf _
 |k+1=>by
  show(if bt (k+1) (argBest bt k)=true then k+1 else argBest bt k)≤k+1
  split
  ·exact Qf _
  ·exact Nat.le_succ_of_le (argBest_lt k)
theorem zc3(f:Nat→List Nat):∀k j,j≤k→¬f j<f (argBest (λi j=>decide (f i<f j)) k)
 |0,j,h=>by
  have:j=0:=by lia
  subst this
  exact Ya _
 | k+1,j,h=>by
  show ¬f j<f (if decide (f (k+1)<f (argBest (λi j=>decide (f i<f j)) k))=true then k+1 else argBest (λi j=>decide (f i<f j)) k)
  by_cases aa:f (k+1)<f (argBest (λi j=>decide (f i<f j)) k)
  ·rw [if_pos (decide_eq_true aa)]
   by_cases hj:j=k+1
   ·subst hj;exact Ya _
   ·intro z
    exact zc3 f k j (by lia) (List.lt_trans z aa)
  ·rw [if_neg (by simpa using aa)]
   by_cases hj:j=k+1
   ·subst hj;exact aa
   ·exact zc3 f k j (by lia)
def zir(hc:X.calm=true):zb4 X (.builtin "min") (λxs H Q=>Ex2 λ(p:Nc) (zs:Nd)=>Aj4 (xs=[.ref p]) (SqL X.K H p (zs.map V.str)) (zs≠[]) (∀z∈zs,(∀y∈zs,leS z y)→Q (.str z) H)):=by
 intro a0 s σ H xs us Q I r h
 obtain⟨p,zs,rfl,hq,ap,q⟩:=h
 obtain⟨u,rfl,rx⟩:=vals1 r
 cases rx
 have eZ:0<zs.length:=Ul.mpr ap
 refine call_min_walk (zfg hc I hq λa7 It h1 rv W st lt keep=>⟨It,_,_,_,_,_,λi j=>decide ((zs.getD i Str.empty).cps.toList<(zs.getD j Str.empty).cps.toList),rfl,W,st,lt,?_,λi j vi vj s' Q' E' hi hj fT=>?_,λv h' tk hv k=>?_⟩)
 ·have:=rv.length
  rw[Qa]at this
  rw[Qw];exact zar7 ‹_› ‹_›
 ·have gs:∀ (i:Nat) (v:Value),a7.toArray[i]?=some v→∃ t,v=.str (zs.getD i Str.empty) t:=fun i v e=>by
   have e':a7[i]?=some v:=by simpa using e
   have hi:i<a7.length:=(Zb.mp e').1
   have hl:=rv.length
   rw[Qa]at hl
   have ar:i<zs.length:=by exact zar6 ‹_› ‹_›
   obtain⟨u,e2,t,e3⟩:=rv.get (i:=i) (x:=.str zs[i]) (by simp[ar])
   rw[e']at e2
   cases e2
   exact⟨t,by rw[e3];simp[List.getD,ar]⟩
  obtain⟨t1,rfl⟩:=gs i vi hi
  obtain⟨t2,rfl⟩:=gs j vj hj
  exact lt_str fT
 ·have hl:=rv.length
  rw[Qa]at hl
  have hk:=argBest_lt (bt:=λi j=>decide ((zs.getD i Str.empty).cps.toList<(zs.getD j Str.empty).cps.toList)) (a7.toArray.size-1)
  generalize hb:argBest (λi j=>decide ((zs.getD i Str.empty).cps.toList<(zs.getD j Str.empty).cps.toList)) (a7.toArray.size-1)=b at hv hk
  have ce:b<zs.length:=by rw[Qw]at hk;lia
  have jH:a7[b]?=some v:=by simpa using hv
  obtain⟨u,e2,t,e3⟩:=rv.get (i:=b) (x:=.str zs[b]) (by simp[ce])
  rw[jH]at e2
  cases e2
  refine⟨.str zs[b],H,keep h' tk k,⟨t,e3⟩,q _ (Qq ce) λy hy=>?_⟩
  obtain⟨j,hj,ej⟩:=Zo hy
  have:=zc3 (λi=>(zs.getD i Str.empty).cps.toList) (a7.toArray.size-1) j (by rw[Qw];lia)
  rw[hb]at this
  have g1:zs.getD b Str.empty=zs[b]:=by simp[List.getD,ce]
  have g2:zs.getD j Str.empty=y:=by simp[List.getD,hj,ej]
  rw[g1,g2]at this
  exact this
end
section
variable{X:Cx}
def eqV_self{x:V}(f:zdb x=true):eqV x x=true:=by
 cases x with
 |non=>rfl
 |bl b=>exact beq_self_eq_true b
 |int i=>exact beq_self_eq_true i
 |str z=>exact beq_self_eq_true z
 |_=>cases f
def KV.value{kvs:List (Key×V)}{vs:List (Key×Value)}(r:KV kvs vs){k:Key}{v:V}(nd:(kvs.map (·.1)).Nodup)(h:(k,v)∈kvs):∃ y,valueAt vs k=some y∧RelV v y:=by
 induction r with
 |nil=>cases h
 | @cons p q ps qs e t ih =>
  rw[Qm,Qv]at nd
  rcases Qd.mp h with z | z
  ·refine ⟨q.2,?_,?_⟩
   ·unfold valueAt
    rw[Wj (by rw[←e.1,←z];simp)]
    rfl
   ·have:=e.2
    rw[←z]at this
    exact this
  ·obtain ⟨y,h1,h2⟩:=ih nd.2 z
   refine⟨y,?_,h2⟩
   have ne:p.1≠k:=λw=>nd.1 (by rw[w];exact Qk.mpr ⟨_,z,rfl⟩)
   unfold valueAt at h1 ⊢
   rw[Wk (by rw[←e.1];simpa using ne)]
   exact h1
end
end L2
end
section
namespace SetT
open PySem PyProof.Rows PySem.Spec
section
variable{prog:Nj}{w:Nl}{A:Nn}{R:Nw}{I:Nc}{fp wr:Nk}{G:Array GenState→Array GenState→Prop}{n:Nat}{P:Nat→Value→Prop}{St:Nat→Shared→Prop}
def loop(W:WalksS prog w A.in1 I fp wr G n P St)(S:Nc)(rl:S∉fp)(zs:Nd)(hz:zs.length=n)(nd:zs.Nodup)(kL:∀i v,P i v→∃t,v=.str (zs.getD i Str.empty) t)(hb:n+1<scanBound) :
  ∀(k i:Nat) (s:Nh),n-i=k→i≤n→St i s→s.heap.SetOf (PySem.strKind prog w) S (λx=>decide (x∈zs.take i)) i →
   (∀s',Moved (S::wr) G s s'→s'.heap.SetOf (PySem.strKind prog w) S (λx=>decide (x∈zs.take n)) n→R (.ok (.ret .none)) s')→codeAny (model prog w) A (.builtin "set.update.loop" ⟨[.ref S,.ref I],[]⟩) R s:=by
 have hSw:S∉wr:=λh=>rl (W.sub _ h)
 have sub:∀b∈wr,b∈S::wr:=λb q=>Qh _ q
 intro k
 induction k with
 |zero =>
  intro i s hk hi aQ hS hR
  obtain rfl:i=n:=by lia
  refine codeAny_builtin F.entry_set_update_loop ?_
  rw[Wm F.plain_set_update_loop _]
  show wpAny _ A.in1 (pyNext (.ref I) >>= _) _ _ s
  refine wpAny_bind (W.done s _ _ aQ λs' hm=>(show wpAny _ A.in1 (ret Value.none) _ _ s' from wpAny_pure (hR s' (hm.mono sub) ?_)))
  obtain⟨o,es,ep,t,ho,rest⟩:=hS
  exact⟨o,es,ep,t,hm.heap S _ hSw ho,rest⟩
 | succ k ih =>
  intro i s hk hi aQ hS hR
  have lt:i<n:=by lia
  refine codeAny_builtin F.entry_set_update_loop ?_
  rw[Wm F.plain_set_update_loop _]
  show wpAny _ A.in1 (pyNext (.ref I) >>= _) _ _ s
  refine wpAny_bind (W.item i s _ _ lt aQ λv s' hP sY hm=>?_)
  obtain⟨t,rfl⟩:=kL i v hP
  have ar:i<zs.length:=by exact zar6 ‹_› ‹_›
  have eg:zs.getD i Str.empty=zs[i]:=by simp[List.getD,ar]
  rw[eg]
  have mX:s'.heap.SetOf (PySem.strKind prog w) S (λx=>decide (x∈zs.take i)) i:=by
   obtain⟨o,es,ep,tb,ho,rest⟩:=hS
   exact⟨o,es,ep,tb,hm.heap S _ hSw ho,rest⟩
  show wpAny _ A.in1 (holding [Value.str zs[i] t] (setAdd S (.str zs[i] t)) >>= _) _ _ s'
  refine wpAny_bind (wpAny_holding ?_)
  unfold setAdd
  refine wpAny_holding (wpAny_bind ((PySem.strKind prog w).pyHash (k:=zs[i]) (by simp[PySem.strKind,Value.isStrOf]) ?_))
  have nin:decide (zs[i]∈zs.take i)=false:=decide_eq_false λq=>by
   obtain⟨j,hj,e⟩:=Zo q
   rw[Zn]at hj
   rw[Ws]at e
   have:=(Jb nd).mp e
   lia
  refine wpAny_setAddHashed_of (knd:=PySem.strKind prog w) (k:=zs[i]) (by simp[PySem.strKind,Value.isStrOf]) rfl mX (by lia) λg sb hS2=>?_
  have rj:g.SetOf (PySem.strKind prog w) S (λx=>decide (x∈zs.take (i+1))) (i+1):=by
   refine SetOf_congr hS2 (λx=>?_) (by simp only[nin];simp)
   rw[Yf]
   simp only[Xk,decide_eq_true_eq]
   rw[Qn ar,Qe,Qb]
  refine wpAny_pure ⟨plainId_quiet F.plain_set_update_loop _,ih (i+1) _ (by lia) lt (W.frame _ s' _ _ sY (by first | exact Qf _ | exact Jk _) λb q o e=>?_) rj λs2 cq hS3=>hR s2 (Moved.trans W.gtrans ((hm.mono sub).then_heap (by first | exact Qf _ | exact Jk _) λb o q e=>?_) cq) hS3⟩
  ·rw[sb.2 b (λz:b=S=>rl (by rw[←z];exact q))];exact e
  ·rw[sb.2 b (λz:b=S=>q (by rw[z];exact Qc))];exact e
end
section
variable{prog:Nj}{w:Nl}{A:Nn}{E:Nb}{s:Nh}
def call_set{l:Nc}{a7:Ni}{zs:Nd}{Q:Nb}(hh:A.handled=none)(hl:s.heap.IsList l a7.toArray)(hz:zs.length=a7.length)(nd:zs.Nodup)(kL:∀(i:Nat) (v:Value),a7[i]?=some v→∃t,v=.str (zs.getD i Str.empty) t)(hb:a7.length+1<scanBound)(h:∀(g:Nm) (tk:Nat),g.SetOf (PySem.strKind prog w) s.heap.objs.size (λx=>decide (x∈zs)) zs.length→(∀b o,s.heap.get? b=some o→g.get? b=some o)→Q (.ref s.heap.objs.size) {s with heap:=g,toks:=tk}) :
  wpAny (model prog w) A (call (.type "set") [.ref l]) Q E s:=by
 obtain⟨c,tl,hmro⟩:=Wp.mro
 have hmade:=Wp.made
 have kN:=Wp.sub
 refine wpAny_call (codeAny_of_tree (show wpAny _ _ (callAny (.type "set") _) _ _ _ from wpAny_pure ⟨Code.quiet_builtin _ (by decide +kernel),codeAny_builtin PySem.F.entry_type_call ?_⟩))
 rw[Around.under_plain (weight_type_call_type "set" [.ref l] []) rfl]
 have h1:=Wp.notType
 have h2:=Wp.canCreate
 have mJ:=PySem.F.typeCall_set_1 (.ref l)
 repeat(any_goals (first | assumption | wp_step))
 refine codeAny_mono (code_set_new_1 (.ref l) (E:=E) (Q₁:=λobj s₁=>∃led:Bool,obj=.ref s.heap.objs.size∧s₁={s with heap:=s.heap.push {cls:=.type "set",dict:=none,data:=.set #[] 0 (.fresh 0 0 led)}}) λled=>⟨led,rfl,rfl⟩) λr s1 hr=>?_
 cases r with
 |error e=>exact hr
 | ok fl =>
  cases fl with
  | ret obj =>
   obtain⟨led,rfl,rfl⟩:=hr
   have hS:(s.heap.push {cls:=.type "set",dict:=none,data:=.set #[] 0 (.fresh 0 0 led)}).get? s.heap.objs.size=some {cls:=.type "set",dict:=none,data:=.set #[] 0 (.fresh 0 0 led)}:=Za _ rfl
   have hT:Shared.TypeIs {s with heap:=s.heap.push {cls:=.type "set",dict:=none,data:=.set #[] 0 (.fresh 0 0 led)}} (.ref s.heap.objs.size) "set" := ⟨_,hS,rfl⟩
   have hli:=Wp.init.lookup
   have hbi:=Wp.init.bind (.ref s.heap.objs.size)
   repeat(any_goals (first | assumption | wp_step))
   refine codeAny_mono (codeAny_call_builtin (R:=wants (λr s₂=>r=.none∧∃g tk,s₂={s with heap:=g,toks:=tk}∧g.SetOf (PySem.strKind prog w) s.heap.objs.size (λx=>decide (x∈zs)) zs.length∧(∀b o,s.heap.get? b=some o→g.get? b=some o)) E)
    Wp.init.plain PySem.F.entry_set_init (check_set_init_1 hT ?_)) λr2 s2 bA=>?_
   ·obtain ⟨ol,hol,iK,nl,jT⟩:=hl
    obtain⟨ocls,odict,odata,oslots⟩:=ol
    simp only at iK jT
    subst iK;subst jT
    have tQ:(s.heap.push {cls:=.type "set",dict:=none,data:=.set #[] 0 (.fresh 0 0 led)}).get? l=some {cls:=.type "list",dict:=odict,data:=.seq a7.toArray nl,slots:=oslots}:=Qj _ hol
    have hsls:=PySem.F.sub_list_set
    have hslf:=PySem.F.sub_list_frozenset
    have ap:(Value.type "list" == Value.type "dict")=false:=by decide
    have aS:(s.heap.push {cls:=.type "set",dict:=none,data:=.set #[] 0 (.fresh 0 0 led)}).IsList l a7.toArray:=⟨_,tQ,rfl,nl,rfl⟩
    unfold Builtin.«set.__init__» noKeywords Builtin.Frozenset.updateFrom
    generalize hPI:pyIter=PI
    wp_walk
    subst hPI
    refine wpAny_pyIter_list aS (wpAny_bind (wpAny_runValue ?_))
    have hlS:l<s.heap.objs.size:=Qu hol
    have lq:A.in1.in1.in1.handled=none:=by simp[hh]
    have z1:(s.heap.push {cls:=.type "set",dict:=none,data:=.set #[] 0 (.fresh 0 0 led)}).objs.size=s.heap.objs.size+1:=Wv ..
    have tT:l≠(s.heap.push {cls:=.type "set",dict:=none,data:=.set #[] 0 (.fresh 0 0 led)}).objs.size:=by rw[z1];exact Ze (Jl hlS)
    have rl:s.heap.objs.size∉[(s.heap.push {cls:=.type "set",dict:=none,data:=.set #[] 0 (.fresh 0 0 led)}).objs.size,l]:=by
     rw[z1];simp only[Qd,Wq,or_false,not_or]
     exact⟨Ze (Wi _),Yw hlS⟩
    refine loop ((Walks.list lq _ l tT a7.toArray).toS) s.heap.objs.size rl zs (by rw[Qw];exact hz) nd (λi v hv=>kL i v (by simpa using hv)) (by rw[Qw];exact hb) _ 0 _ rfl (Zi _) ⟨⟨_,Za _ rfl,rfl,rfl⟩,(aS.push _)⟩ ?_ ?_
    ·exact SetOf_congr ((setObjOf_fresh (knd:=PySem.strKind prog w) led).setOf (Qj _ hS) (by unfold scanBound;exact Nat.le_add_left _ _)) (λ_=>by simp) rfl
    ·intro s' hm mX
     obtain⟨g,g',d',rN,rS⟩:=s'
     have eg:g'=s.gens:=hm.gens
     have ed:d'=s.drawn:=hm.drawn
     have eo:rS=s.os:=hm.os
     subst eg;subst ed;subst eo
     show wpAny _ _ _ _ _ _
     refine wpAny_pure (show wpAny _ _ (ret Value.none) _ _ _ from wpAny_pure ⟨rfl,g,rN,rfl,?_,λb o e=>?_⟩)
     ·have e1:a7.toArray.size=zs.length:=by rw [Qw,hz]
      rw[e1,Qr (Qf _)]at mX
      exact mX
     ·have mQ:b < s.heap.objs.size:=Qu e
      refine hm.heap b o ?_ (Qj _ (Qj _ e))
      rw[z1]
      simp only[Qd,Wq,or_false,not_or]
      exact⟨Ze mQ,Ze (Jl mQ)⟩
   ·cases r2 with
    |error e=>exact bA
    | ok qi =>
     cases qi with
     |ret r =>
      obtain⟨rfl,g,tk,rfl,mX,gW⟩:=bA
      repeat(any_goals (first | assumption | wp_step))
      exact h _ _ mX gW
     |_=>exact bA.elim
  |_=>exact hr.elim
end
end SetT
namespace L2
open PySem PySem.Spec PyProof.Rows
def setO(P:Nj)(w:Nl)(a:Nc)(zs:Nd):HO:=.ext λh=>h.SetOf (PySem.strKind P w) a (λx=>decide (x∈zs)) zs.length
section
variable{X:Cx}
def zej(hc:X.calm=true):zb4 X (.type "set") (λxs H Q=>Ex2 λ(p:Nc) (zs:Nd)=>Aj5 (xs=[.ref p]) (SqL X.K H p (zs.map V.str)) zs.Nodup (zs.length≤1000) (∀l,H l=none→Q (.ref l) (upd H l (setO X.prog X.w l zs)))):=by
 intro a0 s σ H xs us Q I r h
 obtain⟨p,zs,rfl,hq,nd,hz,q⟩:=h
 obtain⟨u,rfl,rx⟩:=vals1 r
 cases rx
 obtain⟨a7,rv,pl,_⟩:=I.list hq
 have hl:=rv.length
 rw[Qa]at hl
 refine SetT.call_set (zs:=zs) (I.ok.hd hc) pl.isList hl nd (λi v e=>?_) (by unfold scanBound;lia) λg tk hS k=>?_
 ·have hi:i < a7.length:=(Zb.mp e).1
  have ar:i<zs.length:=by exact zar6 ‹_› ‹_›
  obtain⟨u,e2,t,e3⟩:=rv.get (i:=i) (x:=.str zs[i]) (by simp[ar])
  rw[e]at e2
  cases e2
  exact⟨t,by rw[e3];simp[List.getD,ar]⟩
 ·refine ⟨.ref _,_,I.laid (t':=tk) k (Qf _) (show zbp X.prog X.w _ g _ (setO X.prog X.w s.heap.objs.size zs) from ⟨hS,?_,fun h1 h2 p1 k1=>?_⟩),rfl,q _ (I.hok.fresh (Qf _))⟩
  ·obtain ⟨o,_,_,_,e,_⟩:=hS
   exact⟨o,e⟩
  ·obtain ⟨o,es,ep,t,e,rest⟩:=p1
   exact⟨o,es,ep,t,k1 o e,rest⟩
def zek:zb4 X (.builtin "len") (λxs H Q=>Ex2 λ(p:Nc) (zs:Nd)=>Aj4 (xs=[.ref p]) (H p=some (setO X.prog X.w p zs)) (zs.length≤1000) (Q (.int zs.length) H)):=by
 intro a0 s σ H xs us Q I r h
 obtain⟨p,zs,rfl,hq,hz,q⟩:=h
 obtain⟨u,rfl,rx⟩:=vals1 r
 cases rx
 obtain⟨⟨o,es,ep,t,ho,mD,hd,lA,cz,hb,hf,hn⟩,_⟩:=(show zbp X.prog X.w H s.heap p (setO X.prog X.w p zs) from I.hok p _ hq)
 exact call_len_set ho mD hd hf (by rw[hn];lia) ⟨.int zs.length,H,I.tok _,⟨_,by rw[hn]⟩,q⟩
end
end L2
end
section
namespace DictR
open PySem PyProof.Rows PySem.Spec
def miss_keys:typeLookup (.type "list") "keys" = pure none:=am_miss_of_fast (by decide +kernel)
section
variable{prog:Nj}{w:Nl}{A:Nn}{E:Nb}{s:Nh}
def no_keys{a:Nc}{xs:Array Value}{k:Nat}{sl:Array (Option Value)}{Q:Option Value→Shared→Prop}(hx:s.heap.get? a=some {cls:=.type "list",dict:=none,data:=.seq xs k,slots:=sl})(hA:A.handled=none)(h:∀g tk,(∀b o,s.heap.get? b=some o→g.get? b=some o)→Q none {s with heap:=g,toks:=tk}):wpAny (model prog w) A (getAttr? (.ref a) "keys") Q E s:=by
 obtain⟨hp,g,d,tk,os⟩:=s
 have hT:∀t',(⟨hp,g,d,t',os⟩:Shared).TypeIs (.ref a) "list" := λ_=>⟨_,hx,rfl⟩
 have f1:=sub_AttributeError
 have f3:=Xo.lookup
 have f4:=Xo.bind (.ref a)
 have f5:=am_list_getattr_none
 unfold getAttr? getAttrBy? getAttrBy
 repeat(any_goals (first | assumption | exact hT _ | ((with_reducible show wpAny _ _ (call (Value.builtin "list.__getattribute__") _ _) _ _ _);refine call_meets Xo (hT _) am_entry_list_getattribute (F.args_list_getattribute_2 _ _) (meets_getattribute_miss_list a xs k sl "keys" _ miss_keys (by decide +kernel) (by decide +kernel)) ⟨hx,hA,λh' rN e eO=>?_⟩) | wp_step))
 obtain⟨t',u',he⟩:=eO.there
 show wpAny _ _ (getattributeRaised _ _ _ _ _ _ _) _ _ _
 unfold getattributeRaised
 repeat(any_goals (first | assumption | wp_step))
 exact h h' rN eO.keeps
def zhb:entryFor table "dict.update.loop" = some Builtin.«dict.update.loop»:=entryFor_of_tree (by kernel_rfl)
def zdm:plainId "dict.update.loop" = true:=by decide +kernel
structure Row(K:Type) where
 a:Addr
 o:Obj
 k:K
 key:Value
 val:Value
 n:Nat
variable{K:Type}[DecidableEq K]{knd:KeyKind prog w K}
def RowAt(knd:KeyKind prog w K)(h:Nm)(r:Row K):Prop:=h.get? r.a=some r.o∧r.o.cls=.type "tuple" ∧ r.o.data=.seq #[r.key,r.val] r.n∧knd.is r.k r.key=true
def stored_new{kvs:List (K×Value)}(h:k∉kvs.map (·.1)):stored kvs k v=kvs++[(k,v)]:=by
 unfold stored
 rw[if_neg]
 intro z
 obtain⟨p,hp,e⟩:=Ym.mp z
 exact h (Qk.mpr ⟨p,hp,of_decide_eq_true e⟩)
def loop{R:Nw}{I l:Nc}(hh:A.handled=none)(rows:List (Row K))(d:Nc)(uY:d≠I)(jT:d≠l)(hlI:l≠I)(hr:∀ r∈rows,r.a≠d∧r.a≠I)(nd:(rows.map (·.k)).Nodup)(hz:rows.length≤sizeLine) :
  ∀(m i:Nat) (s:Nh),rows.length-i=m→i≤rows.length→s.heap.IsListIter I l i→s.heap.IsList l (rows.map λr=>Value.ref r.a).toArray→(∀r∈rows,RowAt knd s.heap r)→s.heap.DictOf knd d ((rows.take i).map λr=>(r.k,r.val)) →
   (∀g tk,(∀b o,b≠d→b≠I→s.heap.get? b=some o→g.get? b=some o)→g.DictOf knd d (rows.map λr=>(r.k,r.val))→R (.ok (.ret .none)) {s with heap:=g,toks:=tk}) →
   codeAny (model prog w) A (.builtin "dict.update.loop" ⟨[.ref d,.ref I,rawInt i,.none],[]⟩) R s:=by
 intro m
 induction m with
 |zero =>
  intro i s hm hi st hl hR hd hQ
  obtain rfl:i=rows.length:=by lia
  refine codeAny_builtin zhb ?_
  rw[Wm zdm _]
  show wpAny _ A.in1 (pyNext (.ref I) >>= _) _ _ s
  refine wpAny_bind (wpAny_pyNext_list_end (show A.in1.handled=none from hh) st hl (by simp) λg eb=>?_)
  show wpAny _ A.in1 (Builtin.Dict.addKeywords d [] >>= λ_=>ret Value.none) _ _ _
  refine wpAny_bind (show wpAny _ A.in1 (pure ()) _ _ _ from wpAny_pure (wpAny_pure (hQ g s.toks (λb o _ hb e=>eb b o hb e) ?_)))
  rw[Qr (Qf _)]at hd
  exact hd.extBut eb uY
 | succ m ih =>
  intro i s hm hi st hl hR hd hQ
  have lt:i<rows.length:=by lia
  obtain⟨e1,e2,e3,e4⟩:=hR rows[i] (Qq lt)
  obtain⟨n1,n2⟩:=hr rows[i] (Qq lt)
  refine codeAny_builtin zhb ?_
  rw[Wm zdm _]
  show wpAny _ A.in1 (pyNext (.ref I) >>= _) _ _ s
  refine wpAny_bind (wpAny_pyNext_list_item st hl (x:=.ref rows[i].a) (by simp[lt]) λg a8 sb=>?_)
  have k1:∀b o,b≠I→s.heap.get? b=some o→g.get? b=some o:=λb o hb e=>(sb.2 b hb).trans e
  have jV:g.DictOf knd d ((rows.take i).map λr=>(r.k,r.val)):=hd.sameBut sb uY
  refine wpAny_bind (wpAny_holding ?_)
  refine wpAny_bind (wpAny_tryCatch ?_)
  show wpAny _ A.in1 (Builtin.Dict.pairItems (.ref rows[i].a)) _ _ _
  unfold Builtin.Dict.pairItems
  refine wpAny_bind (wpAny_typeOf (T := "tuple") ⟨_,k1 _ _ n2 e1,e2⟩ ?_)
  rw[if_pos (by decide)]
  refine wpAny_bind (wpAny_seqItems (k1 _ _ n2 e1) e3 (wpAny_pure ?_))
  show wpAny _ A.in1 (holding [rows[i].key,rows[i].val] (dictSet d rows[i].key rows[i].val)) _ _ _
  have nk:rows[i].k∉((rows.take i).map λr=>(r.k,r.val)).map (·.1):=by
   rw[Zq]
   intro q
   obtain⟨r,aH,bA⟩:=Qk.mp q
   obtain⟨j,hj,ej⟩:=Zo aH
   rw[Zn]at hj
   rw[Ws]at ej
   have iG:j<rows.length:=by lia
   have:(rows.map (·.k))[j]'(by simpa using iG)=(rows.map (·.k))[i]'(by simpa using lt):=by
    rw[Zs,Zs,ej];exact bA
   have:=(Jb nd).mp this
   lia
  refine wpAny_holding (wpAny_dictSet_pairs (knd:=knd) e4 jV (λg2 mH sb2=>?_) (by rw[Qa,Zn];lia))
  rw[stored_new nk]at mH
  have jU:g2.DictOf knd d ((rows.take (i+1)).map λr=>(r.k,r.val)):=by
   rw[Qn lt,Qs];exact mH
  have k2:∀b o,b≠d→b≠I→s.heap.get? b=some o→g2.get? b=some o:=λb o iM ce e=>(sb2.2 b iM).trans (k1 b o ce e)
  have hc:((i:Int)+1)=((i+1:Nat):Int):=by push_cast;rfl
  refine wpAny_pure ⟨plainId_quiet zdm _,?_⟩
  rw[hc]
  refine ih (i+1) _ (by lia) lt ?_ ?_ (λr oi=>?_) jU λg3 tk3 k3 mG=>?_
  ·obtain ⟨o,q,z⟩:=a8
   exact⟨o,(sb2.2 I (Zc uY)).trans q,z⟩
  ·obtain ⟨o,q,z⟩:=hl
   exact⟨o,k2 l o (Zc jT) hlI q,z⟩
  ·obtain ⟨q1,q2⟩:=hR r oi
   exact⟨k2 _ _ (hr r oi).1 (hr r oi).2 q1,q2⟩
  ·exact hQ g3 tk3 (λb o iM ce e=>k3 b o iM ce (k2 b o iM ce e)) mG
def call{l:Nc}{rows:List (Row K)}{Q:Nb}{xk:Nat}(hh:A.handled=none)(hl:s.heap.get? l=some {cls:=.type "list",data:=.seq (rows.map λr=>Value.ref r.a).toArray xk})(hR:∀r∈rows,RowAt knd s.heap r)(nd:(rows.map (·.k)).Nodup)(hz:rows.length≤sizeLine)(h:∀g tk,g.DictOf knd s.heap.objs.size (rows.map λr=>(r.k,r.val))→(∀b o,s.heap.get? b=some o→g.get? b=some o)→Q (.ref s.heap.objs.size) {s with heap:=g,toks:=tk}) :
  wpAny (model prog w) A (call (.type "dict") [.ref l]) Q E s:=by
 refine callType_codes (Q₁:=λobj s₁=>obj=.ref s.heap.objs.size∧s₁={s with heap:=s.heap.push {cls:=.type "dict",data:=.dict #[]}}) PySem.F.kt_called_dict (PySem.F.kt_typeCall_dict_1 _) PySem.F.entry_dict_init (kt_code_dict_new _ ⟨rfl,rfl⟩) ?_
 rintro obj s₁ ⟨rfl,rfl⟩
 have bp:(s.heap.push {cls:=.type "dict",data:=.dict #[]}).DictOf knd s.heap.objs.size []:=Heap.DictOf.new s.heap
 refine⟨bp.typeIs,PySem.F.args_dict_init_2 _ _,?_⟩
 unfold Builtin.«dict.__init__»
 refine wpAny_bind ?_
 unfold Builtin.Dict.selfAndRest
 refine wpAny_bind (wpAny_notOrdered_dict bp.typeIs (show wpAny _ _ (pure (s.heap.objs.size,[Value.ref l])) _ _ _ from wpAny_pure ?_))
 show wpAny _ _ (Builtin.Dict.updateFrom "dict.__init__" s.heap.objs.size (.ref l) [] .none) _ _ _
 unfold Builtin.Dict.updateFrom
 have aS:(s.heap.push {cls:=.type "dict",data:=.dict #[]}).get? l=some {cls:=.type "list",data:=.seq (rows.map λr=>Value.ref r.a).toArray xk}:=Qj _ hl
 refine wpAny_bind (wpAny_typeOf (T := "list") ⟨_,aS,rfl⟩ ?_)
 rw[if_pos (by decide)]
 refine wpAny_bind (no_keys aS (by first | exact hh | (show A.handled=none;exact hh)) λg tk kg=>?_)
 simp only[Option.isNone_none,if_true]
 refine wpAny_bind (wpAny_rule ?_)
 have ltl:l<s.heap.objs.size:=Qu hl
 have dg:g.DictOf knd s.heap.objs.size []:=by
  obtain⟨o,es,ep,q,z⟩:=bp
  exact⟨o,es,ep,kg _ _ q,z⟩
 have hlg:g.IsList l (rows.map λr=>Value.ref r.a).toArray:=⟨_,kg _ _ aS,rfl,xk,rfl⟩
 have ltd:s.heap.objs.size<g.objs.size:=by
  obtain⟨o,es,ep,q,z⟩:=dg
  exact Qu q
 have lts:∀b o,s.heap.get? b=some o→b≠s.heap.objs.size∧b≠g.objs.size:=λb o e=>⟨Ze (Qu e),Ze (Ww (Qu e) ltd)⟩
 refine wpAny_bind (wpAny_pyIter_list (s:={s with heap:=g,toks:=tk}) hlg (wpAny_pure ⟨plainId_quiet zdm _,?_⟩))
 refine loop (knd:=knd) (I:=g.objs.size) (l:=l) (by first | exact hh | (show A.handled=none;exact hh)) rows s.heap.objs.size (Ze ltd) (Yw ltl) (Ze (Ww ltl ltd)) (λr hr=>lts r.a r.o (hR r hr).1) nd hz _ 0 _ rfl (Zi _) ⟨_,Za _ rfl,rfl,rfl⟩ ?_ (λr hr=>?_) ?_ λg2 tk2 k2 hd=>?_
 ·obtain ⟨o,q,z⟩:=hlg
  exact⟨o,Qj _ q,z⟩
 ·obtain ⟨q1,q2⟩:=hR r hr
  exact⟨Qj _ (kg _ _ (Qj _ q1)),q2⟩
 ·exact dg.push _
 ·exact⟨rfl,h g2 tk2 hd λb o e=>k2 b o (lts b o e).1 (lts b o e).2 (Qj _ (kg _ _ (Qj _ e)))⟩
end
end DictR
end
section
namespace L2
open PySem PySem.Spec PyProof.Rows
section
variable{X:Cx}
abbrev RowsAt(H:Hp):List Addr→List (Str×V)→Prop:=Paired λa p=>H a=some (.tup [.str p.1,p.2])
theorem rows_of(I:Inv X a0 σ H s):∀{as:Nk} {ps:List (Str×V)},RowsAt H as ps →
  ∃rows:List (DictR.Row Key),rows.map (·.a)=as∧(∀r∈rows,DictR.RowAt (zap X.prog X.w) s.heap r)∧rows.map (·.k)=ps.map (λp=>Sum.inr p.1)∧KV (ps.map λp=>((Sum.inr p.1:Key),p.2)) (rows.map λr=>(r.k,r.val))
 |_,_,.nil=>⟨[],rfl,λr hr=>(by cases hr),rfl,.nil⟩
 | a::as,p::ps,.cons h t=>by
  obtain⟨rows,e1,e2,e3,e4⟩:=rows_of I t
  obtain⟨_,a7,r,o,q,c,n,d⟩:=I.hok a _ h
  obtain⟨u,w',rfl,⟨tk,rfl⟩,rz⟩:=vals2 r
  refine⟨⟨a,o,Sum.inr p.1,.str p.1 tk,w',n⟩::rows,by rw[Qm,e1],λx hx=>?_,by rw[Qm,Qm,e3],.cons ⟨rfl,rz⟩ e4⟩
  rcases Qd.mp hx with z | z
  ·subst z
   exact⟨q,c,d,zgd _ _ _ _⟩
  ·exact e2 x z
def zgx(hc:X.calm=true):zb4 X (.type "dict") (fun xs H Q=>Ex3 fun (p:Nc) (as:Nk) (ps:List (Str×V))=>Aj5 (xs=[.ref p]) (H p=some (.lst (as.map V.ref))) (RowsAt H as ps) ((ps.map (·.1)).Nodup) (∀ l,H l=none→Q (.ref l) (upd H l (.dK (ps.map fun p=>((Sum.inr p.1:Key),p.2)))))):=by
 intro a0 s σ H xs us Q I r h
 obtain⟨p,as,ps,rfl,hp,hr,nd,q⟩:=h
 obtain⟨u,rfl,rx⟩:=vals1 r
 cases rx
 obtain⟨hz,a7,n,rv,hl,e⟩:=I.lstM hp
 obtain⟨rows,e1,e2,e3,e4⟩:=rows_of I hr
 have eits:a7=rows.map λr=>Value.ref r.a:=by
  have cO:=e1
  clear hz hl e hp e4 e3 e2 hr e1 q
  induction rows generalizing as a7 with
  |nil=>subst cO;cases rv;rfl
  | cons r rs ih =>
   cases as with
   |nil=>cases cO
   | cons a as =>
    rw[Qm]at cO rv
    injection cO with h1 h2
    cases rv with
    |cons r1 r2 =>
     cases r1
     rw[Qm,h1,ih _ _ r2 h2]
 subst eits
 have a9:rows.length≤sizeLine:=by rw[Qa]at hz hl;rw[Qa]at hl;exact zdz ‹_› ‹_›
 have ndk:(rows.map (·.k)).Nodup:=by
  rw[e3,show(λp:Str×V=>(Sum.inr p.1:Key))=(Sum.inr:Str→Key)∘(λp:Str×V=>p.1) from rfl,←Zq]
  exact Kw _ (λa b z q=>z (Wr q)) nd
 refine DictR.call (knd:=zap X.prog X.w) (rows:=rows) (xk:=n) (I.ok.hd hc) e e2 ndk a9 λg tk hd k=>?_
 have nS:(s.heap.objs.size==sysModules)=false:=beq_eq_false_iff_ne.mpr (Yw I.big)
 refine⟨.ref _,_,I.laid (t':=tk) k (Qf _) (show zbp X.prog X.w _ g _ (.dK _) from⟨?_,nS,_,e4,hd⟩),rfl,q _ (I.hok.fresh (Qf _))⟩
 have:=Yb e4
 rw[Qa,Qa]at this
 rw[Qa];omega
end
def zij{prog:Nj}{w:Nl}{A:Nn}{s:Nh}{kx vx target iter:Expr}{ifs:Nq}{scope:Scope}{pos:Pos}{it:Value}{D:Nc}{env:Env}{R:Nw}(I:Nat→Shared→Prop)(turn:∀ n s,I n s→wpAny (model prog w) A (pyNext it) (fun r s₁=>match r with
   |none=>R (.ok .next) s₁
   | some v=>wpAny (model prog w) A (letOwnedTupleGo target it v) (fun _ s₁'=>wpAny (model prog w) A (assign target env v) (fun _ s₂ =>
     wpAny (model prog w) A (forIn ifs true λc r=>if r=true then do let ok ←isTrue c env (eval c env);pure (ForInStep.yield ok) else pure (ForInStep.yield r)) (λok s₃ =>
      if ok=true then wpAny (model prog w) A (eval kx env) (λkv s₄=>wpAny (model prog w) A (eval vx env) (λvv s₅ =>
       wpAny (model prog w) A (dictSet D kv vv) (λ_ s₆=>∃m,m<n∧I m s₆) (λ_ _=>False) s₅) (λ_ _=>False) s₄) (λ_ _=>False) s₃
      else ∃m,m<n∧I m s₃) (λ_ _=>False) s₂) (λ_ _=>False) s₁') (λ_ _=>False) s₁) (λ_ _=>False) s)(n:Nat)(h:I n s):codeAny (model prog w) A (.compLoop (.DictComp kx vx [⟨target,iter,ifs,0⟩] scope pos) 0 it (.ref D) env) R s:=by
 refine codeAny_loop rfl I (λn s hI=>?_) n h
 show wpAny _ A ((compTurn (.DictComp kx vx [⟨target,iter,ifs,0⟩] scope pos) 0 it (.ref D) env).onRaise (λx=>do noteFrame x env;theTreesLotGoes x)) _ _ s
 refine wpAny_noted ?_
 rw[compTurn_dict]
 refine wpAny_bind (wpAny_standAt (wpAny_bind (wpAny_mono (turn n s hI) (λr s₁ h₁=>?_) λ_ _ h'=>h'.elim)))
 cases r with
 |none=>exact wpAny_pure h₁
 | some v =>
  refine wpAny_bind (wpAny_mono h₁ (λ_ s₁' h₁'=>?_) λ_ _ h'=>h'.elim)
  refine wpAny_bind (wpAny_mono h₁' (λ_ s₂ h₂=>wpAny_bind (wpAny_mono h₂ (λok s₃ h₃=>?_) λ_ _ h'=>h'.elim)) λ_ _ h'=>h'.elim)
  cases ok with
  |false=>exact wpAny_pure ⟨rfl,h₃⟩
  |true =>
   exact wpAny_bind (wpAny_bind (wpAny_mono h₃ (λkv s₄ h₄=>wpAny_bind (wpAny_holding (wpAny_mono h₄ (λvv s₅ h₅=>wpAny_bind (wpAny_standAt (wpAny_holding (wpAny_mono h₅ (λ_ s₆ h₆=>wpAny_pure ⟨rfl,h₆⟩) λ_ _ h'=>h'.elim)))) λ_ _ h'=>h'.elim))) λ_ _ h'=>h'.elim))
section
variable{X:Cx}{sc:Scope}{M:Nd}{ix:Nt}{a0:Nf}{σ:St}{H:Hp}{s:Nh}
def rDC(g:TG)(tc:TT)(tk tv:TE)(Q:VK)(J:It)(τ:St)(H1:Hp):Prop:=∃W:Nat→Nat→List (Key×V)→St→Hp→Prop,(∃m,W 0 m [] τ H1)∧∀i m ys τ H,W i m ys τ H →
 (J.stop i H∧∀D,H D=none→Q (.ref D) (upd H D (.dK ys))) ∨
 (J.go i H∧ys.length<sizeLine∧∀x H',J.yld i H x H'→g x τ H' λ τ2 H2=>tc τ2 H2 λb H3=>if b=true then tk τ2 H3 λkv H4=>tv τ2 H4 λy H5=>∃k,kv=kV k∧∃m',m'<m∧W (i+1) m' (putK ys k y) τ2 H5 else ∃m',m'<m∧W (i+1) m' ys τ2 H3)
def tDC(ix:Nt)(wi:TI)(g:TG)(tc:TT)(tk tv:TE):TE:=λ σ H Q=>wi σ H λJ H1=>rDC g tc tk tv Q J (inner ix σ) H1
def dc_block{tg kx vx iter:Expr}{ifs:Nq}{pos:Pos}{g:TG}{tc:TT}{tk tv:TE}{fp:Nk}{it:Nc}{tn:Nat→Heap→Prop}{J:It}{Q:VK}{RR:Value→Addr→Result→Shared→Prop}{E:Nb}(B:Blk X sc M ix)(hc:X.calm=true)(hg:∀C ex s H,PG (zbx X sc M C a0 ex s H) tg g)(ht:∀C ex s H,PTs (zbx X sc M C a0 ex s H) ifs tc)(hk:∀C ex s H,PE (zbx X sc M C a0 ex s H) kx tk)(he:∀C ex s H,PE (zbx X sc M C a0 ex s H) vx tv)(I:Inv X a0 σ H s)(T:Turn X.prog X.w X.K tg J fp it tn)(h0:tn 0 s.heap)(hf:∀b∈fp,FpOk X a0 H b)(q:rDC g tc tk tv Q J (inner ix σ) H)(lN:∀D C m ys H' s',Inv X a0 σ (upd H' D (.dK ys)) s'→Q (.ref D) (upd H' D (.dK ys))→s'.heap.Ns C m→upd H' D (.dK ys) C=none→s.heap.objs.size<C→RR (.ref D) C (.ok .next) s') :
  wpAny (model X.prog X.w) X.A newDict (λad s₃=>wpAny (model X.prog X.w) X.A (newFunctionEnv sc X.env.globals (clOf sc X.env) [] X.env.qual none .none (some X.env)) (λcenv s₄ =>
   codeAny (model X.prog X.w) X.A (.compStart (.DictComp kx vx [⟨tg,iter,ifs,0⟩] sc pos) 0 (.ref it) ad {cenv with scope:=relabel sc X.env}) (RR ad cenv.locals) s₄) E s₃) E s:=by
 refine wpAny_newObj_type (wpAny_newFunctionEnv B.nocell (by intro y hy;simp at hy) (λh₁ hns₁ hsb₁=>?_) B.kind)
 dsimp only at hns₁ hsb₁ ⊢
 generalize hD:s.heap.objs.size=D at hns₁ hsb₁ ⊢
 generalize aU:s.heap.push {cls:=.type "dict",dict:=none,data:=.dict #[]}=g2 at hns₁ hsb₁ ⊢
 have hC:g2.objs.size=D+1:=by rw[←aU,Wv,hD]
 have k2:∀b o,s.heap.get? b=some o→g2.get? b=some o:=λb o e=>by rw[←aU];exact Qj _ e
 have I3:Inv X a0 σ H {s with heap:=g2}:=I.kept (t':=s.toks) k2
 have HD:H D=none:=I.hok.fresh (by rw[hD];exact Qf _)
 have fD:FpOk X a0 H D:=I.fpOk (by rw[hD];exact Qf _) HD
 have D2:g2.get? D=some {cls:=.type "dict",dict:=none,data:=.dict #[]}:=by rw[←aU,←hD];exact Za _ rfl
 have nS:(D==sysModules)=false:=beq_eq_false_iff_ne.mpr (by rw[←hD];exact Yw I.big)
 have k1:∀b o,g2.get? b=some o→h₁.get? b=some o:=λb o e=>by
  have hb:b≠g2.objs.size:=Ze (Qu e)
  exact(hsb₁.2 b hb).trans (Qj _ e)
 have DN:h₁.DictOf (zap X.prog X.w) D []:=by
  have q:g2.DictOf (zap X.prog X.w) D []:=by rw[←aU,←hD];exact Heap.DictOf.new s.heap
  obtain⟨o,es,ep,e,r⟩:=q
  exact⟨o,es,ep,k1 _ _ e,r⟩
 have fpx:∀b∈D::fp,FpOk X a0 H b:=λb hb=>by
  rcases Qd.mp hb with e | e
  ·rw[e];exact fD
  ·exact hf b e
 have fplt:∀b∈D::fp,b<g2.objs.size:=λb hb=>by
  rcases Qd.mp hb with e | e
  ·rw[e,hC];exact Wi _
  ·obtain ⟨o,q,_⟩:=T.obj _ _ h0 b e
   exact Qu (k2 b o q)
 have fpD:D∉fp:=λhm=>by
  obtain⟨o,q,_⟩:=T.obj _ _ h0 D hm
  have:=Qu q
  rw[hD]at this
  exact Yy _ this
 generalize aj:zbx X sc M g2.objs.size a0 (D::fp) {s with heap:=g2} H=Y
 have IY:Inv Y [] (inner ix σ) H {s with heap:=h₁,toks:=s.toks+([]:List (Str×Value)).length}:=by
  rw[←aj]
  exact inv_blk B I3 fpx fplt rfl hns₁ k1 rfl rfl
 have Yg:=aj▸hg g2.objs.size (D::fp) {s with heap:=g2} H
 have Yt:=aj▸ht g2.objs.size (D::fp) {s with heap:=g2} H
 have Yk:=aj▸hk g2.objs.size (D::fp) {s with heap:=g2} H
 have Ye:=aj▸he g2.objs.size (D::fp) {s with heap:=g2} H
 have eP:Y.prog=X.prog:=by rw[←aj];rfl
 have eW:Y.w=X.w:=by rw[←aj];rfl
 have eK:Y.K=X.K:=by rw[←aj];rfl
 have eA:Y.A=X.A:=by rw[←aj];rfl
 have eC:Y.calm=true:=by rw[←aj];exact hc
 have eE:Y.env=compEnvC sc (clOf sc X.env) g2.objs.size X.env:=by rw[←aj];rfl
 have eX:Y.xe=λ_ _=>False:=by rw[←aj];rfl
 have eEx:Y.ex=D::fp:=by rw[←aj];rfl
 have eFs:Y.fs=frs X.stack:=by rw[←aj];rfl
 have ePn:Y.pn=X.pn++a0:=by rw[←aj];rfl
 have eL:Y.env.locals=g2.objs.size:=by rw[eE];rfl
 have qp:Y.H₀=H:=by rw[←aj];rfl
 have kh:Y.s₀={s with heap:=g2}:=by rw[←aj];rfl
 have fY:∀{H':Hp} {pl:Nf} {b:Nc},b∈D::fp→H' b=none→(∀p∈pl,p.1≠b)→FpOk Y pl H' b:=λ{H' pl b} hb hn hp=>by
  obtain⟨f0,f1,f2,f3,f4,f5⟩:=fpx b hb
  refine⟨hn,?_,?_,.inl (by rw[eEx];exact hb),IY.ok.exf b (by rw[eEx];exact hb) |>.2,λp aW=>?_⟩
  ·rw[eL];exact Ze (fplt b hb)
  ·rw [eFs]
   intro z
   rcases Qd.mp (I3.stkSub b z) with q | q
   ·exact f1 q
   ·exact f2 q
  ·rw [ePn] at aW
   rcases Qe.mp aW with z | z
   ·exact f5 p z
   ·exact hp p z
 obtain⟨W,⟨m0,w0⟩,turn⟩:=q
 have loop:∀ sN:Shared,sN={ s with heap:=h₁,toks:=s.toks+([]:List (Str×Value)).length } →
   codeAny (model X.prog X.w) X.A (.compLoop (.DictComp kx vx [⟨tg,iter,ifs,0⟩] sc pos) 0 (.ref it) (.ref D) (compEnvC sc (clOf sc X.env) g2.objs.size X.env)) (RR (.ref D) g2.objs.size) sN:=by
  rintro sN rfl
  refine zij (λn s'=>Ex5 λi τ H' ys vs=>Aj7 (Inv Y [] τ H' s') (tn i s'.heap) (∀b∈D::fp,H' b=none) (s'.heap.DictOf (zap X.prog X.w) D vs) (KV ys vs) (ys.length≤sizeLine) (W i n ys τ H')) ?_ m0
   ⟨0,inner ix σ,H,[],[],IY,T.keep _ _ _ h0 λb _ o e=>k1 b o (k2 b o e),λb hb=>(fpx b hb).1,DN,.nil,Zi _,w0⟩
  rintro n s5 ⟨i,τ,H5,ys,vs,I5,t5,n5,dd5,v5,z5,w5⟩
  obtain⟨o5,qm,vB,d5,rJ⟩:=id dd5
  have nc5:∀v,o5.data≠.cell v:=λv z=>by
   obtain⟨_,q,_⟩:=rJ
   rw[q]at z;cases z
  have oD:∀b∈[D],∃o,s5.heap.get? b=some o∧∀v,o.data≠.cell v:=λb hb=>by
   rw[Qb.mp hb]
   exact⟨_,d5,nc5⟩
  have fI:Inv Y ([]++za7 [D] s5.heap) τ H5 s5:=I5.pinned (λb hb=>fY (by rw[Qb.mp hb];exact Qc) (n5 b (by rw[Qb.mp hb];exact Qc)) (by simp)) oD
  have pD:∀p∈za7 [D] s5.heap,p.1=D∧p.2=o5:=λp hp=>by
   obtain⟨e1,e2⟩:=zcu hp
   have cO:p.1=D:=Qb.mp e1
   rw[cO,d5]at e2
   exact⟨cO,(Qp e2).symm⟩
  have fN:∀{H':Hp},(∀b∈fp,H' b=none)→∀b∈fp,FpOk Y ([]++za7 [D] s5.heap) H' b:=λhn b hb=>fY (Qh _ hb) (hn b hb) λp hp z=>by
   rw[Wt]at hp
   rw[(pD p hp).1]at z
   exact fpD (z▸hb)
  rcases turn i n ys τ H5 w5 with⟨stop,qn⟩ | ⟨go,zl,step⟩
  ·have h6:=T.done Y eP eW eK eC i _ s5 τ H5 (fun _ _=>False) fI (fN fun b hb=>n5 b (Qh _ hb)) t5 stop
   rw[eA]at h6
   refine thn h6 λr s6 ⟨hr,I6⟩=>?_
   subst hr
   have d6:s6.heap.get? D=some o5:=by
    have hp:=za1 (fp:=[D]) (Qb.mpr rfl) d5
    exact(I6.pin (D,_) (Qi _ hp)).1
   have H5D:H5 D=none:=n5 D Qc
   obtain⟨mL,nL,_⟩:=I6.loc
   rw[eL]at nL
   have CD:g2.objs.size≠D:=by rw[hC];exact Xd _
   refine lN D _ mL ys H5 s6 ?_ (qn D H5D) nL ?_ (by rw[hC,hD];exact Wi _)
   ·have u6:=I6.base
    rw[eFs,eEx,qp,kh]at u6
    refine I3.call' (ch:=D::fp) (I6.os.trans (by rw[kh])) ⟨u6.keep,u6.slot,λb o e n hx=>?_,u6.there,λb xs e=>?_,λb o u e=>?_,λb ps e=>?_⟩ ?_ I6.bare λb hb=>?_
    ·rw[zad (λz=>hx (by rw[z];exact Qc))];exact u6.free b o e n hx
    ·rw[zad (zaa e HD)];exact u6.tups b xs e
    ·rw[zad (zaa e HD)];exact u6.frzs b o u e
    ·rw[zad (zaa e HD)];exact u6.tbls b ps e
    ·have jA:=I6.hok
     rw[eP,eW]at jA
     intro b u e
     by_cases hb:b=D
     ·subst hb
      rw[zab]at e
      cases e
      exact⟨z5,nS,vs,v5,o5,qm,vB,d6,rJ⟩
     ·rw [zad hb] at e
      exact(jA b u e).stay (λc v _ q=>q) (λc q=>by rw[zad (zaa q H5D)];exact q) λc xs q=>by rw[zad (zaa q H5D)];exact q
    ·obtain ⟨f0,f1,f2,f3,f4,f5⟩:=fpx b hb
     exact⟨f3,f1,f4,f5⟩
   ·rw [zad CD]
    have:=I6.free
    rw[eL]at this
    exact this
  ·have h6:=T.item Y eP eW eK eC i _ s5 τ H5 (fun _ _=>False) fI (fN fun b hb=>n5 b (Qh _ hb)) t5 go
   rw[eA]at h6
   refine thn h6 λr s6 ⟨u,hr,h7⟩=>?_
   subst hr
   refine thn h7 λ_ s7 ⟨x,H7,I7,r7,y7,t7,n7⟩=>?_
   have lT:=I7.pinned (fN n7) (T.obj _ _ t7)
   have h8:=Yg _ s7 τ H7 x u _ lT r7 (step x H7 y7)
   rw[eP,eW,eA,eX,eE]at h8
   refine thn h8 λ_ s8 ⟨τ8,H8,I8,q8⟩=>?_
   have h9:=Yt _ s8 τ8 H8 _ I8 q8
   rw[eP,eW,eA,eX,eE]at h9
   refine thn h9 λok s9 ⟨H9,I9,q9⟩=>?_
   have again:∀{τ':St} {H':Hp} {s':Nh},Inv Y (([]++za7 [D] s5.heap)++za7 fp s7.heap) τ' H' s'→s'.heap.get? D=some o5∧H' D=none∧tn (i+1) s'.heap∧∀b∈fp,H' b=none:=λ{τ' H' s'} I'=>by
    have pp:∀{b:Nc} {o:Obj},b∈fp→s7.heap.get? b=some o→s'.heap.get? b=some o∧H' b=none:=λ{b o} hb e =>
     let z:=I'.pin (b,o) (Qi _ (Qi _ (za1 hb e)))
     ⟨z.1,z.2.1⟩
    have hp:=za1 (fp:=[D]) (Qb.mpr rfl) d5
    have z:=I'.pin (D,_) (Qi _ (Ql _ hp))
    refine⟨z.1,z.2.1,T.keep _ _ _ t7 λb hb o e=>(pp hb e).1,λb hb=>?_⟩
    obtain⟨o,e,_⟩:=T.obj _ _ t7 b hb
    exact(pp hb e).2
   have drop:∀{pl:Nf} {τ':St} {H':Hp} {s':Nh},Inv Y pl τ' H' s'→Inv Y [] τ' H' s':=λI'=>I'.pins_of (by simp)
   cases ok with
   |false =>
    rw[if_neg (by decide)]at q9 ⊢
    obtain⟨m',hm,w9⟩:=q9
    obtain⟨d9,H9D,t9,n9⟩:=again I9
    exact⟨m',hm,i+1,τ8,H9,ys,vs,drop I9,t9,λb hb=>(Qd.mp hb).elim (λe=>e▸H9D) (n9 b),⟨o5,qm,vB,d9,rJ⟩,v5,z5,w9⟩
   | true =>
    rw[if_pos rfl]at q9 ⊢
    have iR:=Yk _ s9 τ8 H9 _ I9 q9
    rw[eP,eW,eA,eX,eE]at iR
    refine thn iR λkv dv ⟨kw,cK,ij,lU,rP⟩=>?_
    have rC:=Ye _ dv τ8 cK _ ij rP
    rw[eP,eW,eA,eX,eE]at rC
    refine thn rC λy rO ⟨yv,cP,ni,r11,kk,ek,m',hm,w11⟩=>?_
    subst ek
    obtain⟨d11,H11D,t11,n11⟩:=again ni
    have vH:rO.heap.DictOf (zap X.prog X.w) D vs:=⟨o5,qm,vB,d11,rJ⟩
    have gU:(zap X.prog X.w).is kk kv=true:=by
     cases kk with
     |inl i=>obtain⟨t,rfl⟩:=lU;exact keyIs_int i t
     |inr x=>obtain⟨t,rfl⟩:=lU;exact keyIs_str x t
    refine wpAny_dictSet_pairs (knd:=zap X.prog X.w) gU vH (λh' iI sb=>?_) (by rw[←Yb v5];assumption)
    have kkp:∀b o,b≠D→rO.heap.get? b=some o→h'.get? b=some o:=λb o hb e=>(sb.2 b hb).trans e
    obtain⟨g0,g1,g2',g3,g4,g5⟩:=fY (pl:=[]) (H':=cP) (b:=D) Qc H11D (by simp)
    have I12:=(drop ni).turned (h':=h') (t':=rO.toks+1) (it:=D) kkp H11D g1 g3 g4 g5
    refine⟨m',hm,i+1,τ8,cP,putK ys kk yv,stored vs kk y,I12,T.keep _ _ _ t11 λb hb o e=>kkp b o (λz=>fpD (z▸hb)) e,λb hb=>(Qd.mp hb).elim (λe=>e▸H11D) (n11 b),iI,v5.put kk r11,?_,w11⟩
    unfold putK
    split
    ·rw[Qa];exact z5
    ·rw[Qo,Wd];assumption
 exact codeAny_compStart_dict (loop _ rfl) (T.self _ 0 _ _ _ (T.keep _ _ _ h0 λb _ o e=>k1 b o (k2 b o e)) (loop _ rfl))
def ps_dc(hN:X.N.Nodup)(dM:X.N[i]?=some y)(hy:X.env.scope.names.lookup y=some .local)(B:Blk X sc M ix)(hc:X.calm=true)(hi:PI X tg iter wi)(hg:∀C a0 ex s H,PG (zbx X sc M C a0 ex s H) tg g)(ht:∀C a0 ex s H,PTs (zbx X sc M C a0 ex s H) ifs tc)(hk:∀C a0 ex s H,PE (zbx X sc M C a0 ex s H) kx tk)(he:∀C a0 ex s H,PE (zbx X sc M C a0 ex s H) vx tv)(sU:swapsWith (.DictComp kx vx [⟨tg,iter,ifs,0⟩] sc pos) (some (.Name y py)) spos.line X.env=pure true)(hs:∀x,foldedSetIterable iter X.env x=pure x:=by intro _;rfl):PS X (.Assign [.Name y py] (.DictComp kx vx [⟨tg,iter,ifs,0⟩] sc pos) spos) (tAsg (tDC ix wi g tc tk tv) (gName i)):=by
 intro a0 s σ H D' I h
 rw[exec_Assign_Name_used _ _ _ _ sU]
 refine wpAny_bind (wpAny_standAt (wpAny_bind ?_))
 show wpAny _ X.A (do let _ ←comprehension (.DictComp kx vx [⟨tg,iter,ifs,0⟩] sc pos) sc X.env _ newDict false (eval iter X.env) (some (assign (.Name y py) X.env))) _ _ s
 refine wpAny_bind (wpAny_mono (wpAny_comprehension_free (use:=some (assign (.Name y py) X.env)) (Q:=λ_ s'=>SP X a0 D' .next s') rfl hs (zb2 (B.clos I)) B.kind B.names
  (thn (hi a0 s σ H _ I h) λv s1 h1=>thn h1 λitv s2 h2=>?_)) (λ_ s' hq=>wpAny_pure (wpAny_pure hq)) λ_ _ e=>e)
 obtain⟨it,fp,tn,J,H2,e,I2,T,bJ,f2,q⟩:=h2
 subst e
 refine dc_block (RR:=λad C=>compPost (model X.prog X.w) X.A X.xe (some (assign (.Name y py) X.env)) (λ_ s'=>SP X a0 D' .next s') ad C) B hc (hg · a0) (ht · a0) (hk · a0) (he · a0) I2 T bJ f2 q ?_
 intro D C m ys H' s' I' q' hn hC aa
 show wpAny _ X.A (assign (.Name y py) X.env (.ref D)) _ _ s'
 refine wpAny_assign_Name (zft I' hN dM (.inl hy) (v:=.ref D) rfl (λnC wg ⟨a,sb,ha⟩=>?_) (.inr hy))
 have aC:C≠a:=by
  rcases ha with z | z
  ·rw[z];exact Yw (Ww I2.lt aa)
  ·exact Yw (Ww (I2.cl_lt _ _ z) aa)
 have bQ:=hn.sameBut sb aC
 exact⟨m,bQ,λh' bj=>⟨_,_,wg.letgo bQ hC I2.lt I2.cl_lt I2.pin_lt I2.sz aa bj,q'⟩⟩
end
def compTurn_in(elt tg1 it1 target iter:Expr)(ifs:Nq)(scope:Scope)(pos:Pos)(it ad:Value)(env:Env) :
  compTurn (.ListComp elt [⟨tg1,it1,[],0⟩,⟨target,iter,ifs,0⟩] scope pos) 1 it ad env=(do
   standAt iter.pos
   match ←pyNext it with
   |none=>pure (.done .next)
   | some v =>
    letOwnedTupleGo target it v
    assign target env v
    let mut ok:=true
    for c in ifs do
     if ok then ok ←isTrue c env (eval c env)
    if ok then
     (do let _ ←call (.builtin "list.append") [ad,←eval elt env])
    again (.compLoop (.ListComp elt [⟨tg1,it1,[],0⟩,⟨target,iter,ifs,0⟩] scope pos) 1 it ad env)):=by rfl
def compTurn_out(elt target iter dR ci:Expr)(ifs:Nq)(scope:Scope)(pos:Pos)(it ad:Value)(env:Env) :
  compTurn (.ListComp elt [⟨target,iter,[],0⟩,⟨dR,ci,ifs,0⟩] scope pos) 0 it ad env=(do
   standAt iter.pos
   match ←pyNext it with
   |none=>pure (.done .next)
   |some v =>
    letOwnedTupleGo target it v
    assign target env v
    let x ←eval ci env
    standAt ci.pos
    let x ←foldedSetIterable ci env x
    let _ ←runOwn (.compStart (.ListComp elt [⟨target,iter,[],0⟩,⟨dR,ci,ifs,0⟩] scope pos) 1 (←holding [x] (pyIter x)) ad env) env
    again (.compLoop (.ListComp elt [⟨target,iter,[],0⟩,⟨dR,ci,ifs,0⟩] scope pos) 0 it ad env)):=by rfl
section
variable{prog:Nj}{w:Nl}{A:Nn}{s:Nh}{elt tg1 it1 target iter:Expr}{ifs:Nq}{scope:Scope}{pos:Pos}{it ad:Value}{env:Env}{R:Nw}
def start_in(h0:codeAny (model prog w) A (.compLoop (.ListComp elt [⟨tg1,it1,[],0⟩,⟨target,iter,ifs,0⟩] scope pos) 1 it ad env) R s)(h:wpAny (model prog w) A (pyIter it) (λsu s'=>codeAny (model prog w) A (.compLoop (.ListComp elt [⟨tg1,it1,[],0⟩,⟨target,iter,ifs,0⟩] scope pos) 1 su ad env) R s') (λ_ _=>False) s) :
  codeAny (model prog w) A (.compStart (.ListComp elt [⟨tg1,it1,[],0⟩,⟨target,iter,ifs,0⟩] scope pos) 1 it ad env) R s:=by
 refine codeAny_of_tree (show wpAny _ _ ((compStart (.ListComp elt [⟨tg1,it1,[],0⟩,⟨target,iter,ifs,0⟩] scope pos) 1 it ad env).onRaise (λx=>do noteFrame x env;standAt theWindowsPlace)) _ _ s from wpAny_notedAt ?_)
 unfold compStart
 show wpAny _ _ (ask >>= _) _ _ s
 refine wpAny_bind (wpAny_askSetting (wpAny_ite ?_))
 split
 ·first
   |exact wpAny_pure (And.intro rfl h0)
   |exact wpAny_bind (wpAny_pure (wpAny_pure (And.intro rfl h0)))
 ·refine wpAny_bind (wpAny_rule ?_)
  first
   |exact wpAny_bind (wpAny_standAt (wpAny_bind (wpAny_mono h (λsu s' h'=>wpAny_pure (And.intro rfl h')) λ_ _ x=>x.elim)))
   |(show wpAny _ _ (standAt iter.pos >>= _) _ _ s;exact wpAny_bind (wpAny_standAt (wpAny_bind (wpAny_mono h (λsu s' h'=>wpAny_pure (And.intro rfl h')) λ_ _ x=>x.elim))))
def loop_in(I:Nat→Shared→Prop)(turn:∀ n s,I n s→wpAny (model prog w) A (pyNext it) (fun r s₁=>match r with
   |none=>R (.ok .next) s₁
   | some v=>wpAny (model prog w) A (letOwnedTupleGo target it v) (fun _ s₁'=>wpAny (model prog w) A (assign target env v) (fun _ s₂ =>
     wpAny (model prog w) A (forIn ifs true λc r=>if r=true then do let ok ←isTrue c env (eval c env);pure (ForInStep.yield ok) else pure (ForInStep.yield r)) (λok s₃ =>
      if ok=true then wpAny (model prog w) A (eval elt env) (λx s₄=>wpAny (model prog w) A (call (.builtin "list.append") [ad,x]) (λ_ s₅=>∃m,m<n∧I m s₅) (λ_ _=>False) s₄) (λ_ _=>False) s₃
      else ∃m,m<n∧I m s₃) (λ_ _=>False) s₂) (λ_ _=>False) s₁') (λ_ _=>False) s₁) (λ_ _=>False) s)(n:Nat)(h:I n s):codeAny (model prog w) A (.compLoop (.ListComp elt [⟨tg1,it1,[],0⟩,⟨target,iter,ifs,0⟩] scope pos) 1 it ad env) R s:=by
 refine codeAny_loop rfl I (λn s hI=>?_) n h
 show wpAny _ A ((compTurn (.ListComp elt [⟨tg1,it1,[],0⟩,⟨target,iter,ifs,0⟩] scope pos) 1 it ad env).onRaise (λx=>do noteFrame x env;theTreesLotGoes x)) _ _ s
 refine wpAny_noted ?_
 rw[compTurn_in]
 refine wpAny_bind (wpAny_standAt (wpAny_bind (wpAny_mono (turn n s hI) (λr s₁ h₁=>?_) λ_ _ h'=>h'.elim)))
 cases r with
 |none=>exact wpAny_pure h₁
 | some v =>
  refine wpAny_bind (wpAny_mono h₁ (λ_ s₁' h₁'=>?_) λ_ _ h'=>h'.elim)
  refine wpAny_bind (wpAny_mono h₁' (λ_ s₂ h₂=>wpAny_bind (wpAny_mono h₂ (λok s₃ h₃=>?_) λ_ _ h'=>h'.elim)) λ_ _ h'=>h'.elim)
  cases ok with
  |false=>exact wpAny_pure ⟨rfl,h₃⟩
  |true =>
   exact wpAny_bind (wpAny_bind (wpAny_mono h₃ (λx s₄ h₄=>wpAny_bind (wpAny_mono h₄ (λ_ s₅ h₅=>wpAny_pure (wpAny_pure ⟨rfl,h₅⟩)) λ_ _ h'=>h'.elim)) λ_ _ h'=>h'.elim))
def loop_out(hs:∀x,foldedSetIterable ci env x=pure x)(I:Nat→Shared→Prop)(turn:∀ n s,I n s→wpAny (model prog w) A (pyNext it) (fun r s₁=>match r with
   |none=>R (.ok .next) s₁
   | some v=>wpAny (model prog w) A (letOwnedTupleGo target it v) (fun _ s₁'=>wpAny (model prog w) A (assign target env v) (fun _ s₂ =>
     wpAny (model prog w) A (eval ci env) (λx s₃=>wpAny (model prog w) A (pyIter x) (λj s₄=>codeAny (model prog w) A (.compStart (.ListComp elt [⟨target,iter,[],0⟩,⟨dR,ci,ifs,0⟩] scope pos) 1 j ad env) (λr s₅=>(∃f,r=.ok f)∧∃m,m<n∧I m s₅) s₄) (λ_ _=>False) s₃)
      (λ_ _=>False) s₂) (λ_ _=>False) s₁') (λ_ _=>False) s₁) (λ_ _=>False) s)(n:Nat)(h:I n s):codeAny (model prog w) A (.compLoop (.ListComp elt [⟨target,iter,[],0⟩,⟨dR,ci,ifs,0⟩] scope pos) 0 it ad env) R s:=by
 refine codeAny_loop rfl I (λn s hI=>?_) n h
 show wpAny _ A ((compTurn (.ListComp elt [⟨target,iter,[],0⟩,⟨dR,ci,ifs,0⟩] scope pos) 0 it ad env).onRaise (λx=>do noteFrame x env;theTreesLotGoes x)) _ _ s
 refine wpAny_noted ?_
 rw[compTurn_out]
 refine wpAny_bind (wpAny_standAt (wpAny_bind (wpAny_mono (turn n s hI) (λr s₁ h₁=>?_) λ_ _ h'=>h'.elim)))
 cases r with
 |none=>exact wpAny_pure h₁
 | some v =>
  refine wpAny_bind (wpAny_mono h₁ (λ_ s₁' h₁'=>?_) λ_ _ h'=>h'.elim)
  refine wpAny_bind (wpAny_mono h₁' (λ_ s₂ h₂=>?_) λ_ _ h'=>h'.elim)
  refine wpAny_bind (wpAny_mono h₂ (λx s₃ h₃=>wpAny_bind (wpAny_standAt (wpAny_bind (wpAny_of_eq (hs x) (wpAny_bind (wpAny_holding (wpAny_mono h₃ (λj s₄ h₄=>wpAny_bind (wpAny_runOwn ?_)) λ_ _ h'=>h'.elim)))))))
   λ_ _ h'=>h'.elim)
  refine codeAny_mono (show codeAny (model prog w) (A.mark none) _ _ s₄ from h₄) λr s₅ h₅=>?_
  obtain⟨⟨f,rfl⟩,h₆⟩:=h₅
  exact wpAny_pure ⟨rfl,h₆⟩
end
def rIn2(g:TG)(tc:TT)(te:TE)(Fin:List V→St→Hp→Prop)(J:It)(ys:List V)(τ:St)(H1:Hp):Prop:=∃W:Nat→Nat→List V→St→Hp→Prop,(∃m,W 0 m ys τ H1)∧∀i m ys τ H,W i m ys τ H →
 (J.stop i H∧Fin ys τ H) ∨
 (J.go i H∧ys.length<sizeLine∧∀x H',J.yld i H x H'→g x τ H' λ τ2 H2=>tc τ2 H2 λb H3=>if b=true then te τ2 H3 λy H4=>∃m',m'<m∧W (i+1) m' (ys++[y]) τ2 H4 else ∃m',m'<m∧W (i+1) m' ys τ2 H3)
def in_loop{Y:Cx}{D:Nc}{P1:Nf}{elt tg1 it1 tg iter:Expr}{ifs:Nq}{sc:Scope}{pos:Pos}{g:TG}{tc:TT}{te:TE}{fp:Nk}{it:Nc}{tn:Nat→Heap→Prop}{J:It}{Fin:List V→St→Hp→Prop}{τ0:St}{H0:Hp}{s0:Nh}{qy:List V}{kF:Ni}{k0:Nat}(hc:Y.calm=true)(eX:Y.xe=λ_ _=>False)(Yg:PG Y tg g)(Yt:PTs Y ifs tc)(Ye:PE Y elt te)(T:Turn Y.prog Y.w Y.K tg J fp it tn)(fpD:D∉fp)(fD:∀{H':Hp},H' D=none→FpOk Y P1 H' D)(f2:∀{H':Hp} {b:Nc},b∈fp→H' b=none→FpOk Y P1 H' b)(I0:Inv Y P1 τ0 H0 s0)(t0:tn 0 s0.heap)(n0:∀b∈D::fp,H0 b=none)(d0:s0.heap.get? D=some {cls:=.type "list",data:=.seq kF.toArray k0})(v0:Vals qy kF)(z0:qy.length≤sizeLine)(q:rIn2 g tc te Fin J qy τ0 H0){R:Nw}(hR:∀ys a7 k τ H' s',Inv Y P1 τ H' s'→H' D=none→s'.heap.get? D=some {cls:=.type "list",data:=.seq (a7:Ni).toArray k}→Vals ys a7→ys.length≤sizeLine→Fin ys τ H'→R (.ok .next) s') :
  codeAny (model Y.prog Y.w) Y.A (.compStart (.ListComp elt [⟨tg1,it1,[],0⟩,⟨tg,iter,ifs,0⟩] sc pos) 1 (.ref it) (.ref D) Y.env) R s0:=by
 obtain⟨W,⟨m0,w0⟩,turn⟩:=q
 have loop:codeAny (model Y.prog Y.w) Y.A (.compLoop (.ListComp elt [⟨tg1,it1,[],0⟩,⟨tg,iter,ifs,0⟩] sc pos) 1 (.ref it) (.ref D) Y.env) R s0:=by
  refine loop_in (λn s'=>Ex6 λi τ H' ys a7 k=>Aj7 (Inv Y P1 τ H' s') (tn i s'.heap) (∀b∈D::fp,H' b=none) (s'.heap.get? D=some {cls:=.type "list",data:=.seq (a7:Ni).toArray k}) (Vals ys a7) (ys.length≤sizeLine) (W i n ys τ H')) ?_ m0 ⟨0,τ0,H0,qy,kF,k0,I0,t0,n0,d0,v0,z0,w0⟩
  rintro n s5 ⟨i,τ,H5,ys,a7,k,I5,t5,n5,d5,v5,z5,w5⟩
  have oD:∀b∈[D],∃o,s5.heap.get? b=some o∧∀v,o.data≠.cell v:=λb hb=>by
   rw[Qb.mp hb]
   exact⟨_,d5,λv z=>by cases z⟩
  have fI:Inv Y (P1++za7 [D] s5.heap) τ H5 s5:=I5.pinned (λb hb=>by rw[Qb.mp hb];exact fD (n5 D Qc)) oD
  have pD:∀p∈za7 [D] s5.heap,p.1=D:=λp hp=>Qb.mp (zcu hp).1
  have fN:∀{H':Hp},(∀b∈fp,H' b=none)→∀b∈fp,FpOk Y (P1++za7 [D] s5.heap) H' b:=λhn b hb=>by
   obtain⟨f0,f1,f3,f4,f5,f6⟩:=f2 hb (hn b hb)
   refine⟨f0,f1,f3,f4,f5,λp hp=>?_⟩
   rw[←Qt]at hp
   rcases Qe.mp hp with z | z
   ·exact f6 p z
   ·rw[pD p z];exact λe=>fpD (e▸hb)
  rcases turn i n ys τ H5 w5 with⟨stop,qn⟩ | ⟨go,zl,step⟩
  ·refine thn (T.done Y rfl rfl rfl hc i _ s5 τ H5 (fun _ _=>False) fI (fN fun b hb=>n5 b (Qh _ hb)) t5 stop) fun r s6 ⟨hr,I6⟩=>?_
   subst hr
   have hp:=za1 (fp:=[D]) (Qb.mpr rfl) d5
   have z:=I6.pin (D,_) (Qi _ (Qi _ hp))
   exact hR ys a7 k τ H5 s6 I6.unpinned (n5 D Qc) z.1 v5 z5 qn
  ·refine thn (T.item Y rfl rfl rfl hc i _ s5 τ H5 (fun _ _=>False) fI (fN fun b hb=>n5 b (Qh _ hb)) t5 go) fun r s6 ⟨u,hr,h7⟩=>?_
   subst hr
   refine thn h7 λ_ s7 ⟨x,H7,I7,r7,y7,t7,n7⟩=>?_
   have lT:=I7.pinned (fN n7) (T.obj _ _ t7)
   have h8:=Yg _ s7 τ H7 x u _ lT r7 (step x H7 y7)
   rw[eX]at h8
   refine thn h8 λ_ s8 ⟨τ8,H8,I8,q8⟩=>?_
   have h9:=Yt _ s8 τ8 H8 _ I8 q8
   rw[eX]at h9
   refine thn h9 λok s9 ⟨H9,I9,q9⟩=>?_
   have again:∀{τ':St} {H':Hp} {s':Nh},Inv Y ((P1++za7 [D] s5.heap)++za7 fp s7.heap) τ' H' s'→s'.heap.get? D=some {cls:=.type "list",data:=.seq a7.toArray k}∧H' D=none∧tn (i+1) s'.heap∧∀b∈fp,H' b=none:=λ{τ' H' s'} I'=>by
    have pp:∀{b:Nc} {o:Obj},b∈fp→s7.heap.get? b=some o→s'.heap.get? b=some o∧H' b=none:=λ{b o} hb e =>
     let z:=I'.pin (b,o) (Qi _ (Qi _ (za1 hb e)))
     ⟨z.1,z.2.1⟩
    have hp:=za1 (fp:=[D]) (Qb.mpr rfl) d5
    have z:=I'.pin (D,_) (Qi _ (Ql _ (Qi _ hp)))
    refine⟨z.1,z.2.1,T.keep _ _ _ t7 λb hb o e=>(pp hb e).1,λb hb=>?_⟩
    obtain⟨o,e,_⟩:=T.obj _ _ t7 b hb
    exact(pp hb e).2
   have drop:∀{τ':St} {H':Hp} {s':Nh},Inv Y ((P1++za7 [D] s5.heap)++za7 fp s7.heap) τ' H' s'→Inv Y P1 τ' H' s':=λI'=>I'.unpinned.unpinned
   cases ok with
   |false =>
    rw[if_neg (by decide)]at q9 ⊢
    obtain⟨m',hm,w9⟩:=q9
    obtain⟨d9,H9D,t9,n9⟩:=again I9
    exact⟨m',hm,i+1,τ8,H9,ys,a7,k,drop I9,t9,λb hb=>(Qd.mp hb).elim (λe=>e▸H9D) (n9 b),d9,v5,z5,w9⟩
   | true =>
    rw[if_pos rfl]at q9 ⊢
    have iR:=Ye _ s9 τ8 H9 _ I9 q9
    rw[eX]at iR
    refine thn iR λy dv ⟨yv,cK,ij,lU,m',hm,rM⟩=>?_
    obtain⟨lR,H10D,nr,rW⟩:=again ij
    refine call_meets F.slot_list_append ⟨_,lR,rfl⟩ F.entry_list_append (F.args_list_append_2 _ _) (PySem.list_append D a7.toArray k y (by rw[Qw,←v5.length];assumption)) ⟨lR,?_⟩
    have q:=PySem.IsL.update lR (λa=>a.push y)
    have vD:(a7.toArray.push y)=(a7++[y]).toArray:=by simp
    rw[vD]at q
    have kk:∀b o,b≠D→dv.heap.get? b=some o→(dv.heap.update D (Obj.mapSeq λa=>a.push y)).get? b=some o:=λb o hb e=>(Ug dv.heap (Obj.mapSeq λa=>a.push y) (Zc hb)).trans e
    obtain⟨g0,g1,g2',g3,g4,g5⟩:=fD H10D
    have ni:=(drop ij).turned (h':=dv.heap.update D (Obj.mapSeq λa=>a.push y)) (t':=dv.toks) (it:=D) kk H10D g1 g3 g4 g5
    exact⟨m',hm,i+1,τ8,cK,ys++[yv],a7++[y],_,ni,T.keep _ _ _ nr λb hb o e=>kk b o (λz=>fpD (z▸hb)) e,λb hb=>(Qd.mp hb).elim (λe=>e▸H10D) (rW b),q,v5.append (.cons lU .nil),
     by rw[Qo,Wd];assumption,rM⟩
 exact start_in loop (T.self _ 0 _ _ _ t0 loop)
section
variable{X:Cx}{sc:Scope}{M:Nd}{ix:Nt}{a0:Nf}{σ:St}{H:Hp}{s:Nh}
def rLC2(g1:TG)(jy:TI)(g:TG)(tc:TT)(te:TE)(Q:VK)(J:It)(τ:St)(H1:Hp):Prop:=∃W:Nat→Nat→List V→St→Hp→Prop,(∃m,W 0 m [] τ H1)∧∀i m ys τ H,W i m ys τ H →
 (J.stop i H∧∀D,H D=none→Q (.ref D) (upd H D (.lst ys))) ∨
 (J.go i H∧∀x H',J.yld i H x H'→g1 x τ H' λ τ2 H2=>jy τ2 H2 λJ2 H3=>rIn2 g tc te (λnj τ' H'=>∃m',m'<m∧W (i+1) m' nj τ' H') J2 ys τ2 H3)
def tLC2(ix:Nt)(wi:TI)(g1:TG)(jy:TI)(g:TG)(tc:TT)(te:TE):TE:=λ σ H Q=>wi σ H λJ H1=>rLC2 g1 jy g tc te Q J (inner ix σ) H1
def lc2_block{tg elt iter dR ci:Expr}{ifs:Nq}{pos:Pos}{g1:TG}{jy:TI}{g:TG}{tc:TT}{te:TE}{fp:Nk}{it:Nc}{tn:Nat→Heap→Prop}{J:It}{Q:VK}{RR:Value→Addr→Result→Shared→Prop}{E:Nb}(B:Blk X sc M ix)(hc:X.calm=true)(pA:∀C ex s H,PG (zbx X sc M C a0 ex s H) tg g1)(ar:∀C ex s H,PI (zbx X sc M C a0 ex s H) dR ci jy)(cn:∀C x,foldedSetIterable ci (compEnvC sc (clOf sc X.env) C X.env) x=pure x)(hg:∀C ex s H,PG (zbx X sc M C a0 ex s H) dR g)(ht:∀C ex s H,PTs (zbx X sc M C a0 ex s H) ifs tc)(he:∀C ex s H,PE (zbx X sc M C a0 ex s H) elt te)(I:Inv X a0 σ H s)(T:Turn X.prog X.w X.K tg J fp it tn)(h0:tn 0 s.heap)(hf:∀b∈fp,FpOk X a0 H b)(q:rLC2 g1 jy g tc te Q J (inner ix σ) H)(lN:∀D C m ys H' s',Inv X a0 σ (upd H' D (.lst ys)) s'→Q (.ref D) (upd H' D (.lst ys))→s'.heap.Ns C m→upd H' D (.lst ys) C=none→s.heap.objs.size<C→RR (.ref D) C (.ok .next) s') :
  wpAny (model X.prog X.w) X.A (newList []) (λad s₃=>wpAny (model X.prog X.w) X.A (newFunctionEnv sc X.env.globals (clOf sc X.env) [] X.env.qual none .none (some X.env)) (λcenv s₄ =>
   codeAny (model X.prog X.w) X.A (.compStart (.ListComp elt [⟨tg,iter,[],0⟩,⟨dR,ci,ifs,0⟩] sc pos) 0 (.ref it) ad {cenv with scope:=relabel sc X.env}) (RR ad cenv.locals) s₄) E s₃) E s:=by
 refine wpAny_newObj_type (wpAny_newFunctionEnv B.nocell (by intro y hy;simp at hy) (λh₁ hns₁ hsb₁=>?_) B.kind)
 dsimp only at hns₁ hsb₁ ⊢
 generalize hD:s.heap.objs.size=D at hns₁ hsb₁ ⊢
 generalize aU:s.heap.push {cls:=.type "list",dict:=none,data:=.seq ([]:List Value).toArray}=g2 at hns₁ hsb₁ ⊢
 have hC:g2.objs.size=D+1:=by rw[←aU,Wv,hD]
 have k2:∀b o,s.heap.get? b=some o→g2.get? b=some o:=λb o e=>by rw[←aU];exact Qj _ e
 have I3:Inv X a0 σ H {s with heap:=g2}:=I.kept (t':=s.toks) k2
 have HD:H D=none:=I.hok.fresh (by rw[hD];exact Qf _)
 have fD:FpOk X a0 H D:=I.fpOk (by rw[hD];exact Qf _) HD
 have D2:g2.get? D=some {cls:=.type "list",dict:=none,data:=.seq ([]:List Value).toArray}:=by rw[←aU,←hD];exact Za _ rfl
 have k1:∀b o,g2.get? b=some o→h₁.get? b=some o:=λb o e=>by
  have hb:b≠g2.objs.size:=Ze (Qu e)
  exact(hsb₁.2 b hb).trans (Qj _ e)
 have fpx:∀b∈D::fp,FpOk X a0 H b:=λb hb=>by
  rcases Qd.mp hb with e | e
  ·rw[e];exact fD
  ·exact hf b e
 have fplt:∀b∈D::fp,b<g2.objs.size:=λb hb=>by
  rcases Qd.mp hb with e | e
  ·rw[e,hC];exact Wi _
  ·obtain ⟨o,q,_⟩:=T.obj _ _ h0 b e
   exact Qu (k2 b o q)
 have fpD:D∉fp:=λhm=>by
  obtain⟨o,q,_⟩:=T.obj _ _ h0 D hm
  have:=Qu q
  rw[hD]at this
  exact Yy _ this
 generalize aj:zbx X sc M g2.objs.size a0 (D::fp) {s with heap:=g2} H=Y
 have IY:Inv Y [] (inner ix σ) H {s with heap:=h₁,toks:=s.toks+([]:List (Str×Value)).length}:=by
  rw[←aj]
  exact inv_blk B I3 fpx fplt rfl hns₁ k1 rfl rfl
 have Yg1:=aj▸pA g2.objs.size (D::fp) {s with heap:=g2} H
 have Yi2:=aj▸ar g2.objs.size (D::fp) {s with heap:=g2} H
 have Yg:=aj▸hg g2.objs.size (D::fp) {s with heap:=g2} H
 have Yt:=aj▸ht g2.objs.size (D::fp) {s with heap:=g2} H
 have Ye:=aj▸he g2.objs.size (D::fp) {s with heap:=g2} H
 have eP:Y.prog=X.prog:=by rw[←aj];rfl
 have eW:Y.w=X.w:=by rw[←aj];rfl
 have eK:Y.K=X.K:=by rw[←aj];rfl
 have eA:Y.A=X.A:=by rw[←aj];rfl
 have eC:Y.calm=true:=by rw[←aj];exact hc
 have eE:Y.env=compEnvC sc (clOf sc X.env) g2.objs.size X.env:=by rw[←aj];rfl
 have eX:Y.xe=λ_ _=>False:=by rw[←aj];rfl
 have eEx:Y.ex=D::fp:=by rw[←aj];rfl
 have eFs:Y.fs=frs X.stack:=by rw[←aj];rfl
 have ePn:Y.pn=X.pn++a0:=by rw[←aj];rfl
 have eL:Y.env.locals=g2.objs.size:=by rw[eE];rfl
 have qp:Y.H₀=H:=by rw[←aj];rfl
 have kh:Y.s₀={s with heap:=g2}:=by rw[←aj];rfl
 have fY:∀{H':Hp} {pl:Nf} {b:Nc},b∈D::fp→H' b=none→(∀p∈pl,p.1≠b)→FpOk Y pl H' b:=λ{H' pl b} hb hn hp=>by
  obtain⟨f0,f1,f2,f3,f4,f5⟩:=fpx b hb
  refine⟨hn,?_,?_,.inl (by rw[eEx];exact hb),IY.ok.exf b (by rw[eEx];exact hb) |>.2,λp aW=>?_⟩
  ·rw[eL];exact Ze (fplt b hb)
  ·rw [eFs]
   intro z
   rcases Qd.mp (I3.stkSub b z) with q | q
   ·exact f1 q
   ·exact f2 q
  ·rw [ePn] at aW
   rcases Qe.mp aW with z | z
   ·exact f5 p z
   ·exact hp p z
 obtain⟨W,⟨m0,w0⟩,turn⟩:=q
 have loop:∀ sN:Shared,sN={ s with heap:=h₁,toks:=s.toks+([]:List (Str×Value)).length } →
   codeAny (model X.prog X.w) X.A (.compLoop (.ListComp elt [⟨tg,iter,[],0⟩,⟨dR,ci,ifs,0⟩] sc pos) 0 (.ref it) (.ref D) (compEnvC sc (clOf sc X.env) g2.objs.size X.env)) (RR (.ref D) g2.objs.size) sN:=by
  rintro sN rfl
  refine loop_out (cn _) (λn s'=>Ex6 λi τ H' ys a7 k=>Aj7 (Inv Y [] τ H' s') (tn i s'.heap) (∀b∈D::fp,H' b=none) (s'.heap.get? D=some {cls:=.type "list",data:=.seq (a7:Ni).toArray k}) (Vals ys a7) (ys.length≤sizeLine) (W i n ys τ H')) ?_ m0
   ⟨0,inner ix σ,H,[],[],0,IY,T.keep _ _ _ h0 λb _ o e=>k1 b o (k2 b o e),λb hb=>(fpx b hb).1,k1 _ _ D2,.nil,Zi _,w0⟩
  rintro n s5 ⟨i,τ,H5,ys,a7,k,I5,t5,n5,d5,v5,z5,w5⟩
  have oD:∀{s':Nh} {its':Ni} {k':Nat},s'.heap.get? D=some {cls:=.type "list",data:=.seq its'.toArray k'}→∀b∈[D],∃o,s'.heap.get? b=some o∧∀v,o.data≠.cell v:=λ{s' its' k'} e b hb=>by
   rw[Qb.mp hb]
   exact⟨_,e,λv z=>by cases z⟩
  have fI:Inv Y ([]++za7 [D] s5.heap) τ H5 s5:=I5.pinned (λb hb=>fY (by rw[Qb.mp hb];exact Qc) (n5 b (by rw[Qb.mp hb];exact Qc)) (by simp)) (oD d5)
  have pD:∀p∈za7 [D] s5.heap,p.1=D∧p.2={cls:=.type "list",data:=.seq a7.toArray k}:=λp hp=>by
   obtain⟨e1,e2⟩:=zcu hp
   have cO:p.1=D:=Qb.mp e1
   rw[cO,d5]at e2
   exact⟨cO,(Qp e2).symm⟩
  have fN:∀{H':Hp},(∀b∈fp,H' b=none)→∀b∈fp,FpOk Y ([]++za7 [D] s5.heap) H' b:=λhn b hb=>fY (Qh _ hb) (hn b hb) λp hp z=>by
   rw[Wt]at hp
   rw[(pD p hp).1]at z
   exact fpD (z▸hb)
  rcases turn i n ys τ H5 w5 with⟨stop,qn⟩ | ⟨go,step⟩
  ·have h6:=T.done Y eP eW eK eC i _ s5 τ H5 (fun _ _=>False) fI (fN fun b hb=>n5 b (Qh _ hb)) t5 stop
   rw[eA]at h6
   refine thn h6 λr s6 ⟨hr,I6⟩=>?_
   subst hr
   have d6:s6.heap.get? D=some {cls:=.type "list",data:=.seq a7.toArray k}:=by
    have hp:=za1 (fp:=[D]) (Qb.mpr rfl) d5
    exact(I6.pin (D,_) (Qi _ hp)).1
   have H5D:H5 D=none:=n5 D Qc
   obtain⟨mL,nL,_⟩:=I6.loc
   rw[eL]at nL
   have CD:g2.objs.size≠D:=by rw[hC];exact Xd _
   refine lN D _ mL ys H5 s6 ?_ (qn D H5D) nL ?_ (by rw[hC,hD];exact Wi _)
   ·have u6:=I6.base
    rw[eFs,eEx,qp,kh]at u6
    refine I3.call' (ch:=D::fp) (I6.os.trans (by rw[kh])) ⟨u6.keep,u6.slot,λb o e n hx=>?_,u6.there,λb xs e=>?_,λb o u e=>?_,λb ps e=>?_⟩ ?_ I6.bare λb hb=>?_
    ·rw[zad (λz=>hx (by rw[z];exact Qc))];exact u6.free b o e n hx
    ·rw[zad (zaa e HD)];exact u6.tups b xs e
    ·rw[zad (zaa e HD)];exact u6.frzs b o u e
    ·rw[zad (zaa e HD)];exact u6.tbls b ps e
    ·have jA:=I6.hok
     rw[eP,eW]at jA
     intro b u e
     by_cases hb:b=D
     ·subst hb
      rw[zab]at e
      cases e
      exact⟨z5,a7,k,v5,d6⟩
     ·rw [zad hb] at e
      exact(jA b u e).stay (λc v _ q=>q) (λc q=>by rw[zad (zaa q H5D)];exact q) λc xs q=>by rw[zad (zaa q H5D)];exact q
    ·obtain ⟨f0,f1,f2,f3,f4,f5⟩:=fpx b hb
     exact⟨f3,f1,f4,f5⟩
   ·rw [zad CD]
    have:=I6.free
    rw[eL]at this
    exact this
  ·have h6:=T.item Y eP eW eK eC i _ s5 τ H5 (fun _ _=>False) fI (fN fun b hb=>n5 b (Qh _ hb)) t5 go
   rw[eA]at h6
   refine thn h6 λr s6 ⟨u,hr,h7⟩=>?_
   subst hr
   refine thn h7 λ_ s7 ⟨x,H7,I7,r7,y7,t7,n7⟩=>?_
   have lT:=I7.pinned (fN n7) (T.obj _ _ t7)
   have h8:=Yg1 _ s7 τ H7 x u _ lT r7 (step x H7 y7)
   rw[eP,eW,eA,eX,eE]at h8
   refine thn h8 λ_ s8 ⟨τ8,H8,I8,q8⟩=>?_
   have h9:=Yi2 _ s8 τ8 H8 _ I8 q8
   rw[eP,eW,eA,eX,eE]at h9
   refine thn h9 λxv s9 iR=>thn iR λjv dv rC=>?_
   obtain⟨j,fp2,tn2,J2,cK,rfl,ij,T2,nr,mZ,rP⟩:=rC
   have pp:∀{b:Nc} {o:Obj} {H':Hp} {τ':St} {s':Nh},Inv Y ([]++za7 fp s7.heap) τ' H' s'→b∈fp→s7.heap.get? b=some o→s'.heap.get? b=some o∧H' b=none:=λ{b o H' τ' s'} I' hb e =>
    let z:=I'.pin (b,o) (Qi _ (Qi _ (za1 hb e)))
    ⟨z.1,z.2.1⟩
   have hpD:=za1 (fp:=[D]) (Qb.mpr rfl) d5
   have zD:=ij.pin (D,_) (Qi _ (Ql _ (Qi _ hpD)))
   have wf:Inv Y ([]++za7 fp s7.heap) τ8 cK dv:=ij.pins_of λp hp=>ij.pin p (Qi _ (Qi _ (by rwa[Wt]at hp)))
   have nfp:∀p∈za7 fp s7.heap,p.1≠D:=λp hp z=>fpD (z▸(zcu hp).1)
   have keepT:∀{H':Hp} {τ':St} {s':Nh},Inv Y ([]++za7 fp s7.heap) τ' H' s'→tn (i+1) s'.heap∧∀b∈fp,H' b=none:=λ{H' τ' s'} I'=>by
    refine⟨T.keep _ _ _ t7 λb hb o e=>(pp I' hb e).1,λb hb=>?_⟩
    obtain⟨o,e,_⟩:=T.obj _ _ t7 b hb
    exact(pp I' hb e).2
   have res:=in_loop (Y:=Y) (D:=D) (P1:=[]++za7 fp s7.heap) (elt:=elt) (tg1:=tg) (it1:=iter) (iter:=ci) (sc:=sc) (pos:=pos) (R:=λr s₅=>(∃f,r=.ok f)∧∃m,m<n∧Ex6 λi τ H' ys a7 k=>Aj7 (Inv Y [] τ H' s₅) (tn i s₅.heap) (∀b∈D::fp,H' b=none) (s₅.heap.get? D=some {cls:=.type "list",data:=.seq (a7:Ni).toArray k}) (Vals ys a7) (ys.length≤sizeLine) (W i m ys τ H'))
    eC eX Yg Yt Ye T2 (λhm=>?_) (λ{H'} hn=>fY Qc hn λp hp=>nfp p (by rwa[Wt]at hp)) (λ{H' b} hb hn=>?_) wf nr (λb hb=>?_) zD.1 v5 z5 rP λnj its' k' τ' H' s' I' HD' d' v' z' fin=>?_
   ·rw [eP,eW,eA,eE] at res
    exact res
   ·have:=(mZ D hm).2.2.2.2.2 (D,_) (Qi _ (Ql _ (Qi _ hpD)))
    exact this rfl
   ·obtain ⟨f0,f1,f3,f4,f5,f6⟩:=mZ b hb
    exact⟨hn,f1,f3,f4,f5,λp hp=>f6 p ((Qe.mp hp).elim (λz=>Ql _ z) λz=>Qi _ (Qi _ (by rwa[Wt]at z)))⟩
   ·rcases Qd.mp hb with z | z
    ·rw[z];exact zD.2.1
    ·exact(mZ b z).1
   ·obtain ⟨m',hm,w'⟩:=fin
    obtain⟨kt,kn⟩:=keepT I'
    exact⟨⟨_,rfl⟩,m',hm,i+1,τ',H',nj,its',k',I'.pins_of (by simp),kt,λb hb=>(Qd.mp hb).elim (λe=>e▸HD') (kn b),d',v',z',w'⟩
 exact codeAny_compStart_list (loop _ rfl) (T.self _ 0 _ _ _ (T.keep _ _ _ h0 λb _ o e=>k1 b o (k2 b o e)) (loop _ rfl))
def pe_lc2(B:Blk X sc M ix)(hc:X.calm=true)(hi:PI X tg iter wi)(pA:∀C a0 ex s H,PG (zbx X sc M C a0 ex s H) tg g1)(ar:∀C a0 ex s H,PI (zbx X sc M C a0 ex s H) dR ci jy)(hg:∀C a0 ex s H,PG (zbx X sc M C a0 ex s H) dR g)(ht:∀C a0 ex s H,PTs (zbx X sc M C a0 ex s H) ifs tc)(he:∀C a0 ex s H,PE (zbx X sc M C a0 ex s H) elt te)(hs:∀x,foldedSetIterable iter X.env x=pure x:=by intro _;rfl)(cn:∀C x,foldedSetIterable ci (compEnvC sc (clOf sc X.env) C X.env) x=pure x:=by intro _ _;rfl):PE X (.ListComp elt [⟨tg,iter,[],0⟩,⟨dR,ci,ifs,0⟩] sc pos) (tLC2 ix wi g1 jy g tc te):=by
 intro a0 s σ H Q I h
 rw[eval_ListComp]
 refine wpAny_comprehension_free (use:=none) rfl hs (zb2 (B.clos I)) B.kind B.names (thn (hi a0 s σ H _ I h) λv s1 h1=>thn h1 λitv s2 h2=>?_)
 obtain⟨it,fp,tn,J,H2,e,I2,T,bJ,f2,q⟩:=h2
 subst e
 refine lc2_block (RR:=λad C=>compPost (model X.prog X.w) X.A X.xe none (EP X a0 σ Q) ad C) B hc (pA · a0) (ar · a0) cn (hg · a0) (ht · a0) (he · a0) I2 T bJ f2 q ?_
 intro D C m ys H' s' I' q' hn hC aa
 refine⟨m,hn,λh' bj=>⟨.ref D,_,I'.letgo hn hC I2.lt I2.cl_lt I2.pin_lt I2.sz aa bj,rfl,q'⟩⟩
end
end L2
end
section
namespace RawD
open PySem PyProof.Rows PySem.W
def At(h:Nm)(a:Nc)(es:Array DictEntry)(ep:Nat):Prop:=∃o,h.get? a=some o∧o.ExactDict∧o.data=.dict es ep
def At.typeIs{s:Nh}{a:Nc}{es:Array DictEntry}{ep:Nat}(x:At s.heap a es ep):s.TypeIs (.ref a) "dict" := let⟨o,e,c,_⟩:=x;⟨o,e,c.1⟩
def At.keep{h g:Nm}{a:Nc}{es:Array DictEntry}{ep:Nat}(x:At h a es ep)(k:∀o,h.get? a=some o→g.get? a=some o):At g a es ep:=let⟨o,e,r⟩:=x;⟨o,k _ e,r⟩
section
variable{prog:Nj}{w:Nl}{A:Nn}{E:Nb}{s:Nh}{d:Nc}{es:Array DictEntry}{ep:Nat}
def iter{Q:Nb}(nS:(d==sysModules)=false)(m:At s.heap d es ep)(q:Q (.ref s.heap.objs.size) {s with heap:=s.heap.push {cls:=.type "dict_keyiterator",data:=.fields #[.ref d,.int 0 0,.int es.size 0,.int ep 0]}}):wpAny (model prog w) A (pyIter (.ref d)) Q E s:=by
 obtain⟨o,ho,hc,hd⟩:=id m
 refine wpAny_pyIter_slot m.typeIs F.slot_dict_iter (wpAny_call_entry F.slot_dict_iter m.typeIs F.entry_dict_iter ?_ (F.args_dict_iter_1 _))
 unfold Builtin.«dict.__iter__»
 refine wpAny_bind ?_
 unfold Builtin.Dict.dictSlotNone
 refine wpAny_bind (wpAny_notOrdered_dict m.typeIs (show wpAny _ _ (pure (Value.ref d)) _ _ s from wpAny_pure ?_))
 show wpAny _ _ (Builtin.Dict.showsAll d >>= _) _ _ s
 unfold Builtin.Dict.showsAll
 rw[if_neg (by rw[nS];exact Zg)]
 refine wpAny_bind (wpAny_pure (wpAny_bind (wpAny_dictEntries ho hd (wpAny_bind (wpAny_dictEpoch ho hd ?_)))))
 refine wpAny_bind (wpAny_newObj_type (wpAny_pure ⟨_,rfl, "dict_keyiterator",_,⟨_,Za _ rfl,rfl⟩,Ub.lookup,?_⟩))
 simpa[rawInt] using q
def item{j:Nc}{i:Nat}{Q:Option Value→Shared→Prop}(st:s.heap.IsKeyIter j d i es.size ep)(m:At s.heap d es ep)(hi:i<es.size)(hQ:∀g,g.IsKeyIter j d (i+1) es.size ep→Heap.SameBut j s.heap g→Q (some es[i].key) {s with heap:=g}):wpAny (model prog w) A (pyNext (.ref j)) Q E s:=by
 obtain⟨o,ho,hc,hd⟩:=id st
 obtain⟨od,mr,au,lC⟩:=id m
 unfold pyNext
 refine wpAny_bind (wpAny_attempt (wpAny_callSpecial?_slot (name:=Str.ofString "__next__") st.typeIs Ub (wpAny_call_entry Ub st.typeIs F.entry_dict_keyiterator_next ?_ (F.args_dict_keyiterator_next_1 _))))
 refine wpAny_bind (wpAny_pure (wpAny_bind (wpAny_bind ?_)))
 first | refine wpAny_bind (wpAny_typeNameOfWhole_keyiter st.typeIs (wpAny_pure ?_)) | refine wpAny_bind (wpAny_typeNameOf_keyiter st.typeIs (wpAny_pure ?_))
 refine wpAny_bind (wpAny_fieldsOf ho hd ?_)
 have l8:Builtin.Dict_items.ownsTuple "dict_keyiterator" = false:=by decide
 simp only[l8,Kn,if_false]
 show wpAny _ _ (if(Value.ref d==.none)=true then _ else _) _ _ s
 rw[if_neg (show ¬((Value.ref d==.none)=true) from Zg)]
 refine wpAny_bind (wpAny_pure (wpAny_bind (wpAny_dictEntries mr lC ?_)))
 rw[if_neg (by simp)]
 refine wpAny_bind (wpAny_pure (wpAny_bind (wpAny_dictEpoch mr lC ?_)))
 rw[if_neg (by simp)]
 refine wpAny_pure ?_
 simp only[show ¬((i:Int)<0) from by lia,if_false,Wl,Ks hi]
 refine wpAny_bind ?_
 first | refine wpAny_bind (wpAny_typeNameOfWhole_keyiter st.typeIs (wpAny_pure ?_)) | refine wpAny_bind (wpAny_typeNameOf_keyiter st.typeIs (wpAny_pure ?_))
 refine wpAny_bind (wpAny_isOneOf_keyiter st.typeIs ?_)
 show wpAny _ _ (setField (.ref j) 1 (rawInt ((i:Int)+1)) >>= _) _ _ s
 refine wpAny_bind (wpAny_setField ho hd (by simp) ?_)
 have a8:(s.heap.update j (Obj.mapFields (·.setIfInBounds 1 (rawInt ((i:Int)+1))))).IsKeyIter j d (i+1) es.size ep :=
  ⟨_,Heap.get?_update_self _ ho (Obj.isFreed_of_fields (Xc hd _)),(Obj.cls_mapFields ..).trans hc,by rw[Xc hd];simp[rawInt]⟩
 refine wpAny_bind (wpAny_holding (wpAny_bind (wpAny_isOneOf_keyiter (s:={s with heap:=s.heap.update j (Obj.mapFields (·.setIfInBounds 1 (rawInt ((i:Int)+1))))}) a8.typeIs ?_)))
 show wpAny _ _ (pure es[i].key) _ _ _
 exact wpAny_pure (wpAny_pure ⟨_,rfl,wpAny_pure (hQ _ a8 (Kx ..))⟩)
def done{j:Nc}{i:Nat}{Q:Option Value→Shared→Prop}(hh:A.handled=none)(st:s.heap.IsKeyIter j d i es.size ep)(m:At s.heap d es ep)(hi:es.size≤i)(hQ:∀g,Heap.ExtBut j s.heap g→Q none {s with heap:=g}):wpAny (model prog w) A (pyNext (.ref j)) Q E s:=by
 obtain⟨o,ho,hc,hd⟩:=id st
 obtain⟨od,mr,au,lC⟩:=id m
 unfold pyNext
 refine wpAny_bind (wpAny_attempt (wpAny_callSpecial?_slot (name:=Str.ofString "__next__") st.typeIs Ub (wpAny_call_entry Ub st.typeIs F.entry_dict_keyiterator_next ?_ (F.args_dict_keyiterator_next_1 _))))
 refine wpAny_bind (wpAny_pure (wpAny_bind (wpAny_bind ?_)))
 first | refine wpAny_bind (wpAny_typeNameOfWhole_keyiter st.typeIs (wpAny_pure ?_)) | refine wpAny_bind (wpAny_typeNameOf_keyiter st.typeIs (wpAny_pure ?_))
 refine wpAny_bind (wpAny_fieldsOf ho hd ?_)
 have l8:Builtin.Dict_items.ownsTuple "dict_keyiterator" = false:=by decide
 simp only[l8,Kn,if_false]
 show wpAny _ _ (if(Value.ref d==.none)=true then _ else _) _ _ s
 rw[if_neg (show ¬((Value.ref d==.none)=true) from Zg)]
 refine wpAny_bind (wpAny_pure (wpAny_bind (wpAny_dictEntries mr lC ?_)))
 rw[if_neg (by simp)]
 refine wpAny_bind (wpAny_pure (wpAny_bind (wpAny_dictEpoch mr lC ?_)))
 rw[if_neg (by simp)]
 refine wpAny_pure ?_
 simp only[show ¬((i:Int)<0) from by lia,if_false,Wl,Array.getElem?_eq_none hi]
 refine wpAny_bind ?_
 first | refine wpAny_bind (wpAny_typeNameOfWhole_keyiter st.typeIs (wpAny_pure ?_)) | refine wpAny_bind (wpAny_typeNameOf_keyiter st.typeIs (wpAny_pure ?_))
 show wpAny _ _ (setField (.ref j) 0 .none >>= _) _ _ s
 refine wpAny_bind (wpAny_setField ho hd (by simp) ?_)
 show wpAny _ _ (newExc (.type "StopIteration") [] >>= _) _ _ _
 refine wpAny_bind ?_
 simp only[newExc,newTuple]
 refine wpAny_bind (wpAny_newObj_type (wpAny_bind (m:=firstArgMember _ _) (wpAny_of_eq (a:=Value.none) (by first | rfl | (simp only[firstArgMember];rfl)) (wpAny_newObj_type ?_ (by size_fits)))) (by size_fits))
 simp only[raiseNew]
 refine wpAny_bind (wpAny_handled ?_)
 first | rw[show A.in1.handled=none from hh] | rw[hh]
 refine wpAny_bind (wpAny_pure (wpAny_throw ?_))
 refine wpAny_bind (wpAny_isInstance (T := "StopIteration") (b:=true) ⟨_,Za _ rfl,rfl⟩ isSubtype_stop ?_)
 exact wpAny_pure (hQ _ (((Kx ..).extBut.push _).push _))
theorem src(nS:(d==sysModules)=false):KdlSrc prog w "dict" d d es.size (λi v=>∃e,es[i]?=some e∧v=e.key) (λh=>At h d es ep) where
 type:=λ_ m=>m.typeIs
 there:=λ_ m=>let⟨_,e,_⟩:=m;⟨Qu e,Qu e⟩
 keep:=λ_ _ m k=>m.keep λo e=>k d (.inl rfl) o e
 notList:=by decide
 notTuple:=by decide
 hint:=λ_ _ _ _ m q=>kdl_hint_dict m.typeIs q
 iter:=λA s hh m=>by
  have lt:d<s.heap.objs.size:=let⟨_,e,_⟩:=m;Qu e
  refine⟨_,λi h=>h.IsKeyIter s.heap.objs.size d i es.size ep∧At h d es ep,λ_ _ q=>iter nS m q,?_,⟨_,Za _ rfl,rfl,rfl⟩,m.keep λo e=>Qj _ e⟩
  exact
   {sub:=fun b hb=>by simp at hb;simp [hb]
    frame:=λi h g st k=>⟨st.1.at λo e=>k _ (by simp) o e,st.2.keep λo e=>k d (by simp) o e⟩
    item:=λi s' Q E hi st hQ=>item st.1 st.2 hi λg a b=>hQ _ g s'.toks ⟨_,Ks hi,rfl⟩ ⟨a,st.2.keep λo e=>(b.2 d (Ze lt)).trans e⟩ λc o hc e=>(b.2 c (λz=>hc (by simp[z]))).trans e
    done:=λs' Q E st hQ=>done hh st.1 st.2 (Qf _) λg a=>hQ g s'.toks λc o hc e=>a c o (λz=>hc (by simp[z])) e
    self:=λ_ _ _ _ st q=>wpAny_pyIter_keyiter st.1 q}
end
end RawD
namespace L2
open PySem PySem.Spec PyProof.Rows Tm
def kP(q:Str×Str):List Key:=[Sum.inr q.1,Sum.inr q.2]
abbrev zar(H:Hp):List Addr→List (Str×Str)→Prop:=Paired λb r=>H b=some (.tup [.str r.1,.str r.2])
section
variable{X:Cx}
def zc0{α β:Type}{R:α→β→Prop}{as dl:List α}(p:dl.Perm as):∀{bs:List β},Paired R as bs→∃ng,ng.Perm bs∧Paired R dl ng:=by
 induction p with
 |nil=>intro bs r;cases r;exact⟨[],.nil,.nil⟩
 | cons x q ih =>
  intro bs r
  cases r with
  |cons r1 r2 =>
   obtain⟨zs,h1,h2⟩:=ih r2
   exact⟨_::zs,h1.cons _,.cons r1 h2⟩
 | swap x y l =>
  intro bs r
  cases r with
  |cons r1 r2 =>
   cases r2 with
   |cons r3 r4=>exact⟨_,List.Perm.swap ..,.cons r3 (.cons r1 r4)⟩
 |trans _ _ ih1 ih2 =>
  intro bs r
  obtain⟨zs,h1,h2⟩:=ih2 r
  obtain⟨kj,h3,h4⟩:=ih1 h2
  exact⟨kj,h3.trans h1,h4⟩
def pairs_mem{H:Hp}{as:Nk}{qs:Nr}(r:zar H as qs){a:Nc}(ha:a∈as):∃r:Str×Str,H a=some (.tup [.str r.1,.str r.2]):=by
 induction r with
 |nil=>cases ha
 |cons h t ih =>
  rcases Qd.mp ha with zz | zz
  ·subst zz;exact⟨_,h⟩
  ·exact ih zz
def zgv(hc:X.calm=true):zb4 X (.builtin "sorted") (fun xs H Q=>Ex3 fun (d:Nc) (kvs:List (List Key×V)) (qs:Nr)=>Aj4 (xs=[.ref d]) (H d=some (.dT kvs)) (kvs.map (·.1)=qs.map kP) (∀ (l:Nc) (as:Nk) (ws:Nr),H l=none→ws.Perm qs→zar H as ws→Q (.ref l) (upd H l (.lst (as.map V.ref))))):=by
 intro a0 s σ H xs us Q I r h
 obtain⟨d,kvs,qs,rfl,hq,ek,q⟩:=h
 obtain⟨u,rfl,rx⟩:=vals1 r
 cases rx
 obtain⟨z,lo,ts,rk,o,es,ep,e1,e2,e3,e4,e5⟩:=(show zbp X.prog X.w H s.heap d (.dT kvs) from I.hok d _ hq)
 have lS:RawD.At s.heap d es ep:=⟨o,e1,e2,e3⟩
 have a9:kvs.length=ts.length:=Yb rk
 have aN:es.size=ts.length:=by rw[←Wa,e4,Qa]
 have eG:zar H (ts.map λt=>t.2.1) qs:=by
  clear e4 e5 aN a9 lS z q hq
  induction rk generalizing qs with
  |nil =>
   cases qs with
   |nil=>exact .nil
   |cons a b=>cases ek
  | @cons p t ps im h1 t1 ih =>
   cases qs with
   |nil=>cases ek
   |cons a b =>
    rw[Qm,Qm]at ek
    injection ek with k1 k2
    refine .cons ?_ (ih _ k2)
    have:=h1.2.1
    rw[k1]at this
    exact this
 have nY:∀ad:Array Value,ItemsOf (λi v=>∃e,es[i]?=some e∧v=e.key) ad es.size→ad.toList=(ts.map λt=>t.2.1).map Value.ref:=λad hi=>by
  apply List.ext_getElem?
  intro i
  rw[Qz,Qz]
  by_cases aa:i<es.size
  ·have cC:i < ad.size:=by rw [hi.1];exact aa
   have a1:ad[i]?=some ad[i]:=Ks cC
   obtain⟨e,h1,h2⟩:=hi.2 i _ a1
   rw[Uf,a1,h2]
   have h3:es.toList[i]?=some e:=by rw[Uf];exact h1
   rw[e4,Qz]at h3
   cases ht:ts[i]? with
   |none=>rw[ht]at h3;cases h3
   |some t =>
    rw[ht]at h3
    have h4:entryOfKey (tupleKind (zap X.prog X.w)) t=e:=Qp h3
    rw[←h4];rfl
  ·have a1:ad.toList[i]?=none:=by rw [Uf];exact Array.getElem?_eq_none (by rw [hi.1];lia)
   have a2:ts[i]?=none:=Xn (by lia)
   rw[a1,a2];rfl
 have hvr:∀as:List Addr,Vals (as.map V.ref) (as.map Value.ref):=λas=>by
  induction as with
  |nil=>exact .nil
  |cons a r ih=>exact .cons rfl ih
 refine zeo (R:=λa7 ws=>a7.length<64→ws.Pairwise λx y=>(pairO strO strO).kle (kvP s.heap x) (kvP s.heap y)) (G:=λa7=>a7=(ts.map λt=>t.2.1).map Value.ref) (λE' R hR=>zgn (RawD.src lo) (show X.A.in1.handled=none from I.ok.hd hc) lS (by lia) λg tk ad k le hi=>hR g tk _ k le (nY ad hi))
  (λa7 e=>by rw[e,Qa,Qa];exact zdz ‹_› ‹_›) (λa7 e A' E' s' _ k=>?_) λa7 ws l g tk e r p1 p2 le k he=>?_
 ·have all:∀ v∈a7,∃ x y t,ze4 s.heap v x (.str y t):=fun v hv=>by
   rw[e]at hv
   obtain⟨a,ha,rfl⟩:=Qk.mp hv
   obtain⟨rr,oi⟩:∃r:Str×Str,H a=some (.tup [.str r.1,.str r.2]):=pairs_mem eG ha
   obtain⟨q',⟨t,rfl⟩,T⟩:=zd2 I oi
   exact⟨_,_,t,T⟩
  refine zcz k (λv hv=>let⟨x,y,t,T⟩:=all v hv;⟨x,_,T⟩) λv hv u hu x p q T T'=>.inr ?_
  obtain⟨_,y,t,T1⟩:=all v hv
  obtain⟨_,y',t',T2⟩:=all u hu
  exact⟨y,t,y',t',(zdh T T1).2,(zdh T' T2).2⟩
 ·subst r
  obtain⟨as,rfl,p3⟩:∃as:List Addr,ws=as.map Value.ref∧as.Perm (ts.map λt=>t.2.1):=by
   have key:∀{ws:Ni} {bs:Nk},ws.Perm (bs.map Value.ref)→∃as:List Addr,ws=as.map Value.ref∧as.Perm bs:=λ{ws bs} pm=>by
    have a2:∃as:List Addr,ws=as.map Value.ref:=by
     have a1:∀v∈ws,∃a,v=Value.ref a:=λv hv=>by
      obtain⟨a,_,e⟩:=Qk.mp (pm.mem_iff.mp hv)
      exact⟨a,e.symm⟩
     clear pm
     induction ws with
     |nil=>exact⟨[],rfl⟩
     |cons v r ih =>
      obtain⟨as,e⟩:=ih λv hv=>a1 v (Qh _ hv)
      obtain⟨x,e2⟩:=a1 v Qc
      exact⟨x::as,by rw[e,e2];rfl⟩
    obtain⟨as,rfl⟩:=a2
    refine⟨as,rfl,?_⟩
    have:=pm.map (λv=>match v with | .ref a=>a | _=>0)
    rw[Zq,Zq]at this
    simpa[Function.comp_def] using this
   exact key p1
  obtain⟨qs',q1,q2⟩:=zc0 p3 eG
  refine⟨.ref l,_,I.laid (t':=tk) k le (show zbp X.prog X.w _ g _ (.lst _) from⟨?_,as.map Value.ref,e,hvr as,he⟩),rfl,q l as qs' (I.hok.fresh le) q1 q2⟩
  rw[Qa,p3.length_eq,Qa];exact zdz ‹_› ‹_›
end
end L2
end
section
namespace K21
open PySem L2
def top(i:Nat):Stmt:=PySem.Challenge.pw_fivehues_k61_whole_two_or_a_ring.main.body.getD i (.Pass ⟨0,0,0,0⟩)
def eOf:Stmt→Expr
 |.Assign _ e _=>e
 |.Return (some e) _=>e
 |.For _ e _ _ _=>e
 |.While e _ _ _=>e
 |_=>.Name "" ⟨0,0,0,0⟩
def bOf:Stmt→List Stmt
 |.For _ _ b _ _=>b
 |.If _ b _ _=>b
 |_=>[]
def aOf(i:Nat):Expr→Expr
 |.Call _ a _ _=>a.getD i (.Name "" ⟨0,0,0,0⟩)
 |.BinOp l _ r _=>[l,r].getD i l
 |.BoolOp _ a _=>a.getD i (.Name "" ⟨0,0,0,0⟩)
 |.Compare _ _ a _=>a.getD i (.Name "" ⟨0,0,0,0⟩)
 |e=>e
def scOf:Expr→Scope
 |.ListComp _ _ sc _=>sc
 |.DictComp _ _ _ sc _=>sc
 |_=>{kind:=.function,names:=[],isGenerator:=false,isCoroutine:=false}
abbrev sAt(s:Stmt)(i:Nat):Stmt:=(zcf s).getD i (.Pass ⟨0,0,0,0⟩)
abbrev bAt(s:Stmt)(i:Nat):Stmt:=(bOf s).getD i (.Pass ⟨0,0,0,0⟩)
abbrev zhr:Stmt:=top 31
def Pot(H:Hp)(p:Nc)(b m:Int):Prop:=H p=some (.lst [.int b,.int m])∧0≤b∧0≤m∧m<2147483648
inductive IspTake(vs:List V)(H:Hp)(Q:VK):Prop
 |mk (p:Nc) (b m n:Int) (h0:vs=[.ref p,.int n]) (h1:Pot H p b m) (h2:0<n) (h3:n<1073741824) (h4:∀(d b' m':Int) (H':Hp),0≤d→d<n→Pot H' p b' m'→(∀c o,H c=some o→c≠p→H' c=some o)→Q (.int d) H'):IspTake vs H Q
def zfu:Sp:=λvs H Q _=>IspTake vs H Q
section
variable{P:Nj}{w:Nl}{K:Na}{mg:Ng}{base:Nm}
def scTake:zaq ["_law_pot_here", "_law_many", "_law_digit"] ["_law_pot_here", "_law_many"] (zag zhr):=⟨rfl,rfl,rfl,by decide +kernel,rfl,by decide +kernel,by decide +kernel⟩
def zh3(F:Fun K "_law_take" "_law_take" zhr f fd)(dm:mg "divmod" = none):FnOk P w K mg base CX0 1 f fd ["_law_pot_here", "_law_many"] zfu:=by
 refine F.ok scTake (λvs H Q E h=>?_) (λcdv A outer s H vs Q E hr h=>?_)
 ·obtain ⟨p,b,m,n,rfl,_⟩:=h
  rfl
 ·obtain ⟨p,b,m,n,rfl,⟨hp,hb,hm,cq⟩,hn,bQ,k⟩:=h
  have i0:atI [V.int b,V.int m] ((0:Nat):Int)=some (.int b):=zbo rfl
  have i1:atI [V.int b,V.int m] ((1:Nat):Int)=some (.int m):=zbo rfl
  refine⟨_,zae (zb5 (zas op_gt (zck zbu (pv 0) zal (λ_ _=>rfl)) zal (zbf _))
   (zae (ps_asg (zai call_divmod (by rfl) dm PyProof.Rows.boot_divmod (zac (zck zbu (pv 0) zal (fun _ _=>rfl)) (zac (pv 1) zaf))) (ze8 rfl (zax (pg_sub (pv 0) zal set_list) (zax (zaj (i:=2) scTake.nd rfl (Or.inl rfl)) zcj))))
    (zah (zbe (pv 2)))) za0)
   (zae (ps_asg (zbd zfb (zbd zc9 (zbd op_mul (zck zbu (pv 0) zal (λ_ _=>rfl)) zal) zal) zal) (pg_sub (pv 0) zal set_list))
   (zah (zbe (zbd zfb (zbd op_fdiv (zbd zfb (zbd op_mul (zck zbu (pv 0) zal (λ_ _=>rfl)) (zck zbu (pv 0) zal (λ_ _=>rfl))) zal) zal) (pv 1))))),?_⟩
  refine⟨_,rfl,p,_,_,_,rfl,rfl,SqL.of hp,i0,_,_,rfl,rfl,_,rfl,?_⟩
  refine ite2 (λeZ=>?_) (λhneg=>?_)
  ·have mQ:0 < b:=of_decide_eq_true eZ
   refine⟨_,rfl,p,_,_,_,rfl,rfl,SqL.of hp,i0,_,rfl,b,n,rfl,⟨hn,bQ⟩,λt ht=>?_⟩
   have npt:p≠t:=zaa hp ht
   refine⟨t,_,rfl,SqT.of zab,rfl,_,_,rfl,_,rfl,p,_,0,0,rfl,rfl,(by rw[zad npt];exact hp),rfl,_,_,rfl,rfl,_,rfl,?_⟩
   refine k (b%n) (b/n) m _ (Kh _ (by lia)) (Jj _ hn) ⟨zab,Int.ediv_nonneg hb (by lia),hm,cq⟩ λc o e hc=>?_
   rw[zad hc,zad (zaa e ht)]
   exact e
  ·have i1':∀ x:Int,atI [V.int b,V.int x] ((1:Nat):Int)=some (.int x):=fun x=>zbo rfl
   have r0:0≤(m*48283+10007)%2147483587:=Kh _ (by decide)
   have r1:(m*48283+10007)%2147483587<2147483587:=Jj _ (by decide)
   refine⟨_,rfl,p,_,_,_,rfl,rfl,SqL.of hp,i1,_,_,rfl,rfl,.inl ⟨by lia,by lia⟩,_,_,rfl,rfl,_,_,rfl,rfl,(by show(0:Int)<2147483587;decide),_,rfl,p,_,1,1,rfl,rfl,hp,rfl,?_⟩
   refine⟨_,rfl,p,_,_,_,rfl,rfl,SqL.of zab,i1' _,_,rfl,p,_,_,_,rfl,rfl,SqL.of zab,i1' _,_,_,rfl,rfl,.inl ⟨by lia,by lia⟩,_,_,rfl,rfl,(by show(0:Int)<2147483549;decide),_,_,rfl,rfl,⟨by decide,by decide⟩,_,rfl,_,_,rfl,rfl,hn,?_⟩
   refine k _ b ((m*48283+10007)%2147483587) _ (Kh _ (by lia)) (Jj _ hn) ⟨zab,hb,r0,by lia⟩ λc o e hc=>?_
   rw[zad hc]
   exact e
end
end K21
end
section
namespace Wb
section
variable{α:Type}[DecidableEq α]
def nxt(zs:List α)(x:α):α:=zs.getD ((zs.idxOf x+1)%zs.length) x
def ins(zs:List α):Option α→α→List α
 |none,n=>n::zs
 |some c,n=>zs.take (zs.idxOf c+1)++n::zs.drop (zs.idxOf c+1)
abbrev Rs(α:Type):=List (α×List α)
def row(rs:Rs α)(x:α):List α:=((rs.find? λp=>decide (p.1=x)).map (·.2)).getD []
def zbk(rs:Rs α)(x:α)(r:List α):Rs α:=rs.map λp=>if p.1=x then(p.1,r) else p
def stp(rs:Rs α)(s:α×α):α×α:=(s.2,nxt (row rs s.2) s.1)
end
end Wb
namespace K21
open PySem L2 Wb
def Keep(xs:Nk)(H H':Hp):Prop:=∀c o,H c=some o→c∉xs→H' c=some o
def Keep.refl:Keep xs H H:=λ_ _ e _=>e
def Keep.trans(a:Keep xs H H1)(b:Keep xs H1 H2):Keep xs H H2:=λc o e n=>b c o (a c o e n) n
def Keep.sub(a:Keep xs H H1)(h:∀x∈xs,x∈ys):Keep ys H H1:=λc o e n=>a c o e λz=>n (h c z)
def Keep.new(h:H l=none):Keep xs H (upd H l o):=λc u e _=>by rw[zad (zaa e h)];exact e
def Keep.wr(h:l∈xs):Keep xs H (upd H l o):=λc u e n=>by rw[zad (λz=>n (by rw[z];exact h))];exact e
abbrev Ent:=Str×List Str×Addr
structure RAt(H:Hp)(d:Nc)(es:List Ent):Prop where
 dc:H d=some (.dK (es.map λe=>((Sum.inr e.1:Key),V.ref e.2.2)))
 ro:∀e∈es,H e.2.2=some (.lst (e.2.1.map V.str))
 nd:(es.map (·.1)).Nodup
def rsOf(es:List Ent):Rs Str:=es.map λe=>(e.1,e.2.1)
def RAt.keep(r:RAt H d es)(k:Keep xs H H')(hd:d∉xs)(h:∀e∈es,e.2.2∉xs):RAt H' d es:=⟨k _ _ r.dc hd,λe he=>k _ _ (r.ro e he) (h e he),r.nd⟩
def zbv{es:List Ent}(nd:(es.map (·.1)).Nodup){e:Ent}(h:e∈es):valV (es.map fun e=>((Sum.inr e.1:Key),V.ref e.2.2)) (Sum.inr e.1)=some (.ref e.2.2):=by
 induction es with
 |nil=>cases h
 | cons a t ih =>
  rw[Qm,Qv]at nd
  rw[Qm]
  rcases Qd.mp h with z | z
  ·subst z;exact zcl rfl
  ·rw [zbm]
   ·exact ih nd.2 z
   ·intro q
    exact nd.1 (by rw[Wr q];exact Qk.mpr ⟨e,z,rfl⟩)
def val_out{es:List Ent}{x:Str}(h:x∉es.map (·.1)):valV (es.map λe=>((Sum.inr e.1:Key),V.ref e.2.2)) (Sum.inr x)=none:=by
 induction es with
 |nil=>rfl
 |cons a t ih =>
  rw[Qm,Qd,not_or]at h
  rw[Qm,zbm]
  ·exact ih h.2
  ·intro q;exact h.1 (Wr q).symm
def zbb(nd:(es.map (·.1)).Nodup)(h:e∈es):row (rsOf es) e.1=e.2.1:=by
 unfold row rsOf
 induction es with
 |nil=>cases h
 | cons a t ih =>
  rw[Qm,Qv]at nd
  rw[Qm]
  rcases Qd.mp h with z | z
  ·subst z;rw[Wj (by simp)];rfl
  ·rw [Wk]
   ·exact ih nd.2 z
   ·intro q
    exact nd.1 (by rw[of_decide_eq_true q];exact Qk.mpr ⟨e,z,rfl⟩)
def setE(es:List Ent)(x:Str)(r:Nd)(a:Nc):List Ent:=es.map λe=>if e.1=x then(e.1,r,a) else e
def zhw(es:List Ent)(x:Str)(r:Nd)(a:Nc):rsOf (setE es x r a)=zbk (rsOf es) x r:=by
 unfold rsOf setE zbk
 rw[Zq,Zq]
 refine Yz λe _=>?_
 show(λe:Ent=>(e.1,e.2.1)) (if e.1=x then(e.1,r,a) else e)=if e.1=x then(e.1,r) else(e.1,e.2.1)
 by_cases h:e.1=x
 ·rw[if_pos h,if_pos h]
 ·rw[if_neg h,if_neg h]
def put_setE(h:x∈es.map (·.1)):putK (es.map λe=>((Sum.inr e.1:Key),V.ref e.2.2)) (Sum.inr x) (.ref a)=(setE es x r a).map λe=>((Sum.inr e.1:Key),V.ref e.2.2):=by
 unfold putK setE
 rw[if_pos]
 ·rw [Zq,Zq]
  refine Yz λe _=>?_
  show(if(Sum.inr e.1:Key)=Sum.inr x then((Sum.inr e.1:Key),V.ref a) else(Sum.inr e.1,V.ref e.2.2))=(λe:Ent=>((Sum.inr e.1:Key),V.ref e.2.2)) (if e.1=x then(e.1,r,a) else e)
  by_cases q:e.1=x
  ·rw[if_pos (by rw[q]),if_pos q]
  ·rw[if_neg (λz=>q (Wr z)),if_neg q]
 ·obtain ⟨e,he,rfl⟩:=Qk.mp h
  exact Ym.mpr ⟨_,Qk.mpr ⟨e,he,rfl⟩,by simp⟩
def put_new{es:List Ent}{x:Str}{r:Nd}{a:Nc}(h:x∉es.map (·.1)):putK (es.map λe=>((Sum.inr e.1:Key),V.ref e.2.2)) (Sum.inr x) (.ref a)=(es++[(x,r,a)]).map λe=>((Sum.inr e.1:Key),V.ref e.2.2):=by
 rw[zd7 _ (val_out h),Qs]
 rfl
def zbl(es:List Ent)(x:Str)(r:Nd)(a:Nc):(setE es x r a).map (·.1)=es.map (·.1):=by
 unfold setE
 rw[Zq]
 refine Yz λe _=>?_
 show(if e.1=x then(e.1,r,a) else e).1=e.1
 split<;>rfl
def zhd{xs:List V}{k:Nat}(h:k≤xs.length):cutV xs none (some (k:Int))=xs.take k:=by
 unfold cutV
 have e1:HT.sIx xs.length 0 none=0:=rfl
 have e2:HT.sIx xs.length xs.length (some (k:Int))=k:=by rw[HT.sIx_nat];omega
 rw[e1,e2];simp
def zca{xs:List V}{k:Nat}(h:k≤xs.length):cutV xs (some (k:Int)) none=xs.drop k:=by
 unfold cutV
 have e1:HT.sIx xs.length 0 (some (k:Int))=k:=by rw[HT.sIx_nat];omega
 have e2:HT.sIx xs.length xs.length none=xs.length:=rfl
 rw[e1,e2,Qr (by rw[Ja];exact Qf _)]
def idx_lt{zs:Nd}{x:Str}(h:x∈zs):zs.idxOf x<zs.length:=List.idxOf_lt_length_iff.mpr h
def zic{zs:Nd}{x:Str}(h:x∈zs):(∃ z,(zs.map V.str)[zs.idxOf x]?=some z∧eqV z (.str x)=true)∧∀ m z,m < zs.idxOf x→(zs.map V.str)[m]?=some z→eqV z (.str x)=false:=by
 refine⟨⟨.str x,?_,beq_self_eq_true x⟩,λm z hm e=>?_⟩
 ·rw[Qz,Qg (idx_lt h),List.getElem_idxOf];rfl
 ·rw [Qz] at e
  have cq:m<zs.length:=Ww hm (idx_lt h)
  rw[Qg cq]at e
  cases e
  show(zs[m]==x)=false
  refine beq_eq_false_iff_ne.mpr λq=>?_
  have ap:∀(l:Nd) (j:Nat) (hj:j<l.length),l[j]=x→l.idxOf x≤j:=by
   intro l
   induction l with
   |nil=>intro j hj;simp at hj
   | cons a t ih =>
    intro j hj e
    rw[List.idxOf_cons]
    cases j with
    |zero =>
     have e':a=x:=e
     rw[e'];simp
    | succ i =>
     have:=ih i (by simpa using hj) (by simpa using e)
     by_cases h:a=x
     ·rw[h];simp
     ·have hb:(a == x)=false:=beq_eq_false_iff_ne.mpr h
      rw[hb];simp;assumption
  have:=ap zs m cq q
  omega
def zcc(zs:Nd):(zs.map V.str).all zdb=true:=by
 rw[Ua];intro v hv;obtain⟨x,_,rfl⟩:=Qk.mp hv;rfl
end K21
end
section
namespace K21
open PySem L2 Wb
abbrev sPot:Stmt:=top 30
abbrev zfz:Stmt:=top 33
abbrev sPut:Stmt:=top 34
inductive IspPot(K:Na)(vs:List V)(H:Hp)(Q:VK):Prop
 |mk (a:Nc) (ns:List Int) (j:Nat) (h0:vs=[.ref a,.int j]) (h1:SqL K H a (ns.map V.int)) (h2:j≤1000) (h3:∀(l:Nc) (b m:Int) (H':Hp),H l=none→Pot H' l b m→Keep [] H H'→Q (.ref l) H'):IspPot K vs H Q
def spPot(K:Na):Sp:=λvs H Q _=>IspPot K vs H Q
inductive IspBehind(vs:List V)(H:Hp)(Q:VK):Prop
 |mk (a:Nc) (zs:Nd) (x:Str) (h0:vs=[.ref a,.str x]) (h1:H a=some (.lst (zs.map V.str))) (h2:x∈zs) (h3:zs.length≤1000) (h4:Q (.str (nxt zs x)) H):IspBehind vs H Q
def spBehind:Sp:=λvs H Q _=>IspBehind vs H Q
def cornerV:Option Str→V
 |none=>.non
 |some c=>.str c
inductive IspPut(vs:List V)(H:Hp)(Q:VK):Prop
 |mk (d:Nc) (es:List Ent) (e:Ent) (c:Option Str) (n:Str) (h0:vs=[.ref d,.str e.1,cornerV c,.str n]) (h1:RAt H d es) (h2:e∈es) (h3:(∀x,c=some x→x∈e.2.1)) (h4:e.2.1.length≤1000) (h5:es.length≤1000) (h6:∀(a:Nc) (H':Hp),H a=none→RAt H' d (setE es e.1 (ins e.2.1 c n) a)→Keep [d] H H'→Q .non H'):IspPut vs H Q
def spPut:Sp:=λvs H Q _=>IspPut vs H Q
section
variable{P:Nj}{w:Nl}{K:Na}{mg:Ng}{base:Nm}
def scPot:zaq ["_law_script", "_law_k", "_law_cell"] ["_law_script", "_law_k"] (zag sPot):=⟨rfl,rfl,rfl,by decide +kernel,rfl,by decide +kernel,by decide +kernel⟩
def ok_pot(F:Fun K "_law_pot" "_law_pot" sPot f fd)(a9:mg "len" = none)(fj:mg "max" = none)(qa:mg "abs" = none):FnOk P w K mg base CX0 1 f fd ["_law_script", "_law_k"] (spPot K):=by
 refine F.ok scPot (λvs H Q E h=>?_) (λcdv A outer s H vs Q E hr h=>?_)
 ·obtain ⟨a,ns,j,rfl,_⟩:=h
  rfl
 ·obtain ⟨a,ns,j,rfl,hS,hj,k⟩:=h
  refine⟨_,zae (zam (i:=2) scPot.nd rfl (Or.inl rfl) (zbd zc9 (zbd op_mul zal (pv 1)) zal))
   (zae (zb5 (zas op_lt (pv 1) (zai zan (by rfl) a9 Zx (zac (pv 0) zaf)) (zbf _)) (zah (zam (i:=2) scPot.nd rfl (Or.inl rfl) (zck zbu (pv 0) (pv 1) (λ_ _=>rfl)))) za0)
   (zah (zbe (zbh (zac (zai (call_max2 rfl) (by rfl) fj PyProof.Rows.boot_max (zac zal (zac (zbd op_sub (zai call_abs (by rfl) qa PyProof.Rows.boot_abs (zac (pv 2) zaf)) (zbd op_pow zal zal)) zaf)))
    (zac (zbd zc9 (zbd zfb (zai call_abs (by rfl) qa PyProof.Rows.boot_abs (zac (pv 2) zaf)) zal) zal) zaf)))))),?_⟩
  have fin:∀(c:Int) (l:Nc),H l=none→Q (.ref l) (upd H l (.lst [.int (if(if c<0 then -c else c)-10 ^ (18:Int).toNat>0 then(if c<0 then -c else c)-10 ^ (18:Int).toNat else 0),.int ((if c<0 then -c else c)%2147483579+1)])):=λc l hl=>by
   have h1:0≤(if c<0 then -c else c)%2147483579:=Kh _ (by decide)
   have h2:(if c<0 then -c else c)%2147483579<2147483579:=Jj _ (by decide)
   refine k l _ _ _ hl ⟨zab,?_,by lia,by lia⟩ (Keep.new hl)
   split<;>lia
  refine⟨_,rfl,_,_,rfl,rfl,.inl ⟨by decide,by decide⟩,_,_,rfl,rfl,_,rfl,_,rfl,a,_,rfl,.inl hS,_,_,rfl,rfl,_,rfl,?_⟩
  refine ite2 (λaa=>?_) (λ_=>?_)
  ·have tZ:(j:Int) < ((ns.map V.int).length:Int):=of_decide_eq_true aa
   have iG:j<ns.length:=by rw[Qa]at tZ;exact zar8 ‹_›
   have g:(ns.map V.int)[j]?=some (.int ns[j]):=by rw[Qz,Qg iG];rfl
   refine⟨_,rfl,_,rfl,a,_,_,_,rfl,rfl,hS,zbo g,?_⟩
   refine⟨_,rfl,_,rfl,_,_,rfl,rfl,⟨by decide,by decide,by decide⟩,_,_,rfl,rfl,_,_,rfl,_,rfl,_,rfl,_,_,rfl,rfl,(by show(0:Int)<2147483579;decide),_,_,rfl,rfl,(by show 2≤sizeLine;decide),λl hl=>fin _ l hl⟩
  ·refine⟨_,rfl,_,rfl,_,_,rfl,rfl,⟨by decide,by decide,by decide⟩,_,_,rfl,rfl,_,_,rfl,_,rfl,_,rfl,_,_,rfl,rfl,(by show(0:Int)<2147483579;decide),_,_,rfl,rfl,(by show 2≤sizeLine;decide),λl hl=>fin _ l hl⟩
def scBehind:zaq ["_law_row", "_law_name"] ["_law_row", "_law_name"] (zag zfz):=⟨rfl,rfl,rfl,by decide +kernel,rfl,by decide +kernel,by decide +kernel⟩
def ok_behind(F:Fun K "_law_behind" "_law_behind" zfz f fd)(a9:mg "len" = none):FnOk P w K mg base CX0 1 f fd ["_law_row", "_law_name"] spBehind:=by
 refine F.ok scBehind (λvs H Q E h=>?_) (λcdv A outer s H vs Q E hr h=>?_)
 ·obtain ⟨a,zs,x,rfl,_⟩:=h
  rfl
 ·obtain ⟨a,zs,x,rfl,ha,hx,hz,q⟩:=h
  refine⟨_,zah (zbe (zck zbu (pv 0) (zbd zfb (zbd zc9 (zd9 Zm Xa Kz zh7 (pv 0) (zac (pv 1) zaf)) zal)
   (zai zan (by rfl) a9 Zx (zac (pv 0) zaf))) (λ_ _=>rfl))),?_⟩
  obtain⟨i1,i2⟩:=zic hx
  have eZ:0<zs.length:=Yc hx
  have hm:(zs.idxOf x+1)%zs.length<zs.length:=Nat.mod_lt _ eZ
  have g:(zs.map V.str)[(zs.idxOf x+1)%zs.length]?=some (.str (nxt zs x)):=by
   rw[Qz,Qg hm]
   unfold nxt
   simp[List.getD,hm]
  have e:((zs.idxOf x:Nat):Int)+1=((zs.idxOf x+1:Nat):Int):=by lia
  have g2:atI (zs.map V.str) ((((zs.idxOf x:Nat):Int)+1)%((zs.map V.str).length:Int))=some (.str (nxt zs x)):=by
   rw[e,Qa,←Int.natCast_emod]
   exact zbo g
  refine⟨_,rfl,_,rfl,.inl ⟨rfl,_,SqL.of ha⟩,_,rfl,a,_,_,_,rfl,rfl,ha,rfl,zcc zs,i1,i2,_,_,rfl,rfl,_,rfl,a,_,rfl,.inl (SqL.of ha),_,_,rfl,rfl,?_,a,_,_,_,rfl,rfl,SqL.of ha,g2,q⟩
  rw[Qa];exact zar9 ‹_›
def scPut:zaq ["_law_rounds_here", "_law_one", "_law_corner", "_law_other", "_law_row", "_law_at"] ["_law_rounds_here", "_law_one", "_law_corner", "_law_other"] (zag sPut):=⟨rfl,rfl,rfl,by decide +kernel,rfl,by decide +kernel,by decide +kernel⟩
def ok_put(F:Fun K "_law_put" "_law_put" sPut f fd):FnOk P w K mg base CX0 1 f fd ["_law_rounds_here", "_law_one", "_law_corner", "_law_other"] spPut:=by
 refine F.ok scPut (λvs H Q E h=>?_) (λcdv A outer s H vs Q E hr h=>?_)
 ·obtain ⟨d,es,e,c,n,rfl,_⟩:=h
  rfl
 ·obtain ⟨d,es,e,c,n,rfl,R,he,hc,hl,aN,k⟩:=h
  have hu:=zb9 hr
  have af:=R.ro e he
  refine⟨_,zae (zam (i:=4) scPut.nd rfl (Or.inl rfl) (zat hu (pv 0) (pv 1) (λ_ _=>rfl)))
   (zae (zam (i:=5) scPut.nd rfl (Or.inl rfl) zal)
   (zae (zb5 (zdq (pc_notN (pv 2))) (zah (zam (i:=5) scPut.nd rfl (Or.inl rfl) (zbd zc9 (zd9 Zm Xa Kz zh7 (pv 4) (zac (pv 2) zaf)) zal))) za0)
   (zah (zce hu (pv 0) (pv 1) (zbd zea (zbd zea (zbq zcd (pv 4) zby (zb8 (pv 5))) (zbh (zac (pv 3) zaf))) (zbq zcd (pv 4) (zb8 (pv 5)) zby)) rfl)))),?_⟩
  refine⟨_,rfl,_,rfl,d,_,rfl,(zbv R.nd he▸DGet.k (k:=Sum.inr e.1) R.dc),?_⟩
  have uO:es.length<sizeLine:=small1000 aN
  have fin:∀j:Nat,j≤e.2.1.length→ins e.2.1 c n=e.2.1.take j++n::e.2.1.drop j→sDPut (tVar 0) (tVar 1) (tOp rCat (tOp rCat (tSl (rSlL K) (tVar 4) tNoPart (tPart (tVar 5))) (tLst (tCons (tVar 3) tNil))) (tSl (rSlL K) (tVar 4) (tPart (tVar 5)) tNoPart))
    {nx:=λ_ H'=>Q .non H',rt:=Q} [some (.ref d),some (.str e.1),some (cornerV c),some (.str n),some (.ref e.2.2),some (.int j)] H:=λj hj ei=>by
   have aF:(e.2.1.map V.str).length=e.2.1.length:=Qa ..
   have aG:sizeLine=16777216:=sizeLine_eq
   refine⟨_,rfl,_,rfl,_,rfl,e.2.2,_,rfl,SqL.of af,λp1 h1=>?_⟩
   have k1:Keep [d] H (upd H p1 (.lst (cutV (e.2.1.map V.str) none (some (j:Int))))):=Keep.new h1
   refine⟨_,rfl,(by show 1≤sizeLine;decide),λp2 h2=>?_⟩
   have dS:p1≠p2:=zaa (o:=_) zab h2
   refine⟨p1,p2,_,_,rfl,rfl,(by rw[zad dS];exact zab),zab,?_,λp3 h3=>?_⟩
   ·have:=za2 (e.2.1.map V.str) none (some (j:Int))
    rw[aF]at this
    show _+1≤sizeLine
    lia
   generalize aU:upd (upd H p1 (.lst (cutV (e.2.1.map V.str) none (some (j:Int))))) p2 (.lst [.str n])=H2 at h3 ⊢
   have k2:Keep [] H H2:=by rw[←aU];exact(Keep.new h1).trans (Keep.new h2)
   have dZ:=k2 _ _ af (by simp)
   have n3:e.2.2≠p3:=zaa dZ h3
   refine⟨_,rfl,_,rfl,_,rfl,e.2.2,_,rfl,SqL.of (by rw[zad n3];exact dZ),λp4 h4=>?_⟩
   have n34:p3≠p4:=zaa (o:=_) zab h4
   refine⟨p3,p4,_,_,rfl,rfl,(by rw[zad n34];exact zab),zab,?_,λp5 h5=>?_⟩
   ·have q1:=za2 (e.2.1.map V.str) none (some (j:Int))
    have q2:=za2 (e.2.1.map V.str) (some (j:Int)) none
    rw[aF]at q1 q2
    rw[Qo]
    show _+1+_≤sizeLine
    lia
   generalize qf:upd (upd H2 p3 (.lst (cutV (e.2.1.map V.str) none (some (j:Int))++[.str n]))) p4 (.lst (cutV (e.2.1.map V.str) (some (j:Int)) none))=H4 at h5 ⊢
   have k4:Keep [] H H4:=by rw[←qf];exact(k2.trans (Keep.new h3)).trans (Keep.new h4)
   have mG:=k4 _ _ R.dc (by simp)
   have nd5:d≠p5:=zaa mG h5
   refine⟨_,rfl,_,rfl,d,_,rfl,DPut.k (k:=Sum.inr e.1) (by rw[zad nd5];exact mG) (by rw[Qa];exact uO),?_⟩
   have bp:H p5=none:=by
    cases z:H p5 with
    |none=>rfl
    |some o=>rw[k4 _ _ z (by simp)]at h5;cases h5
   have gU:e.1∈es.map (·.1):=Qk.mpr ⟨e,he,rfl⟩
   have el:cutV (e.2.1.map V.str) none (some (j:Int))++[V.str n]++cutV (e.2.1.map V.str) (some (j:Int)) none=(ins e.2.1 c n).map V.str:=by
    rw[zhd (by rw[aF];exact hj),zca (by rw[aF];exact hj),ei,Qs,Qm,Uj,Uk,Qt]
    rfl
   refine k p5 _ bp ⟨?_,λe' br=>?_,by rw[zbl];exact R.nd⟩ λx o ex nx=>?_
   ·rw[zab,put_setE (r:=ins e.2.1 c n) gU]
   ·unfold setE at br
    obtain⟨e0,h0,rfl⟩:=Qk.mp br
    by_cases z:e0.1=e.1
    ·rw [if_pos z]
     rw[zad (Zc nd5),zab,el]
    ·rw [if_neg z]
     have r0:=R.ro e0 h0
     have nd0:e0.2.2≠d:=zay r0 R.dc (by intro z;cases z)
     rw[zad nd0,zad (zaa (k4 _ _ r0 (by simp)) h5)]
     exact k4 _ _ r0 (by simp)
   ·have nxd:x≠d:=fun z=>nx (by rw [z];exact Qb.mpr rfl)
    rw[zad nxd,zad (zaa (k4 _ _ ex (by simp)) h5)]
    exact k4 _ _ ex (by simp)
  cases c with
  |none =>
   refine⟨_,rfl,_,rfl,?_⟩
   refine iteF ?_
   exact fin 0 (Zi _) rfl
  |some x =>
   have hx:=hc x rfl
   obtain⟨i1,i2⟩:=zic hx
   refine⟨_,rfl,_,rfl,?_⟩
   refine iteT ?_
   refine⟨_,rfl,.inl ⟨rfl,_,SqL.of af⟩,_,rfl,e.2.2,_,_,_,rfl,rfl,af,rfl,zcc _,i1,i2,_,_,rfl,rfl,?_⟩
   have:=fin (e.2.1.idxOf x+1) (idx_lt hx) rfl
   have e1:((e.2.1.idxOf x+1:Nat):Int)=(e.2.1.idxOf x:Int)+1:=by lia
   rw[e1]at this
   exact this
end
end K21
end
section
namespace Wb
section
variable{α:Type}[DecidableEq α]
def itr(rs:Rs α)(s:α×α):Nat→α×α
 |0=>s
 |n+1=>stp rs (itr rs s n)
def IsSt(rs:Rs α)(s:α×α):Prop:=∃p∈rs,p.1=s.2∧s.1∈p.2
def ziv(rs:Rs α):List (α×α):=rs.flatMap λp=>p.2.map λx=>(x,p.1)
def mem_allSt{rs:Rs α}{s:α×α}:s∈ziv rs↔IsSt rs s:=by
 unfold ziv IsSt
 rw[Uz]
 constructor
 ·rintro ⟨p,hp,h⟩
  obtain⟨x,hx,rfl⟩:=Qk.mp h
  exact⟨p,hp,rfl,hx⟩
 ·rintro ⟨p,hp,e,hx⟩
  exact⟨p,hp,Qk.mpr ⟨s.1,hx,by rw[e]⟩⟩
def Clo(rs:Rs α):Prop:=∀s,IsSt rs s→IsSt rs (stp rs s)
theorem itr_st{rs:Rs α}(c:Clo rs){s:α×α}(h:IsSt rs s):∀n,IsSt rs (itr rs s n)
 |0=>h
 |n+1=>c _ (itr_st c h n)
def run(rs:Rs α)(s:α×α)(n:Nat):List (α×α):=(List.range n).map (itr rs s)
def run_succ(rs:Rs α)(s:α×α)(n:Nat):run rs s (n+1)=run rs s n++[itr rs s n]:=by
 unfold run;rw[List.range_succ,List.map_append];rfl
def zgc{l m:List (α×α)}(nd:l.Nodup)(h:∀x∈l,x∈m):l.length≤m.length:=by
 induction l generalizing m with
 |nil=>exact Zi _
 |cons a t ih =>
  rw[Qv]at nd
  have ha:=h a Qc
  have:=ih (m:=m.erase a) nd.2 λx hx=>(List.mem_erase_of_ne (λe=>nd.1 (by rw[←e];exact hx))).mpr (h x (Qh _ hx))
  rw[Yp ha]at this
  have hp:0<m.length:=Yc ha
  rw[Qx];lia
end
end Wb
namespace K21
open PySem L2 Wb
abbrev sFace:Stmt:=top 35
inductive IspFace(vs:List V)(H:Hp)(Q:VK):Prop
 |mk (d:Nc) (es:List Ent) (s:Str×Str) (h0:vs=[.ref d,.str s.1,.str s.2]) (h1:RAt H d es) (h2:IsSt (rsOf es) s) (h3:Clo (rsOf es)) (h4:(ziv (rsOf es)).length≤900) (h5:(∀e∈es,e.2.1.length≤900)) (h6:∀(l:Nc) (as:Nk) (n:Nat) (H':Hp),H l=none→H' l=some (.lst (as.map V.ref))→zar H' as (run (rsOf es) s n)→(run (rsOf es) s n).Nodup→0<n→itr (rsOf es) s n∈run (rsOf es) s n→Keep [] H H'→Q (.ref l) H'):IspFace vs H Q
def spFace:Sp:=λvs H Q _=>IspFace vs H Q
section
variable{P:Nj}{w:Nl}{K:Na}{mg:Ng}{base:Nm}
def zar.keep{H H':Hp}{as:Nk}{qs:Nr}(r:zar H as qs)(k:∀b x y,H b=some (.tup [x,y])→H' b=some (.tup [x,y])):zar H' as qs:=by
 induction r with
 |nil=>exact .nil
 |cons h t ih=>exact .cons (k _ _ _ h) ih
def zar.snoc{H:Hp}{as:Nk}{qs:Nr}{a:Nc}{q:Str×Str}(r:zar H as qs)(h:H a=some (.tup [.str q.1,.str q.2])):zar H (as++[a]) (qs++[q]):=by
 induction r with
 |nil=>exact .cons h .nil
 |cons h' t ih=>exact .cons h' ih
def scFace:zaq ["_law_rounds_here", "_law_corner", "_law_one", "_law_found", "_law_step"] ["_law_rounds_here", "_law_corner", "_law_one"] (zag sFace):=⟨rfl,rfl,rfl,by decide +kernel,rfl,by decide +kernel,by decide +kernel⟩
def ok_face{f fb:Nc}{fd fdb:Nv}(F:Fun K "_law_face" "_law_face" sFace f fd)(FB:Fun K "_law_behind" "_law_behind" zfz fb fdb)(bB:Binds K fdb ["_law_row", "_law_name"] [])(mB:mg "_law_behind" = some (.ref fb))(a9:mg "len" = none) :
  FnOk P w K mg base CX0 2 f fd ["_law_rounds_here", "_law_corner", "_law_one"] spFace:=by
 have GB:FnOk P w K mg base CX0 1 fb fdb ["_law_row", "_law_name"] spBehind:=ok_behind FB a9
 refine F.ok scFace (λvs H Q E h=>?_) (λcdv A outer s H vs Q E hr h=>?_)
 ·obtain ⟨d,es,s,rfl,_⟩:=h
  rfl
 ·obtain ⟨d,es,st,rfl,R,aQ,pQ,hN,aR,k⟩:=h
  have hu:=zb9 hr
  refine⟨_,zae (zam (i:=3) scFace.nd rfl (Or.inl rfl) (zbh zaf))
   (zae (zam (i:=4) scFace.nd rfl (Or.inl rfl) (zdr (zac (pv 1) (zac (pv 2) zaf))))
   (zae (zdl Zh (zas (zgu hu) (pv 4) (pv 3) rfl)
    (zae (za6 (zd9 Zm Yo Yn zb0 (pv 3) (zac (pv 4) zaf)))
    (zah (zam (i:=4) scFace.nd rfl (Or.inl rfl) (zdr (zac (zck ix_tup (pv 4) zal (fun _ _=>rfl))
     (zac (zak GB hr rfl mB FB.kp bB .nil zaw (zac (zat hu (pv 0) (zck ix_tup (pv 4) zal (λ_ _=>rfl)) (λ_ _=>rfl)) (zac (zck ix_tup (pv 4) zal (λ_ _=>rfl)) zaf))) zaf)))))))
   (zah (zbe (pv 3))))),?_⟩
  refine⟨(by show 0≤sizeLine;decide),λl hl=>?_⟩
  refine⟨_,rfl,_,rfl,(by show 2≤sizeLine;decide),λt0 ht0=>?_⟩
  have nlt:l≠t0:=zaa (o:=_) zab ht0
  have k0:Keep [l] H (upd (upd H l (.lst [])) t0 (.tup [.str st.1,.str st.2])):=(Keep.new hl).trans (Keep.new ht0)
  refine⟨λm σ H1=>Ex3 λ(n:Nat) (t:Nc) (as:Nk)=>Aj7 (m=901-n) (σ=[some (.ref d),some (.str st.1),some (.str st.2),some (.ref l),some (.ref t)]) (Keep [l] H H1) (H1 l=some (.lst (as.map V.ref))) (zar H1 as (run (rsOf es) st n)) ((run (rsOf es) st n).Nodup) (H1 t=some (.tup [.str (itr (rsOf es) st n).1,.str (itr (rsOf es) st n).2])),
   ⟨_,0,t0,[],rfl,rfl,k0,by rw[zad nlt];exact zab,.nil,Zk,zab⟩,?_⟩
  rintro m σ H1 ⟨n,t,as,rfl,rfl,k1,aS,pa,nd,ht⟩
  refine⟨_,rfl,_,rfl,t,l,itr (rsOf es) st n,as,run (rsOf es) st n,rfl,rfl,ht,SqL.of aS,pa,_,rfl,?_⟩
  have a9:as.length=n:=by
   have:=Yb pa
   unfold Wb.run at this
   rw[Qa,Ku]at this
   exact this
  by_cases ai:itr (rsOf es) st n∈run (rsOf es) st n
  ·-- it was there: the end
   have e:(if(true:Bool)=true then !decide (itr (rsOf es) st n∈run (rsOf es) st n) else decide (itr (rsOf es) st n∈run (rsOf es) st n))=false:=by
    rw[if_pos rfl,decide_eq_true ai];rfl
   rw[e]
   refine iteF ?_
   refine⟨_,rfl,?_⟩
   have hn0:0<n:=by
    rcases Nat.eq_zero_or_pos n with z | z
    ·rw[z]at ai;cases ai
    ·exact z
   refine k l as n H1 hl aS pa nd hn0 ai λc o ec _=>k1 c o ec λz=>?_
   rw[Qb.mp z,hl]at ec
   cases ec
  ·have e:(if (true:Bool)=true then !decide (itr (rsOf es) st n∈run (rsOf es) st n) else decide (itr (rsOf es) st n∈run (rsOf es) st n))=true:=by
    rw[if_pos rfl,decide_eq_false ai];rfl
   rw[e]
   refine iteT ?_
   have nd':(run (rsOf es) st (n+1)).Nodup:=by
    rw[run_succ,Qy]
    refine⟨nd,Qv.mpr ⟨by simp,Zk⟩,λa ha b hb=>?_⟩
    rw[Qb.mp hb]
    exact λz=>ai (z▸ha)
   have hn:n+1≤900:=by
    have:=zgc nd' (m:=ziv (rsOf es)) λx hx=>by
     obtain⟨i,_,rfl⟩:=Qk.mp hx
     exact mem_allSt.mpr (itr_st pQ aQ i)
    unfold Wb.run at this
    rw[Qa,Ku]at this
    exact Zd ‹_› ‹_›
   obtain⟨p,hp,ep,o9⟩:=itr_st pQ aQ n
   obtain⟨en,az,rfl⟩:=Qk.mp hp
   have sT:(itr (rsOf es) st n).1∈en.2.1:=o9
   have ep':en.1=(itr (rsOf es) st n).2:=ep
   have nld:d≠l:=zaa R.dc hl
   have jV:=k1 _ _ R.dc (by simpa using nld)
   have aH:=R.ro en az
   have nlr:en.2.2≠l:=zaa aH hl
   have oj:=k1 _ _ aH (by simpa using nlr)
   have ntl:t≠l:=zay ht aS (by intro z;cases z)
   have aG:sizeLine=16777216:=sizeLine_eq
   refine⟨_,λ σ' H' z=>z,?_⟩
   refine⟨_,rfl,.inl ⟨rfl,_,SqL.of aS⟩,_,rfl,l,_,_,rfl,rfl,aS,by rw[Qa];lia,?_⟩
   generalize aU:upd H1 l (.lst (as.map V.ref++[V.ref t]))=H2
   have qJ:H2 t=some (.tup [.str (itr (rsOf es) st n).1,.str (itr (rsOf es) st n).2]):=by rw[←aU,zad ntl];exact ht
   have ah:H2 l=some (.lst ((as++[t]).map V.ref)):=by rw[←aU,zab,Qs];rfl
   have mH:H2 d=some (.dK (es.map λe=>((Sum.inr e.1:Key),V.ref e.2.2))):=by rw[←aU,zad nld];exact jV
   have dZ:H2 en.2.2=some (.lst (en.2.1.map V.str)):=by rw[←aU,zad nlr];exact oj
   have k2:Keep [l] H H2:=by rw[←aU];exact k1.trans (Keep.wr Qc)
   have gc:zar H2 (as++[t]) (run (rsOf es) st (n+1)):=by
    rw[run_succ]
    refine zar.snoc (zar.keep pa λb x y eb=>?_) qJ
    rw[←aU,zad (zay eb aS (by intro z;cases z))];exact eb
   have i0:∀x y:V,atI [x,y] ((0:Nat):Int)=some x:=λx y=>zbo rfl
   have i1:∀x y:V,atI [x,y] ((1:Nat):Int)=some y:=λx y=>zbo rfl
   refine⟨_,rfl,t,_,_,_,rfl,rfl,SqT.of qJ,i1 _ _,?_⟩
   refine⟨_,rfl,_,rfl,t,_,_,_,rfl,rfl,SqT.of qJ,i1 _ _,d,.ref en.2.2,rfl,?_,?_⟩
   ·have:=DGet.k (k:=Sum.inr en.1) mH
    rw[zbv R.nd az]at this
    rw[←ep']
    exact this
   refine⟨_,rfl,t,_,_,_,rfl,rfl,SqT.of qJ,i0 _ _,?_⟩
   refine⟨en.2.2,en.2.1,(itr (rsOf es) st n).1,rfl,dZ,sT,Zd (aR en az) (by decide),?_⟩
   refine⟨(by show 2≤sizeLine;decide),λt' mf=>?_⟩
   have dY:row (rsOf es) (itr (rsOf es) st n).2=en.2.1:=by rw[←ep'];exact zbb R.nd az
   have enx:itr (rsOf es) st (n+1)=((itr (rsOf es) st n).2,nxt en.2.1 (itr (rsOf es) st n).1):=by
    show stp (rsOf es) (itr (rsOf es) st n)=_
    unfold stp;rw[dY]
   have nl':l≠t':=zaa ah mf
   refine⟨900-n,by lia,n+1,t',as++[t],by lia,rfl,k2.trans (Keep.new mf),by rw[zad nl'];exact ah,zar.keep gc λb x y eb=>?_,nd',by rw[zab,enx]⟩
   rw[zad (zaa eb mf)];exact eb
end
end K21
end
section
namespace Wb
section
variable{α:Type}[DecidableEq α]
structure Gen(G:Rs α→Prop):Prop where
 clo:∀rs,G rs→Clo rs
 nd:∀rs,G rs→(rs.map (·.1)).Nodup
 sub:∀rs,G rs→∀p∈rs,p.2.Nodup∧∀x∈p.2,x∈rs.map (·.1)
 sy:∀rs,G rs→∀p∈rs,∀x∈p.2,p.1∈row rs x
 nil:G []
 new:∀rs x,G rs→x∉rs.map (·.1)→G (rs++[(x,[])])
 leaf:∀rs x p c,G rs→x∉rs.map (·.1)→p∈rs→(∀y,c=some y→y∈p.2)→(c=none→p.2=[])→G (zbk (zbk (rs++[(x,[])]) p.1 (ins p.2 c x)) x [p.1])
 tie:∀rs c p n,G rs→p∈rs→c∈p.2→(itr rs (c,p.1) n).2≠p.1→(itr rs (c,p.1) n).2∉p.2 →
  G (zbk (zbk rs p.1 (ins p.2 (some c) (itr rs (c,p.1) n).2)) (itr rs (c,p.1) n).2 (ins (row rs (itr rs (c,p.1) n).2) (some (itr rs (c,p.1) n).1) p.1))
def zba{l m:List α}(nd:l.Nodup)(h:∀x∈l,x∈m):l.length≤m.length:=by
 induction l generalizing m with
 |nil=>exact Zi _
 |cons a t ih =>
  rw[Qv]at nd
  have ha:=h a Qc
  have:=ih (m:=m.erase a) nd.2 λx hx=>(List.mem_erase_of_ne (λe=>nd.1 (by rw[←e];exact hx))).mpr (h x (Qh _ hx))
  rw[Yp ha]at this
  have hp:0<m.length:=Yc ha
  rw[Qx];lia
def Gen.rows{G:Rs α→Prop}(g:Gen G){rs:Rs α}(h:G rs):∀p∈rs,p.2.length≤rs.length:=λp hp=>by
 obtain⟨a,b⟩:=g.sub rs h p hp
 have:=zba a b
 rwa[Qa]at this
def Gen.steps{G:Rs α→Prop}(g:Gen G){rs:Rs α}(h:G rs)(hl:rs.length≤30):(ziv rs).length≤900:=by
 have key:∀(l:Rs α) (n:Nat),(∀p∈l,p.2.length≤n)→(ziv l).length≤l.length*n:=by
  intro l n
  induction l with
  |nil=>intro _;simp[ziv]
  |cons a t ih =>
   intro hh
   have h1:=ih λp hp=>hh p (Qh _ hp)
   have h2:=hh a Qc
   unfold ziv at h1 ⊢
   rw[Uu,Qo,Qa,Qx,Nat.succ_mul]
   lia
 have:=key rs rs.length (g.rows h)
 have:rs.length*rs.length≤30*30:=Nat.mul_le_mul hl hl
 exact Zd ‹_› ‹_›
end
end Wb
namespace K21
open PySem L2 Wb
abbrev sTie:Stmt:=top 36
def zc7{H:Hp}{p a:Nc}{b m:Int}{zs:Nd}(h:Pot H p b m)(ha:H a=some (.lst (zs.map V.str))):a≠p:=zay ha h.1 (by
 intro z
 have z':zs.map V.str=[.int b,.int m]:=by injection z
 cases zs with
 |nil=>cases z'
 |cons x t=>rw[Qm]at z';injection z' with z1 _;cases z1)
def zg4{H:Hp}{p d:Nc}{b m:Int}{kvs:List (Key×V)}(h:Pot H p b m)(hd:H d=some (.dK kvs)):d≠p:=zay hd h.1 (by intro z;cases z)
def RAt.pot{H H':Hp}{d p:Nc}{b m:Int}{es:List Ent}(r:RAt H d es)(h:Pot H p b m)(k:Keep [p] H H'):RAt H' d es :=
 r.keep k (by simpa using zg4 h r.dc) λe he=>by simpa using zc7 h (r.ro e he)
def Pot.keep{H H':Hp}{p:Nc}{b m:Int}{xs:Nk}(h:Pot H p b m)(k:Keep xs H H')(hp:p∉xs):Pot H' p b m:=⟨k _ _ h.1 hp,h.2⟩
def zbt{H H':Hp}{p:Nc}(h:∀c o,H c=some o→c≠p→H' c=some o):Keep [p] H H':=λc o e n=>h c o e λz=>n (by rw[z];exact Qb.mpr rfl)
inductive IspTie(G:Rs Str→Prop)(vs:List V)(H:Hp)(Q:VK):Prop
 |mk (p d:Nc) (b m:Int) (es:List Ent) (h0:vs=[.ref p,.ref d]) (h1:Pot H p b m) (h2:RAt H d es) (h3:G (rsOf es)) (h4:es.length≤30) (h5:∀(b' m':Int) (ak:List Ent) (H':Hp),Pot H' p b' m'→RAt H' d ak→G (rsOf ak)→ak.map (·.1)=es.map (·.1)→Keep [p,d] H H'→Q .non H'):IspTie G vs H Q
def spTie(G:Rs Str→Prop):Sp:=λvs H Q _=>IspTie G vs H Q
section
variable{P:Nj}{w:Nl}{K:Na}{mg:Ng}{base:Nm}
def scTie:zaq ["_law_pot_here", "_law_rounds_here", "_law_some", "_law_one", "_law_corner", "_law_steps", "_law_begin", "_law_after", "_law_other"] ["_law_pot_here", "_law_rounds_here"] (zag sTie):=⟨rfl,rfl,rfl,by decide +kernel,rfl,by decide +kernel,by decide +kernel⟩
abbrev csTie:Scope:=scOf (aOf 0 (eOf (sAt sTie 0)))
def csTie_k:csTie.kind=.function:=by rfl
def csTie_c:∀y∈csTie.names,y.2≠.cell:=by decide +kernel
def csTie_n:∀y∈csTie.names,y.2=.local→csTie.names.lookup y.1=some .local:=by decide +kernel
def csTie_f:∀y∈csTie.names,y.2=.free→(zag sTie).names.lookup y.1=some .cell∨(zag sTie).names.lookup y.1=some .free:=by decide +kernel
def csTie_l:csTie.names.lookup ("_law_rounds_here" : Str)=some NameKind.free:=by decide +kernel
def zey{x:Str}{zs:Nd}:inV (.str x) (zs.map V.str)=decide (x∈zs):=by
 unfold inV
 rw[Yf,Ym,decide_eq_true_iff]
 constructor
 ·rintro ⟨v,hv,e⟩
  obtain⟨y,hy,rfl⟩:=Qk.mp hv
  have e':y=x:=eq_of_beq e
  rw[←e'];exact hy
 ·intro h
  exact⟨.str x,Qk.mpr ⟨x,h,rfl⟩,beq_self_eq_true x⟩
def za5{c:Bool}{A B:Prop}(h:c=false)(b:B):if c=true then A else B:=by rw[h];exact iteF b
def zb6{c:Bool}{A B:Prop}(h:c=true)(a:A):if c=true then A else B:=by rw[h];exact iteT a
def op_ne_nilK{X:Cx}{K:Na}(hK:X.K=K)(hu:X.A.units<cLine):OpR X (compareOp .NotEq) (rNil true K):=hK▸zf7 hu
def nd2:(["_law_name", "_law_rounds_here"]:List Str).Nodup:=by decide +kernel
def ok_tie{G:Rs Str→Prop}(g:Gen G){f ft fb ff fp:Nc}{fd fdt fdb fdf fdp:Nv}(F:Fun K "_law_tie" "_law_tie" sTie f fd)(FT:Fun K "_law_take" "_law_take" zhr ft fdt)(bT:Binds K fdt ["_law_pot_here", "_law_many"] [])(mT:mg "_law_take" = some (.ref ft))(FB:Fun K "_law_behind" "_law_behind" zfz fb fdb)(bB:Binds K fdb ["_law_row", "_law_name"] [])(mB:mg "_law_behind" = some (.ref fb))(FF:Fun K "_law_face" "_law_face" sFace ff fdf)(bF:Binds K fdf ["_law_rounds_here", "_law_corner", "_law_one"] [])(mF:mg "_law_face" = some (.ref ff))(FP:Fun K "_law_put" "_law_put" sPut fp fdp)(bP:Binds K fdp ["_law_rounds_here", "_law_one", "_law_corner", "_law_other"] [])(mP:mg "_law_put" = some (.ref fp))(a9:mg "len" = none)(ay:mg "sorted" = none)(pM:mg "divmod" = none):FnOk P w K mg base CX0 3 f fd ["_law_pot_here", "_law_rounds_here"] (spTie G):=by
 have GT:FnOk P w K mg base CX0 1 ft fdt ["_law_pot_here", "_law_many"] zfu:=zh3 FT pM
 have GF:FnOk P w K mg base CX0 2 ff fdf ["_law_rounds_here", "_law_corner", "_law_one"] spFace:=ok_face FF FB bB mB a9
 have GP:FnOk P w K mg base CX0 1 fp fdp ["_law_rounds_here", "_law_one", "_law_corner", "_law_other"] spPut:=ok_put FP
 refine F.ok scTie (λvs H Q E h=>?_) (λcdv A outer s0 H0 vs Q E hr h=>?_)
 ·obtain ⟨p,d,b,m,es,rfl,_⟩:=h
  rfl
 ·obtain ⟨p,d,b,m,es,rfl,hp,R,hG,aN,k⟩:=h
  have hu:=zb9 hr
  have eQ:=Ut hu
  have aH:Room 1 _:=hr.mono (by decide)
  refine⟨_,zae (zam (i:=2) scTie.nd rfl (Or.inl rfl) (zai zc4 (by rfl) ay Yd (zac
    (zh2 (zf3 (M:=["_law_name", "_law_rounds_here"]) (ix:=[none,some 1]) ⟨csTie_k,csTie_c,csTie_n,csTie_f,rfl,by decide +kernel,fun j i x h1 h2=>by
      match j,h1,h2 with
      |0,_,h2=>cases h2
      |1,h1,h2=>cases h1;cases h2;exact⟨rfl,csTie_l⟩
      |n+2,h1,_=>cases h1⟩ rfl (zdw (pv 1)) (λC a0 ex s H=>zaj (i:=0) nd2 rfl (Or.inl rfl) (Or.inr rfl))
     (λC a0 ex s H=>zes (zas (op_ne_nilK (K:=K) rfl eQ) (zat (by exact hu) (pv 1) (pv 0) (λ_ _=>rfl)) (zbh zaf) (zbf _))) (λC a0 ex s H=>pv 0))) zaf)))
   (zae (zb5 (zas (op_eq_nil eQ) (pv 2) (zbh zaf) (zbf _)) (zah ps_retN) za0)
   (zae (zam (i:=3) scTie.nd rfl (Or.inl rfl) (zck zbu (pv 2) (zak GT aH rfl mT FT.kp bT .nil zaw (zac (pv 0) (zac (zai zan (by rfl) a9 Zx (zac (pv 2) zaf)) zaf))) (λ_ _=>rfl)))
   (zae (zam (i:=4) scTie.nd rfl (Or.inl rfl) (zck zbu (zat hu (pv 1) (pv 3) (λ_ _=>rfl)) (zak GT aH rfl mT FT.kp bT .nil zaw (zac (pv 0) (zac (zai zan (by rfl) a9 Zx (zac (zat hu (pv 1) (pv 3) (λ_ _=>rfl)) zaf)) zaf))) (λ_ _=>rfl)))
   (zae (zam (i:=5) scTie.nd rfl (Or.inl rfl) (zak GF hr rfl mF FF.kp bF .nil zaw (zac (pv 1) (zac (pv 4) (zac (pv 3) zaf)))))
   (zae (zam (i:=6) scTie.nd rfl (Or.inl rfl) (zak GT aH rfl mT FT.kp bT .nil zaw (zac (pv 0) (zac (zai zan (by rfl) a9 Zx (zac (pv 5) zaf)) zaf))))
   (zah (zbc Zh rfl (zav (zbd zea (zbq zcd (pv 5) (zb8 (pv 6)) zby) (zbq zcd (pv 5) zby (zb8 (pv 6)))))
     (ze8 rfl (zax (zaj (i:=7) scTie.nd rfl (Or.inl rfl)) (zax (zaj (i:=8) scTie.nd rfl (Or.inl rfl)) zcj)))
    (zah (zb5 (PW.pt (pw_and (zas op_ne (pv 8) (pv 3) (zbf _)) (pw_and1 (zas zfa (pv 8) (zat hu (pv 1) (pv 3) (fun _ _=>rfl)) rfl))))
     (zae (za6 (zak GP aH rfl mP FP.kp bP .nil zaw (zac (pv 1) (zac (pv 3) (zac (pv 4) (zac (pv 8) zaf))))))
     (zae (za6 (zak GP aH rfl mP FP.kp bP .nil zaw (zac (pv 1) (zac (pv 8) (zac (pv 7) (zac (pv 3) zaf))))))
     (zah ps_retN))) za0))))))))),?_⟩
  have nfz:∀o' u',H0 d≠some (.frz o' u'):=λo' u' z=>by rw[R.dc]at z;cases z
  have aG:sizeLine=16777216:=sizeLine_eq
  have gM:(rsOf es).length=es.length:=Qa ..
  have af:∀e∈es,e.2.1.length≤30:=λe he=>by
   have:=g.rows hG (e.1,e.2.1) (Qk.mpr ⟨e,he,rfl⟩)
   rw[gM]at this
   exact Zd this aN
  have sX:=g.steps hG (by rw[gM];exact aN)
  refine⟨_,rfl,d,_,rfl,R.dc,λo=>⟨λi m ys τ H1=>Aj6 (m=es.length-i) (i≤es.length) (ys=((es.take i).filter λe=>!e.2.1.isEmpty).map (λe=>V.str e.1)) (Ex1 λx=>τ=[x,some (.ref d)]) (H1 d=some (.frz o (.dK (es.map λe=>((Sum.inr e.1:Key),V.ref e.2.2))))) (Keep [d] H0 H1),
   ⟨es.length,by simp,Zi _,rfl,⟨none,rfl⟩,zab,Keep.wr Qc⟩,?_⟩⟩
  rintro i m1 ys τ H1 ⟨rfl,hi,rfl,⟨x0,rfl⟩,hz,k1⟩
  by_cases aa:i<es.length
  ·refine .inr ⟨⟨hz,by rw [Qa];exact aa⟩,?_,?_⟩
   ·have h1:(((es.take i).filter fun e=>!e.2.1.isEmpty).map (fun e=>V.str e.1)).length≤es.length:=by
     rw[Qa]
     exact Zd (Ur _ _) (by rw[Zn];lia)
    lia
   ·rintro x H' ⟨rfl,pr,e1,rfl⟩
    have g1:pr=((Sum.inr es[i].1:Key),V.ref es[i].2.2):=by
     rw[Qz,Qg aa]at e1
     exact(Qp e1).symm
    subst g1
    have aT:es[i]∈es:=Qq aa
    have fR:=R.ro _ aT
    have nri:es[i].2.2≠d:=zay fR R.dc (by intro z;cases z)
    have c7:=k1 _ _ fR (by simpa using nri)
    refine⟨_,rfl,_,rfl,d,.ref es[i].2.2,rfl,.inl ⟨_,Sum.inr es[i].1,.inr ⟨o,hz⟩,rfl,(zbv R.nd aT).symm⟩,(by show 0≤sizeLine;decide),λq hq=>?_⟩
    have nq:es[i].2.2≠q:=zaa c7 hq
    have nqd:d≠q:=zaa hz hq
    refine⟨es[i].2.2,q,_,rfl,rfl,SqL.of (by rw[zad nq];exact c7),SqL.of zab,_,rfl,?_⟩
    have hk2:Keep [d] H0 (upd H' q (.lst [])):=k1.trans (Keep.new hq)
    have fO:(upd H' q (.lst [])) d=some (.frz o (.dK (es.map λe=>((Sum.inr e.1:Key),V.ref e.2.2)))):=by rw[zad nqd];exact hz
    have aP:es.take (i+1)=es.take i++[es[i]]:=Qn aa
    have jS:(es[i].2.1.map V.str).isEmpty=es[i].2.1.isEmpty:=by cases es[i].2.1<;>rfl
    rw[if_pos rfl,jS]
    by_cases hb:es[i].2.1.isEmpty=true
    ·rw [hb]
     refine iteF ⟨_,?_,rfl,aa,?_,⟨_,rfl⟩,fO,hk2⟩
     ·exact zar1 ‹_›
     ·rw[aP,Yq,Zu (by rw[hb];decide),Uh,Zv]
    ·have g9:es[i].2.1.isEmpty=false:=by simpa using hb
     rw[g9]
     refine iteT ⟨_,rfl,_,?_,rfl,aa,?_,⟨_,rfl⟩,fO,hk2⟩
     ·exact zar1 ‹_›
     ·rw [aP,Yq,Zt (by rw [g9];decide),Uh,Qs]
      rfl
  ·have fA:i=es.length:=by exact zar3 ‹_› ‹_›
   subst fA
   refine .inl ⟨⟨hz,by rw[Qa];exact Qf _⟩,λD hD=>?_⟩
   have ndD:d≠D:=zaa hz hD
   rw[Qr (Qf _)]
   refine⟨d,o,_,(by rw[zad ndD];exact hz),nfz,?_⟩
   generalize aU:upd (upd H1 D (.lst ((es.filter λe=>!e.2.1.isEmpty).map λe=>V.str e.1))) d (.dK (es.map λe=>((Sum.inr e.1:Key),V.ref e.2.2)))=H2
   have k2:Keep [] H0 H2:=λc u ec _=>by
    rw[←aU]
    by_cases au:c=d
    ·subst au
     rw[zab,←R.dc];exact ec
    ·have fH:=k1 c u ec (by simpa using au)
     rw[zad au,zad (zaa fH hD)];exact fH
   have dr:H2 D=some (.lst ((es.filter λe=>!e.2.1.isEmpty).map λe=>V.str e.1)):=by rw[←aU,zad (Zc ndD)];exact zab
   have hDm:((es.filter λe=>!e.2.1.isEmpty).map λe=>V.str e.1)=((es.filter λe=>!e.2.1.isEmpty).map (·.1)).map V.str:=by rw[Zq];rfl
   refine⟨D,(es.filter λe=>!e.2.1.isEmpty).map (·.1),rfl,SqL.of (by rw[dr,hDm]),λl ws hl ae ao=>?_⟩
   generalize mY:upd H2 l (.lst (ws.map V.str))=H3
   have k3:Keep [] H0 H3:=by rw[←mY];exact k2.trans (Keep.new hl)
   have de:H3 l=some (.lst (ws.map V.str)):=by rw[←mY];exact zab
   have R3:RAt H3 d es:=R.keep k3 (by simp) (λ_ _=>by simp)
   have aV:Pot H3 p b m:=hp.keep k3 (by simp)
   clear mY aU dr hz k1 hD hl hDm
   refine⟨_,rfl,(by show 0≤sizeLine;decide),λq hq=>?_⟩
   have nlq:l≠q:=zaa de hq
   refine⟨l,q,_,rfl,rfl,SqL.of (by rw[zad nlq];exact de),SqL.of zab,_,rfl,?_⟩
   generalize qf:upd H3 q (.lst [])=H4
   have k4:Keep [] H0 H4:=by rw[←qf];exact k3.trans (Keep.new hq)
   have cE:H4 l=some (.lst (ws.map V.str)):=by rw[←qf,zad nlq];exact de
   have R4:RAt H4 d es:=R.keep k4 (by simp) (λ_ _=>by simp)
   have aI:Pot H4 p b m:=hp.keep k4 (by simp)
   clear qf de R3 aV k3
   by_cases iV:ws=[]
   ·subst iV
    refine iteT ?_
    exact k b m es H4 aI R4 hG rfl (k4.sub (by simp))
   ·have jS:(ws.map V.str).isEmpty=false:=by
     cases ws with
     |nil=>exact absurd rfl iV
     |cons _ _=>rfl
    refine za5 jS ?_
    have eZ:0<ws.length:=Ul.mpr iV
    have cR:ws.length≤30:=by
     rw[ae.length_eq,Qa]
     exact Zd (Ur _ _) aN
    refine⟨_,rfl,_,rfl,_,rfl,l,_,rfl,.inl (SqL.of cE),p,b,m,_,rfl,aI,(by rw[Qa];exact zar9 ‹_›),(by rw[Qa];lia),λj5 b5 m5 H5 qW lm ax ku=>?_⟩
    have k5:=zbt ku
    have cr:=k5 _ _ cE (by simpa using zc7 aI cE)
    have R5:=R4.pot aI k5
    obtain⟨j,rfl⟩:=Yl qW
    have hj:j<ws.length:=by rw[Qa]at lm;exact zar8 ‹_›
    refine⟨l,_,_,_,rfl,rfl,SqL.of cr,zbo (by rw[Qz,Qg hj];rfl),?_⟩
    obtain⟨en,az,aD⟩:=Qk.mp (ae.mem_iff.mp (Qq hj))
    obtain⟨aO,cI⟩:=Zj.mp az
    have ap:en.2.1≠[]:=by
     intro z
     rw[z]at cI
     cases cI
    have ow:0<en.2.1.length:=Ul.mpr ap
    have aR:=af en aO
    have lQ:DGet H5 d (.str ws[j]) (some (.ref en.2.2)):=by
     have:=DGet.k (k:=Sum.inr en.1) R5.dc
     rw[zbv R5.nd aO]at this
     rw[←aD]
     exact this
    have qN:=R5.ro en aO
    refine⟨_,rfl,_,rfl,d,_,rfl,lQ,_,rfl,_,rfl,_,rfl,d,_,rfl,lQ,en.2.2,_,rfl,.inl (SqL.of qN),p,b5,m5,_,rfl,ax,(by rw[Qa];exact zar9 ‹_›),(by rw[Qa];lia),λj6 b6 m6 H6 hj6 ui aX rY=>?_⟩
    have k6:=zbt rY
    have R6:=R5.pot ax k6
    have tF:=R6.ro en aO
    have u7:=k6 _ _ cr (by simpa using zc7 ax cr)
    obtain⟨i6,rfl⟩:=Yl hj6
    have hi6:i6<en.2.1.length:=by rw[Qa]at ui;exact zar8 ‹_›
    refine⟨en.2.2,_,_,_,rfl,rfl,SqL.of tF,zbo (by rw[Qz,Qg hi6];rfl),?_⟩
    have r6:en.2.1[i6]∈en.2.1:=Qq hi6
    generalize eI:en.2.1[i6]=cc at r6
    rw[←aD]
    have aQ:IsSt (rsOf es) (cc,en.1):=⟨(en.1,en.2.1),Qk.mpr ⟨en,aO,rfl⟩,rfl,r6⟩
    refine⟨_,rfl,_,rfl,_,rfl,d,es,(cc,en.1),rfl,R6,aQ,g.clo _ hG,sX,λe he=>Zd (af e he) (by decide),λl7 as n7 H7 hl7n mv pa7 nd7 hn7 hin7 k7=>?_⟩
    have R7:RAt H7 d es:=R6.keep k7 (by simp) (λ_ _=>by simp)
    have bw:Pot H7 p b6 m6:=aX.keep k7 (by simp)
    have jq:as.length=n7:=by
     have:=Yb pa7
     unfold Wb.run at this
     rw[Qa,Ku]at this
     exact this
    have hn9:n7≤900:=by
     have:=zgc nd7 (m:=ziv (rsOf es)) λx hx=>by
      obtain⟨i,_,rfl⟩:=Qk.mp hx
      exact mem_allSt.mpr (itr_st (g.clo _ hG) aQ i)
     unfold Wb.run at this
     rw[Qa,Ku]at this
     exact Zd ‹_› ‹_›
    refine⟨_,rfl,_,rfl,l7,_,rfl,.inl (SqL.of mv),p,b6,m6,_,rfl,bw,(by rw[Qa];lia),(by rw[Qa];lia),λj8 b8 m8 H8 hj8 hj8' hp8 lX=>?_⟩
    have k8:=zbt lX
    have R8:=R7.pot bw k8
    have nl7:l7≠p:=zay mv bw.1 (by
     intro z
     have z':as.map V.ref=[.int b6,.int m6]:=by injection z
     cases as with
     |nil=>cases z'
     |cons x t=>rw[Qm]at z';injection z' with z1 _;cases z1)
    have iF:=k8 _ _ mv (by simpa using nl7)
    have pa8:zar H8 as (Wb.run (rsOf es) (cc,en.1) n7):=zar.keep pa7 λc x y ec=>k8 c _ ec (by simpa using zay ec bw.1 (by intro z;cases z))
    obtain⟨i8,rfl⟩:=Yl hj8
    have qX:i8≤(as.map V.ref).length:=by lia
    refine⟨_,rfl,_,rfl,_,rfl,l7,_,rfl,SqL.of iF,λq1 cL=>?_⟩
    have n71:l7≠q1:=zaa iF cL
    refine⟨_,rfl,_,rfl,_,rfl,l7,_,rfl,SqL.of (by rw[zad n71];exact iF),λq2 bm=>?_⟩
    have dS:q1≠q2:=zaa (o:=_) zab bm
    refine⟨q1,q2,_,_,rfl,rfl,(by rw[zad dS];exact zab),zab,?_,λq3 tI=>?_⟩
    ·have c1:=za2 (as.map V.ref) (some (i8:Int)) none
     have c2:=za2 (as.map V.ref) none (some (i8:Int))
     rw[Qa]at c1 c2
     lia
    have ecut:cutV (as.map V.ref) (some (i8:Int)) none++cutV (as.map V.ref) none (some (i8:Int))=(as.drop i8++as.take i8).map V.ref:=by
     rw[zca qX,zhd qX,Qs,Uk,Uj]
    rw[ecut]
    generalize hH9:upd (upd (upd H8 q1 (.lst (cutV (as.map V.ref) (some (i8:Int)) none))) q2 (.lst (cutV (as.map V.ref) none (some (i8:Int))))) q3 (.lst ((as.drop i8++as.take i8).map V.ref))=H9
    have k9:Keep [] H8 H9:=by rw[←hH9];exact((Keep.new cL).trans (Keep.new bm)).trans (Keep.new tI)
    have hq9:H9 q3=some (.lst ((as.drop i8++as.take i8).map V.ref)):=by rw[←hH9];exact zab
    have R9:RAt H9 d es:=R8.keep k9 (by simp) (λ_ _=>by simp)
    have qR:Pot H9 p b8 m8:=hp8.keep k9 (by simp)
    have pa9:zar H9 as (Wb.run (rsOf es) (cc,en.1) n7):=zar.keep pa8 λc x y ec=>k9 c _ ec (by simp)
    have kall:Keep [p,d] H0 H9:=by
     have s1:∀x∈([]:List Addr),x∈[p,d]:=by simp
     have s2:∀x∈[p],x∈[p,d]:=by simp
     exact(((((k4.sub s1).trans (k5.sub s2)).trans (k6.sub s2)).trans (k7.sub s1)).trans (k8.sub s2)).trans (k9.sub s1)
    have hr9:=R9.ro en aO
    have dg9:DGet H9 d (.str en.1) (some (.ref en.2.2)):=by
     have:=DGet.k (k:=Sum.inr en.1) R9.dc
     rw[zbv R9.nd aO]at this
     exact this
    refine⟨q3,rfl,⟨_,SqL.of hq9⟩,zbr (xs:=(as.drop i8++as.take i8).map V.ref) (λi σ H=>Aj2 (H=H9) (Ex2 λx y=>σ=[some (.ref p),some (.ref d),some (.ref l),some (.str en.1),some (.str cc),some (.ref l7),some (.int i8),x,y]))
     ⟨rfl,none,none,rfl⟩ (λi σ H _ hh=>by rw[hh.1];exact SqL.of hq9) ?_ ?_⟩
    ·rintro i x σ H hx ⟨rfl,x7,x8,rfl⟩
     obtain⟨a,ha,rfl⟩:∃a∈as,x=V.ref a:=by
      have:=Yv hx
      obtain⟨a,ha,e⟩:=Qk.mp this
      refine⟨a,?_,e.symm⟩
      rcases Qe.mp ha with z | z
      ·exact Ui z
      ·exact We z
     obtain⟨nn,hnn⟩:∃nn,H a=some (.tup [.str (itr (rsOf es) (cc,en.1) nn).1,.str (itr (rsOf es) (cc,en.1) nn).2]):=by
      have key:∀{bs:Nk} {qs:Nr},zar H bs qs→a∈bs→∃q∈qs,H a=some (.tup [.str q.1,.str q.2]):=by
       intro bs qs r
       induction r with
       |nil=>intro h;cases h
       | cons h t ih =>
        intro hm
        rcases Qd.mp hm with z | z
        ·subst z;exact⟨_,Qc,h⟩
        ·obtain ⟨q,h1,h2⟩:=ih z
         exact⟨q,Qh _ h1,h2⟩
      obtain⟨q,hq,e⟩:=key pa9 ha
      obtain⟨nn,_,rfl⟩:=Qk.mp hq
      exact⟨nn,e⟩
     have mh:=itr_st (g.clo _ hG) aQ nn
     have gt:=g.tie (rsOf es) cc (en.1,en.2.1) nn hG (Qk.mpr ⟨en,aO,rfl⟩) r6
     generalize itr (rsOf es) (cc,en.1) nn=qq at hnn mh gt
     obtain⟨pe',bn,tN,tM⟩:=mh
     obtain⟨eo,iH,rfl⟩:=Qk.mp bn
     have e8:eo.1=qq.2:=tN
     have ox:qq.1∈eo.2.1:=tM
     refine⟨a,_,rfl,SqT.of hnn,rfl,_,_,rfl,_,_,rfl,rfl,?_⟩
     refine⟨_,rfl,_,rfl,rfl,_,rfl,?_⟩
     by_cases h1:qq.2=en.1
     ·refine za5 (by rw [decide_eq_true (by rw [h1])];rfl) ?_
      exact iteF ⟨rfl,_,_,rfl⟩
     ·refine zb6 (by rw [decide_eq_false (fun z=>h1 (by injection z))];rfl) ?_
      refine⟨_,rfl,_,rfl,_,rfl,d,_,rfl,dg9,en.2.2,_,rfl,.inl (SqL.of hr9),rfl,zcc _,_,rfl,?_⟩
      rw[if_pos rfl,zey]
      by_cases h2:qq.2∈en.2.1
      ·refine za5 (by rw [decide_eq_true h2];rfl) ?_
       exact⟨rfl,_,_,rfl⟩
      ·refine zb6 (by rw [decide_eq_false h2];rfl) ?_
       have hlr:∀e∈es,e.2.1.length≤1000:=λe he=>Zd (af e he) (by decide)
       refine⟨_,rfl,_,rfl,_,rfl,_,rfl,d,es,en,some cc,qq.2,rfl,R9,aO,λz hz=>by cases hz;exact r6,hlr en aO,by lia,λa1 cK qb R10 jD=>?_⟩
       have uQ:eo∈setE es en.1 (ins en.2.1 (some cc) qq.2) a1:=by
        refine Qk.mpr ⟨eo,iH,?_⟩
        rw[if_neg (λz=>h1 (by rw[←e8,z]))]
       refine⟨_,rfl,_,rfl,_,rfl,_,rfl,d,_,eo,some qq.1,en.1,(by rw[e8];rfl),R10,uQ,λz hz=>by cases hz;exact ox,hlr eo iH,(by unfold setE;rw[List.length_map];lia),λa2 cP iO R11 kD=>?_⟩
       have qQ:p≠d:=Zc (zg4 qR R9.dc)
       have ss:Keep [p,d] H cP:=(jD.sub (by simp)).trans (kD.sub (by simp))
       refine k b8 m8 _ cP ⟨kD _ _ (jD _ _ qR.1 (by simpa using qQ)) (by simpa using qQ),qR.2⟩ R11 ?_ (by rw[zbl,zbl]) (kall.trans ss)
       rw[zhw,zhw]
       have:=gt h1 h2
       rw[e8]
       have dY:row (rsOf es) qq.2=eo.2.1:=by rw[←e8];exact zbb R.nd iH
       rw[dY]at this
       exact this
    ·rintro σ H ⟨rfl,x,y,rfl⟩
     exact k b8 m8 es H qR R9 hG rfl kall
end
end K21
end
section
namespace K21
open PySem L2 Wb
abbrev sMore:Stmt:=top 37
def rat_new(R:RAt H d es)(hx:x∉es.map (·.1))(ha:H a=some (.lst (r.map V.str))) :
  RAt (upd H d (.dK (putK (es.map λe=>((Sum.inr e.1:Key),V.ref e.2.2)) (Sum.inr x) (.ref a)))) d (es++[(x,r,a)]):=by
 refine⟨by rw[zab,put_new (r:=r) hx],λe he=>?_,?_⟩
 ·have key:∀ {b:Nc} {xs:List V},H b=some (.lst xs)→(upd H d (.dK (putK (es.map fun e=>((Sum.inr e.1:Key),V.ref e.2.2)) (Sum.inr x) (.ref a)))) b=some (.lst xs):=fun {b xs} hb=>by
   rw[zad (zay hb R.dc (by intro z;cases z))];exact hb
  rcases Qe.mp he with z | z
  ·exact key (R.ro e z)
  ·rw[Qb.mp z];exact key ha
 ·rw [Qs,Qy]
  refine⟨R.nd,Qv.mpr ⟨by simp,Zk⟩,λy hy z hz=>?_⟩
  have dW:z=x:=by simpa using hz
  rw[dW]
  exact λe=>hx (e▸hy)
def rat_set(R:RAt H d es)(hx:x∈es.map (·.1))(ha:H a=some (.lst (r.map V.str))) :
  RAt (upd H d (.dK (putK (es.map λe=>((Sum.inr e.1:Key),V.ref e.2.2)) (Sum.inr x) (.ref a)))) d (setE es x r a):=by
 refine⟨by rw[zab,put_setE (r:=r) hx],λe he=>?_,by rw[zbl];exact R.nd⟩
 have key:∀{b:Nc} {xs:List V},H b=some (.lst xs)→(upd H d (.dK (putK (es.map λe=>((Sum.inr e.1:Key),V.ref e.2.2)) (Sum.inr x) (.ref a)))) b=some (.lst xs):=λ{b xs} hb=>by
  rw[zad (zay hb R.dc (by intro z;cases z))];exact hb
 unfold setE at he
 obtain⟨e0,h0,rfl⟩:=Qk.mp he
 by_cases z:e0.1=x
 ·rw[if_pos z];exact key ha
 ·rw[if_neg z];exact key (R.ro e0 h0)
def zee(es:List Ent):((es.map λe=>((Sum.inr e.1:Key),V.ref e.2.2)).map λp=>kV p.1)=(es.map (·.1)).map V.str:=by
 rw[Zq,Zq];rfl
inductive IspMore(G:Rs Str→Prop)(vs:List V)(H:Hp)(Q:VK):Prop
 |mk (p d:Nc) (b m:Int) (es:List Ent) (x:Str) (h0:vs=[.ref p,.ref d,.str x]) (h1:Pot H p b m) (h2:RAt H d es) (h3:G (rsOf es)) (h4:x∉es.map (·.1)) (h5:es.length≤29) (h6:∀(b' m':Int) (ak:List Ent) (H':Hp),Pot H' p b' m'→RAt H' d ak→G (rsOf ak)→ak.map (·.1)=es.map (·.1)++[x]→Keep [p,d] H H'→Q .non H'):IspMore G vs H Q
def spMore(G:Rs Str→Prop):Sp:=λvs H Q _=>IspMore G vs H Q
section
variable{P:Nj}{w:Nl}{K:Na}{mg:Ng}{base:Nm}
def scMore:zaq ["_law_pot_here", "_law_rounds_here", "_law_name", "_law_some", "_law_one", "_law_corner"] ["_law_pot_here", "_law_rounds_here", "_law_name"] (zag sMore):=⟨rfl,rfl,rfl,by decide +kernel,rfl,by decide +kernel,by decide +kernel⟩
def ok_more(g:Gen G)(F:Fun K "_law_more" "_law_more" sMore f fd)(FT:Fun K "_law_take" "_law_take" zhr ft fdt)(bT:Binds K fdt ["_law_pot_here", "_law_many"] [])(mT:mg "_law_take" = some (.ref ft))(FP:Fun K "_law_put" "_law_put" sPut fp fdp)(bP:Binds K fdp ["_law_rounds_here", "_law_one", "_law_corner", "_law_other"] [])(mP:mg "_law_put" = some (.ref fp))(a9:mg "len" = none)(ay:mg "sorted" = none)(pM:mg "divmod" = none):FnOk P w K mg base CX0 2 f fd ["_law_pot_here", "_law_rounds_here", "_law_name"] (spMore G):=by
 have GT:FnOk P w K mg base CX0 1 ft fdt ["_law_pot_here", "_law_many"] zfu:=zh3 FT pM
 have GP:FnOk P w K mg base CX0 1 fp fdp ["_law_rounds_here", "_law_one", "_law_corner", "_law_other"] spPut:=ok_put FP
 refine F.ok scMore (λvs H Q E h=>?_) (λcdv A outer s H vs Q E hr h=>?_)
 ·obtain ⟨p,d,b,m,es,x,rfl,_⟩:=h
  rfl
 ·obtain ⟨p,d,b,m,es,x,rfl,hp,R,hG,hx,aN,k⟩:=h
  have hu:=zb9 hr
  have eQ:=Ut hu
  have aG:sizeLine=16777216:=sizeLine_eq
  refine⟨_,zae (zam (i:=3) scMore.nd rfl (Or.inl rfl) (zai (zbs rfl) (by rfl) ay Yd (zac (pv 1) zaf)))
   (zae (zce hu (pv 1) (pv 2) (zbh zaf) rfl)
   (zae (zb5 (PW.pt (zhz (zas (op_eq_nil eQ) (pv 3) (zbh zaf) (zbf _)) (zg3 (zas op_eq (zak GT hr rfl mT FT.kp bT .nil zaw (zac (pv 0) (zac zal zaf))) zal (zbf _))))) (zah ps_retN) za0)
   (zae (zam (i:=4) scMore.nd rfl (Or.inl rfl) (zck zbu (pv 3) (zak GT hr rfl mT FT.kp bT .nil zaw (zac (pv 0) (zac (zai zan (by rfl) a9 Zx (zac (pv 3) zaf)) zaf))) (λ_ _=>rfl)))
   (zae (zam (i:=5) scMore.nd rfl (Or.inl rfl) pe_non)
   (zae (zb5 (zas (zf7 eQ) (zat hu (pv 1) (pv 4) (fun _ _=>rfl)) (zbh zaf) (zbf _))
    (zah (zam (i:=5) scMore.nd rfl (Or.inl rfl) (zck zbu (zat hu (pv 1) (pv 4) (λ_ _=>rfl)) (zak GT hr rfl mT FT.kp bT .nil zaw (zac (pv 0) (zac (zai zan (by rfl) a9 Zx (zac (zat hu (pv 1) (pv 4) (λ_ _=>rfl)) zaf)) zaf))) (λ_ _=>rfl)))) za0)
   (zae (za6 (zak GP hr rfl mP FP.kp bP .nil zaw (zac (pv 1) (zac (pv 4) (zac (pv 5) (zac (pv 2) zaf))))))
   (zah (zce hu (pv 1) (pv 2) (zbh (zac (pv 4) zaf)) rfl)))))))),?_⟩
  refine⟨_,rfl,d,_,es.map (·.1),rfl,.inl R.dc,zee es,λl ws hl ae ao=>?_⟩
  refine⟨(by show 0≤sizeLine;decide),λa ha=>?_⟩
  generalize rq:upd (upd H l (.lst (ws.map V.str))) a (.lst [])=H1
  have k1:Keep [] H H1:=by rw[←rq];exact(Keep.new hl).trans (Keep.new ha)
  have nla:l≠a:=zaa (o:=_) zab ha
  have aS:H1 l=some (.lst (ws.map V.str)):=by rw[←rq,zad nla];exact zab
  have qb:H1 a=some (.lst (([]:List Str).map V.str)):=by rw[←rq];exact zab
  have R1:RAt H1 d es:=R.keep k1 (by simp) (λ_ _=>by simp)
  have fW:Pot H1 p b m:=hp.keep k1 (by simp)
  clear rq
  refine⟨_,rfl,_,rfl,d,_,rfl,DPut.k (k:=Sum.inr x) R1.dc (by rw[Qa];lia),?_⟩
  have R2:=rat_new R1 hx qb
  generalize aU:upd H1 d (.dK (putK (es.map λe=>((Sum.inr e.1:Key),V.ref e.2.2)) (Sum.inr x) (.ref a)))=H2 at R2
  have k2:Keep [d] H H2:=by rw[←aU];exact(k1.sub (by simp)).trans (Keep.wr Qc)
  have npd:p≠d:=Zc (zg4 hp R.dc)
  have bo:Pot H2 p b m:=hp.keep k2 (by simpa using npd)
  have nld:l≠d:=zay aS R1.dc (by intro z;cases z)
  have ah:H2 l=some (.lst (ws.map V.str)):=by rw[←aU,zad nld];exact aS
  clear aU aS R1 fW qb k1
  have hG2:G (rsOf (es++[(x,[],a)])):=by
   unfold rsOf
   rw[Qs]
   exact g.new _ x hG (by rw[Zq];exact hx)
  have cG:(es++[(x,([]:List Str),a)]).map (·.1)=es.map (·.1)++[x]:=by rw[Qs];rfl
  refine⟨_,rfl,(by show 0≤sizeLine;decide),λq hq=>?_⟩
  have nlq:l≠q:=zaa ah hq
  refine⟨l,q,_,rfl,rfl,SqL.of (by rw[zad nlq];exact ah),SqL.of zab,_,rfl,?_⟩
  generalize mY:upd H2 q (.lst [])=H3
  have k3:Keep [] H2 H3:=by rw[←mY];exact Keep.new hq
  have de:=k3 _ _ ah (by simp)
  have R3:RAt H3 d _:=R2.keep k3 (by simp) (λ_ _=>by simp)
  have aV:Pot H3 p b m:=bo.keep k3 (by simp)
  have dU:Keep [p,d] H H3:=(k2.sub (by simp)).trans (k3.sub (by simp))
  clear mY
  by_cases iV:ws=[]
  ·subst iV
   refine zb6 rfl ?_
   refine iteT ?_
   exact k b m _ H3 aV R3 hG2 cG dU
  ·have jS:(ws.map V.str).isEmpty=false:=by
    cases ws with
    |nil=>exact absurd rfl iV
    |cons _ _=>rfl
   refine za5 jS ?_
   refine⟨_,rfl,p,b,m,9,rfl,aV,by decide,by decide,λj4 b4 m4 H4 hj4 p9 aI rZ=>?_⟩
   have k4:=zbt rZ
   have cE:=k4 _ _ de (by simpa using zc7 aV de)
   have R4:=R3.pot aV k4
   have nH:=dU.trans (k4.sub (by simp))
   refine⟨rfl,_,rfl,?_⟩
   by_cases qE:j4=0
   ·refine zb6 (by rw [decide_eq_true (by rw [qE])]) ?_
    exact k b4 m4 _ H4 aI R4 hG2 cG nH
   ·refine za5 (decide_eq_false (fun z=>qE (by injection z))) ?_
    have eZ:0<ws.length:=Ul.mpr iV
    have cR:ws.length≤30:=by rw[ae.length_eq,Qa];exact zar16 ‹_›
    refine⟨_,rfl,_,rfl,_,rfl,l,_,rfl,.inl (SqL.of cE),p,b4,m4,_,rfl,aI,(by rw[Qa];exact zar9 ‹_›),(by rw[Qa];lia),λj5 b5 m5 H5 qW lm ax ku=>?_⟩
    have k5:=zbt ku
    have cr:=k5 _ _ cE (by simpa using zc7 aI cE)
    have R5:=R4.pot aI k5
    have jC:=nH.trans (k5.sub (by simp))
    obtain⟨j,rfl⟩:=Yl qW
    have hj:j<ws.length:=by rw[Qa]at lm;exact zar8 ‹_›
    refine⟨l,_,_,_,rfl,rfl,SqL.of cr,zbo (by rw[Qz,Qg hj];rfl),?_⟩
    obtain⟨en,aO,aD⟩:=Qk.mp (ae.mem_iff.mp (Qq hj))
    have cI:en∈es++[(x,([]:List Str),a)]:=Ql _ aO
    have hnx:en.1≠x:=λz=>hx (z▸Qk.mpr ⟨en,aO,rfl⟩)
    have aR:en.2.1.length≤29:=by
     have:=g.rows hG (en.1,en.2.1) (Qk.mpr ⟨en,aO,rfl⟩)
     rw[show(rsOf es).length=es.length from Qa ..]at this
     exact Zd this aN
    rw[←aD]
    have dget:∀{H':Hp},RAt H' d (es++[(x,([]:List Str),a)])→DGet H' d (.str en.1) (some (.ref en.2.2)):=λ{H'} R'=>by
     have:=DGet.k (k:=Sum.inr en.1) R'.dc
     rw[zbv R'.nd cI]at this
     exact this
    have qN:=R5.ro en cI
    have fin:∀(c:Option Str) (bb mm:Int) (HH:Hp),(∀y,c=some y→y∈en.2.1)→(c=none→en.2.1=[])→Pot HH p bb mm→RAt HH d (es++[(x,([]:List Str),a)])→Keep [p,d] H HH →
      ∀(a1:Nc) (H6:Hp),RAt H6 d (setE (es++[(x,([]:List Str),a)]) en.1 (ins en.2.1 c x) a1)→Keep [d] HH H6→∀a2,H6 a2=none→∃a3 H4,V.ref d=.ref a3∧DPut (upd H6 a2 (.lst [.str en.1])) a3 (.str x) (.ref a2) H4∧Q .non H4:=λc bb mm HH ba r8 hpp RR kk a1 H6 R6 k6 a2 iO=>by
     have nE:p≠d:=Zc (zg4 hpp RR.dc)
     have aX:Pot H6 p bb mm:=hpp.keep k6 (by simpa using nE)
     have R7:RAt (upd H6 a2 (.lst [.str en.1])) d _:=R6.keep (xs:=[]) (Keep.new iO) (by simp) (λ_ _=>by simp)
     have bw:Pot (upd H6 a2 (.lst [.str en.1])) p bb mm:=aX.keep (xs:=[]) (Keep.new iO) (by simp)
     have iC:x∈(setE (es++[(x,([]:List Str),a)]) en.1 (ins en.2.1 c x) a1).map (·.1):=by rw[zbl,cG];simp
     refine⟨d,_,rfl,DPut.k (k:=Sum.inr x) R7.dc (by rw[Qa];unfold setE;rw[List.length_map,List.length_append];show _+1<sizeLine;lia),?_⟩
     have R8:=rat_set (r:=[en.1]) R7 iC zab
     have se:Keep [p,d] H (upd (upd H6 a2 (.lst [.str en.1])) d (.dK (putK ((setE (es++[(x,([]:List Str),a)]) en.1 (ins en.2.1 c x) a1).map λe=>((Sum.inr e.1:Key),V.ref e.2.2)) (Sum.inr x) (.ref a2)))) :=
      ((kk.trans (k6.sub (by simp))).trans (Keep.new iO)).trans (Keep.wr (by simp))
     refine k bb mm _ _ (bw.keep (xs:=[d]) (Keep.wr Qc) (by simpa using nE)) R8 ?_ (by rw[zbl,zbl,cG]) se
     rw[zhw,zhw]
     have:=g.leaf (rsOf es) x (en.1,en.2.1) c hG (by unfold rsOf;rw[List.map_map];exact hx) (List.mem_map.mpr ⟨en,aO,rfl⟩) ba r8
     unfold rsOf at this ⊢
     rw[Qs]
     exact this
    refine⟨_,rfl,_,rfl,d,_,rfl,dget R5,(by show 0≤sizeLine;decide),λq6 dC=>?_⟩
    have nrq:en.2.2≠q6:=zaa qN dC
    refine⟨en.2.2,q6,_,rfl,rfl,SqL.of (by rw[zad nrq];exact qN),SqL.of zab,_,rfl,?_⟩
    generalize hH6:upd H5 q6 (.lst [])=H6
    have k6:Keep [] H5 H6:=by rw[←hH6];exact Keep.new dC
    have R6:RAt H6 d _:=R5.keep k6 (by simp) (λ_ _=>by simp)
    have aX:Pot H6 p b5 m5:=ax.keep k6 (by simp)
    have kk6:Keep [p,d] H H6:=jC.trans (k6.sub (by simp))
    have tF:=R6.ro en cI
    clear hH6
    by_cases c8:en.2.1=[]
    ·refine za5 (by rw [c8];rfl) ?_
     refine⟨_,rfl,_,rfl,_,rfl,_,rfl,d,_,en,none,x,rfl,R6,cI,(λy hy=>by cases hy),by lia,by rw[Qo];show _+1≤1000;lia,λa1 H9 qb R9 k9=>⟨_,rfl,(by show 1≤sizeLine;decide),λa2 iO=>?_⟩⟩
     obtain⟨a3,H4,e,dp,q⟩:=fin none b5 m5 H6 (λy hy=>by cases hy) (λ_=>c8) aX R6 kk6 a1 H9 R9 k9 a2 iO
     exact⟨_,rfl,_,rfl,a3,H4,e,dp,q⟩
    ·have ow:0 < en.2.1.length:=Ul.mpr c8
     refine zb6 (by cases hh:en.2.1 with
      |nil=>exact absurd hh c8
      |cons _ _=>rfl) ?_
     refine⟨_,rfl,_,rfl,d,_,rfl,dget R6,_,rfl,_,rfl,_,rfl,d,_,rfl,dget R6,en.2.2,_,rfl,.inl (SqL.of tF),p,b5,m5,_,rfl,aX,(by rw[Qa];exact zar9 ‹_›),(by rw[Qa];lia),λj7 b7 m7 H7 hj7 uh bw kp7=>?_⟩
     have k7:=zbt kp7
     have R7:=R6.pot aX k7
     have hr7:=R7.ro en cI
     obtain⟨i7,rfl⟩:=Yl hj7
     have ul:i7<en.2.1.length:=by rw[Qa]at uh;exact zar8 ‹_›
     refine⟨en.2.2,_,_,_,rfl,rfl,SqL.of hr7,zbo (by rw[Qz,Qg ul];rfl),?_⟩
     refine⟨_,rfl,_,rfl,_,rfl,_,rfl,d,_,en,(some en.2.1[i7]),x,rfl,R7,cI,(λy hy=>by cases hy;exact Qq ul),by lia,by rw[Qo];show _+1≤1000;lia,λa1 H9 qb R9 k9=>⟨_,rfl,(by show 1≤sizeLine;decide),λa2 iO=>?_⟩⟩
     obtain⟨a3,H4,e,dp,q⟩:=fin (some en.2.1[i7]) b7 m7 H7 (λy hy=>by cases hy;exact Qq ul) (λz=>by cases z) bw R7 (kk6.trans (k7.sub (by simp))) a1 H9 R9 k9 a2 iO
     exact⟨_,rfl,_,rfl,a3,H4,e,dp,q⟩
end
abbrev zfy:Stmt:=top 32
def zds(z:Str):Prop:=1≤z.length∧z.length≤8∧∀c∈z.cps.toList,97≤c∧c≤122
def join_cps:∀ zs:List Str,(Txt.join "" zs).cps.toList=zs.flatMap (·.cps.toList):=by
 intro zs
 unfold Txt.join
 rw[StrLaws.glued_eq_join]
 have key:∀zs:List Str,(Str.join "" zs).cps.toList=zs.flatMap (·.cps.toList):=by
  intro zs
  induction zs with
  |nil=>rfl
  | cons a t ih =>
   cases t with
   |nil=>show a.cps.toList=_;rw[Uu,List.flatMap_nil,Zv]
   |cons b r =>
    show(a.cps++("" : Str).cps++(Str.join "" (b::r)).cps).toList=_
    rw[Zy,Zy,ih,Uu (x:=a)]
    rw[show("" : Str).cps.toList=[] from by decide +kernel,Zv]
 exact key zs
def flat_one(cs:List Nat):cs.flatMap (λc=>[c])=cs:=by
 induction cs with
 |nil=>rfl
 |cons a t ih=>rw[Uu,ih];rfl
def zfr(cs:List Nat):((cs.map (λc=>(⟨#[c]⟩:Str))).map λz=>z.length+("" : Str).length).sum=cs.length:=by
 induction cs with
 |nil=>rfl
 | cons a t ih =>
  rw[Qm,Qm,Zf,ih,Qx]
  have:(⟨#[a]⟩:Str).length+("" : Str).length=1:=by
   rw[show("" : Str).length=0 from by decide +kernel];rfl
  omega
def nodup_of_map{α β:Type}{f:α→β}{l:List α}(h:(l.map f).Nodup):l.Nodup:=by
 induction l with
 |nil=>exact Zk
 |cons a t ih =>
  rw[Qm,Qv]at h
  exact Qv.mpr ⟨λz=>h.1 (Qk.mpr ⟨a,z,rfl⟩),ih h.2⟩
def zh6{α β:Type}{f:α→β}{l:List α}(nd:l.Nodup)(h:∀a∈l,∀b∈l,f a=f b→a=b):(l.map f).Nodup:=by
 induction l with
 |nil=>exact Zk
 |cons a t ih =>
  rw[Qv]at nd
  rw[Qm,Qv]
  refine⟨λz=>?_,ih nd.2 λx hx y hy=>h x (Qh _ hx) y (Qh _ hy)⟩
  obtain⟨b,hb,e⟩:=Qk.mp z
  exact nd.1 (h b (Qh _ hb) a Qc e▸hb)
def zgb{β:Type}{f:Nat→β}{n:Nat}(h:∀a,a<n→∀b,b<n→f a=f b→a=b):((List.range n).map f).Nodup :=
 zh6 List.nodup_range λa ha b hb=>h a (Ud.mp ha) b (Ud.mp hb)
def zew:Str := "abcdefghijklmnopqrstuvwxyz"
def letters_at:∀i:Fin 26,zew.cps.toList[i.1]?=some (97+i.1):=by decide +kernel
def zgg:zew.length≤sizeLine:=by decide +kernel
def letter_at{j:Int}(h0:0≤j)(h1:j<26):atI zew.cps.toList j=some (97+j.toNat):=by
 obtain⟨n,rfl⟩:=Yl h0
 exact zbo (letters_at ⟨n,by exact zar8 ‹_›⟩)
inductive IspNames(vs:List V)(H:Hp)(Q:VK):Prop
 |mk (p:Nc) (b m:Int) (n:Nat) (h0:vs=[.ref p,.int n]) (h1:Pot H p b m) (h2:n≤26) (h3:∀(l:Nc) (zs:Nd) (b' m':Int) (H':Hp),H' l=some (.lst (zs.map V.str))→zs.length=n→zs.Nodup→(∀z∈zs,zds z)→Pot H' p b' m'→H l=none→Keep [p] H H'→Q (.ref l) H'):IspNames vs H Q
def spNames:Sp:=λvs H Q _=>IspNames vs H Q
abbrev zdy:Scope:=scOf (eOf (bAt (sAt zfy 3) 0))
def csNames_k:zdy.kind=.function:=by rfl
def csNames_c:∀y∈zdy.names,y.2≠.cell:=by decide +kernel
def csNames_n:∀y∈zdy.names,y.2=.local→zdy.names.lookup y.1=some .local:=by decide +kernel
def csNames_f:∀y∈zdy.names,y.2=.free→(zag zfy).names.lookup y.1=some .cell∨(zag zfy).names.lookup y.1=some .free:=by decide +kernel
def csNames_l:zdy.names.lookup ("_law_letters" : Str)=some NameKind.free:=by decide +kernel
def csNames_p:zdy.names.lookup ("_law_pot_here" : Str)=some NameKind.free:=by decide +kernel
def nd3:(["_law_turn", "_law_letters", "_law_pot_here"]:List Str).Nodup:=by decide +kernel
section
variable{P:Nj}{w:Nl}{K:Na}{mg:Ng}{base:Nm}
def zer:zaq ["_law_pot_here", "_law_many", "_law_letters", "_law_shift", "_law_found", "_law_k", "_law_tail"] ["_law_pot_here", "_law_many"] (zag zfy):=⟨rfl,rfl,rfl,by decide +kernel,rfl,by decide +kernel,by decide +kernel⟩
def ok_names{f ft:Nc}{fd fdt:Nv}(F:Fun K "_law_names" "_law_names" zfy f fd)(FT:Fun K "_law_take" "_law_take" zhr ft fdt)(bT:Binds K fdt ["_law_pot_here", "_law_many"] [])(mT:mg "_law_take" = some (.ref ft))(dB:mg "range" = none)(pM:mg "divmod" = none):FnOk P w K mg base CX0 2 f fd ["_law_pot_here", "_law_many"] spNames:=by
 have GT:FnOk P w K mg base CX0 1 ft fdt ["_law_pot_here", "_law_many"] zfu:=zh3 FT pM
 refine F.ok zer (λvs H Q E h=>?_) (λcdv A outer s H vs Q E hr h=>?_)
 ·obtain ⟨p,b,m,n,rfl,_⟩:=h
  rfl
 ·obtain ⟨p,b,m,n,rfl,hp,hn,k⟩:=h
  have hu:=zb9 hr
  refine⟨_,zae (zam (i:=2) zer.nd rfl (Or.inr rfl) ze9)
   (zae (zam (i:=3) zer.nd rfl (Or.inl rfl) (zak GT hr rfl mT FT.kp bT .nil zaw (zac (pv 0) (zac zal zaf))))
   (zae (zam (i:=4) zer.nd rfl (Or.inl rfl) (zbh zaf))
   (zae (zbc Zh rfl (zc8 rfl dB (zac (pv 1) zaf)) (zaj (i:=5) zer.nd rfl (Or.inl rfl))
    (zae (ps_lc (i:=6) (M:=["_law_turn", "_law_letters", "_law_pot_here"]) (ix:=[none,some 2,some 0]) zer.nd rfl rfl ⟨csNames_k,csNames_c,csNames_n,csNames_f,rfl,by decide +kernel,λj i x h1 h2=>by
      match j,h1,h2 with
      |0,_,h2=>cases h2
      |1,h1,h2=>cases h1;cases h2;exact⟨rfl,csNames_l⟩
      |2,h1,h2=>cases h1;cases h2;exact⟨rfl,csNames_p⟩
      |n+3,h1,_=>cases h1⟩ rfl
      (zc8 rfl dB (zac (zck zbu (zbh (zac zal (zac zal (zac zal zaf)))) (zak GT hr rfl mT FT.kp bT .nil zaw (zac (pv 0) (zac zal zaf))) (λ_ _=>rfl)) zaf))
      (λC a0 ex s H=>zaj (i:=0) nd3 rfl (Or.inl rfl) (Or.inr rfl))
      (λC a0 ex s H=>zci) (λC a0 ex s H=>zck ix_str (pv 1) (zak GT (by exact hr) rfl (by exact mT) FT.kp bT .nil zaw (zac (pv 2) (zac zal zaf))) (λ_ _=>rfl)) rfl)
    (zah (za6 (zd9 Zm Yo Yn zb0 (pv 4) (zac (zbd op_add_str (zck ix_str (pv 2) (zbd zfb (zbd zc9 (pv 3) (zbd op_mul zal (pv 5))) zal) (fun _ _=>rfl))
     (zd9 PySem.F.plainAttrs_str PySem.F.slot_str_join PySem.F.type_str_join mt_join ze9 (zac (pv 6) zaf))) zaf))))))
   (zah (zbe (pv 4)))))),?_⟩
  have aG:sizeLine=16777216:=sizeLine_eq
  refine⟨_,rfl,p,b,m,26,rfl,hp,by decide,by decide,λsh b1 m1 H1 hsh0 hsh1 fW qC=>?_⟩
  have k1:=zbt qC
  refine⟨(by show 0≤sizeLine;decide),λl hl=>?_⟩
  have npl:p≠l:=zaa fW.1 hl
  have u8:H l=none:=by
   cases z:H l with
   |none=>rfl
   |some o=>rw[k1 _ _ z (by simpa using Zc npl)]at hl;cases hl
  refine⟨_,rfl,(n:Int),rfl,by omega,by omega,?_⟩
  rw[Wl]
  refine zef (λi σ H2=>Ex5 λ(zs:Nd) (bb mm:Int) (x5 x6:Option V)=>Aj7 (σ=[some (.ref p),some (.int n),some (.str zew),some (.int sh),some (.ref l),x5,x6]) (H2 l=some (.lst (zs.map V.str))) (zs.length=i) (zs.map (λz=>z.cps.toList.head?)=(List.range i).map (λq:Nat=>some (97+((sh+11*(q:Int))%26).toNat))) (∀z∈zs,zds z) (Pot H2 p bb mm) (Keep [p,l] H H2))
   ⟨[],b1,m1,none,none,rfl,zab,rfl,rfl,by simp,fW.keep (xs:=[]) (Keep.new hl) (by simp),(k1.sub (by simp)).trans (Keep.new hl)⟩ ?_ ?_
  ·rintro i σ H2 hi ⟨zs,bb,mm,x5,x6,rfl,ah,lZ,dN,hok,bo,k2⟩
   refine⟨(by show 3≤sizeLine;decide),λq hq=>?_⟩
   have hlq:l≠q:=zaa ah hq
   refine⟨_,rfl,p,bb,mm,3,rfl,bo.keep (xs:=[]) (Keep.new hq) (by simp),by decide,by decide,λd3 b3 m3 H3 h30 h31 aV sd=>?_⟩
   have k3:=zbt sd
   have nqp:q≠p:=Zc (zaa bo.1 hq)
   have nlp:l≠p:=Zc npl
   have tI:H3 q=some (.lst [.int 0,.int 1,.int 7]):=k3 _ _ zab (by simpa using nqp)
   have de:H3 l=some (.lst (zs.map V.str)):=k3 _ _ (by rw[zad hlq];exact ah) (by simpa using nlp)
   have dU:Keep [p,l] H H3:=(k2.trans (Keep.new hq)).trans (k3.sub (by simp))
   obtain⟨j,hj,jZ⟩:∃j:Nat,j≤7∧atI [V.int 0,V.int 1,V.int 7] d3=some (.int (j:Int)):=by
    have:d3=0∨d3=1∨d3=2:=by omega
    rcases this with rfl | rfl | rfl
    ·exact⟨0,by decide,rfl⟩
    ·exact⟨1,by decide,rfl⟩
    ·exact⟨7,by decide,rfl⟩
   refine⟨q,_,_,_,rfl,rfl,SqL.of tI,jZ,(j:Int),rfl,by omega,by omega,?_⟩
   rw[Wl]
   refine⟨λi' m' ys τ H4=>Ex4 λ(cs:List Nat) (b4 m4:Int) (x0:Option V)=>Aj8 (m'=j-i') (i'≤j) (ys=cs.map (λc=>V.str ⟨#[c]⟩)) (cs.length=i') (∀c∈cs,97≤c∧c≤122) (τ=[x0,some (.str zew),some (.ref p)]) (Pot H4 p b4 m4) (Keep [p] H3 H4),
    ⟨j,[],b3,m3,none,rfl,Zi _,rfl,rfl,by simp,rfl,aV,Keep.refl⟩,?_⟩
   rintro i' m' ys τ H4 ⟨cs,b4,m4,x0,rfl,dM,rfl,iK,iJ,rfl,aI,k4⟩
   by_cases aa:i'<j
   ·refine .inr ⟨aa,by rw [Qa];omega,?_⟩
    rintro x H5 ⟨rfl,rfl⟩
    refine⟨_,rfl,_,rfl,p,b4,m4,26,rfl,aI,by decide,by decide,λd6 b6 m6 H6 h60 h61 aX rY=>?_⟩
    refine⟨_,_,_,rfl,rfl,zgg,letter_at h60 h61,_,?_,cs++[97+d6.toNat],b6,m6,_,rfl,aa,?_,?_,?_,rfl,aX,k4.trans (zbt rY)⟩
    ·exact zar1 ‹_›
    ·rw[Qs];rfl
    ·rw[Qo];show _+1=_;omega
    ·intro c hc
     rcases Qe.mp hc with z | z
     ·exact iJ c z
     ·rw[Qb.mp z];omega
   ·have cN:i'=j:=by exact zar3 ‹_› ‹_›
    subst cN
    refine .inl ⟨Qf _,λD hD=>?_⟩
    have cE:H4 l=some (.lst (zs.map V.str)):=k4 _ _ de (by simpa using nlp)
    have nlD:l≠D:=zaa cE hD
    have cr:(upd H4 D (.lst (cs.map (λc=>V.str ⟨#[c]⟩)))) l=some (.lst (zs.map V.str)):=by rw[zad nlD];exact cE
    have jC:Keep [p,l] H (upd H4 D (.lst (cs.map (λc=>V.str ⟨#[c]⟩)))):=(dU.trans (k4.sub (by simp))).trans (Keep.new hD)
    have ax:Pot (upd H4 D (.lst (cs.map (λc=>V.str ⟨#[c]⟩)))) p b4 m4:=aI.keep (xs:=[]) (Keep.new hD) (by simp)
    have ka:(upd H4 D (.lst (cs.map (λc=>V.str ⟨#[c]⟩)))) D=some (.lst ((cs.map (λc=>(⟨#[c]⟩:Str))).map V.str)):=by rw[zab,Zq];rfl
    generalize upd H4 D (.lst (cs.map (λc=>V.str ⟨#[c]⟩)))=H5 at cr jC ax ka
    have oN:0≤(sh+11*(i:Int))%26:=Kh _ (by decide)
    have oM:(sh+11*(i:Int))%26<26:=Jj _ (by decide)
    have ug:(Txt.join "" (cs.map (λc=>(⟨#[c]⟩:Str)))).cps.toList=cs:=by
     rw[join_cps,List.flatMap_map]
     show cs.flatMap (λc=>[c])=cs
     exact flat_one cs
    have hjn:(Txt.join "" (cs.map (λc=>(⟨#[c]⟩:Str)))).length=i':=by
     show(Txt.join "" (cs.map (λc=>(⟨#[c]⟩:Str)))).cps.size=_
     rw[←Wa,ug,iK]
    generalize hjj:Txt.join "" (cs.map (λc=>(⟨#[c]⟩:Str)))=J at ug hjn
    have vb:atI zew.cps.toList ((sh+11*((0:Int)+(i:Int)))%26)=some (97+((sh+11*(i:Int))%26).toNat):=by
     rw[Int.zero_add]
     exact letter_at oN oM
    refine⟨_,rfl,.inl ⟨rfl,_,SqL.of cr⟩,_,rfl,_,rfl,_,rfl,_,_,rfl,rfl,.inl ⟨by decide,by omega⟩,_,_,rfl,rfl,_,_,rfl,rfl,(by show(0:Int)<26;decide),_,_,_,rfl,rfl,zgg,vb,rfl,_,rfl,D,_,_,rfl,rfl,ka,?_,?_⟩
    ·rw[zfr];omega
    ·rw [hjj]
     have fG:((⟨#[97+((sh+11*(i:Int))%26).toNat]⟩:Str)++J).cps.toList=(97+((sh+11*(i:Int))%26).toNat)::cs:=by
      show((#[97+((sh+11*(i:Int))%26).toNat]:Array Nat)++J.cps).toList=_
      rw[Zy,ug];rfl
     have hcl2:((⟨#[97+((sh+11*(i:Int))%26).toNat]⟩:Str)++J).length=i'+1:=by
      show((⟨#[97+((sh+11*(i:Int))%26).toNat]⟩:Str)++J).cps.size=_
      rw[←Wa,fG,Qx,iK]
     refine⟨_,_,rfl,rfl,(by rw[hjn];show 1+i'≤sizeLine;omega),l,_,_,rfl,rfl,cr,by rw[Qa];omega,?_⟩
     refine⟨zs++[(⟨#[97+((sh+11*(i:Int))%26).toNat]⟩:Str)++J],b4,m4,_,_,rfl,?_,?_,?_,?_,?_,jC.trans (Keep.wr (by simp))⟩
     ·rw[zab,Qs];rfl
     ·rw[Qo,lZ];rfl
     ·rw[Qs,dN,List.range_succ,Qs,Qm,Qm,Jq,Jq,fG];rfl
     ·intro z hz
      rcases Qe.mp hz with h | h
      ·exact hok z h
      ·rw [Qb.mp h]
       refine⟨by omega,by omega,λc hc=>?_⟩
       rw[fG]at hc
       rcases Qd.mp hc with h2 | h2
       ·rw[h2];omega
       ·exact iJ c h2
     ·exact ax.keep (xs:=[l]) (Keep.wr Qc) (by simpa using npl)
  ·rintro σ H2 ⟨zs,bb,mm,x5,x6,rfl,ah,lZ,dN,hok,bo,k2⟩
   refine⟨_,rfl,k l zs bb mm H2 ah lZ ?_ hok bo u8 λc o ec hc=>k2 c o ec ?_⟩
   ·have:(zs.map (fun z=>z.cps.toList.head?)).Nodup:=by
     rw[dN]
     refine zgb λa ha c hc e=>?_
     injection e with e
     omega
    exact nodup_of_map this
   ·have:c≠l:=zaa ec u8
    simp at hc ⊢
    exact⟨hc,this⟩
end
abbrev zhs:Stmt:=top 38
inductive IspRounds(G:Rs Str→Prop)(vs:List V)(H:Hp)(Q:VK):Prop
 |mk (p:Nc) (b m:Int) (most:Nat) (h0:vs=[.ref p,.int most]) (h1:Pot H p b m) (h2:most≤25) (h3:∀(d:Nc) (es:List Ent) (b' m':Int) (H':Hp),RAt H' d es→G (rsOf es)→es.length≤most→(∀e∈es,zds e.1)→Pot H' p b' m'→H d=none→Keep [p] H H'→Q (.ref d) H'):IspRounds G vs H Q
def spRounds(G:Rs Str→Prop):Sp:=λvs H Q _=>IspRounds G vs H Q
def zbi(k:Keep xs H H')(h:H' l=none)(hx:l∉xs):H l=none:=by
 cases z:H l with
 |none=>rfl
 |some o=>rw[k _ _ z hx]at h;cases h
def Keep.cut(k:Keep (l::xs) H H')(h:H l=none):Keep xs H H':=λc o ec hc=>k c o ec (by
 have:c≠l:=zaa ec h
 simp[this,hc])
section
variable{P:Nj}{w:Nl}{K:Na}{mg:Ng}{base:Nm}
def zdj:zaq ["_law_pot_here", "_law_most", "_law_rounds_here", "_law_thick", "_law_name", "_law_turn"] ["_law_pot_here", "_law_most"] (zag zhs):=⟨rfl,rfl,rfl,by decide +kernel,rfl,by decide +kernel,by decide +kernel⟩
def ok_rounds(g:Gen G)(F:Fun K "_law_rounds" "_law_rounds" zhs f fd)(FT:Fun K "_law_take" "_law_take" zhr ft fdt)(bT:Binds K fdt ["_law_pot_here", "_law_many"] [])(mT:mg "_law_take" = some (.ref ft))(FN:Fun K "_law_names" "_law_names" zfy fn fdn)(bN:Binds K fdn ["_law_pot_here", "_law_many"] [])(mN:mg "_law_names" = some (.ref fn))(FM:Fun K "_law_more" "_law_more" sMore fm fdm)(bM:Binds K fdm ["_law_pot_here", "_law_rounds_here", "_law_name"] [])(mM:mg "_law_more" = some (.ref fm))(FI:Fun K "_law_tie" "_law_tie" sTie fi fdi)(bI:Binds K fdi ["_law_pot_here", "_law_rounds_here"] [])(mI:mg "_law_tie" = some (.ref fi))(GT:FnOk P w K mg base CX0 1 ft fdt ["_law_pot_here", "_law_many"] zfu)(GN:FnOk P w K mg base CX0 2 fn fdn ["_law_pot_here", "_law_many"] spNames)(GM:FnOk P w K mg base CX0 2 fm fdm ["_law_pot_here", "_law_rounds_here", "_law_name"] (spMore G))(GI:FnOk P w K mg base CX0 3 fi fdi ["_law_pot_here", "_law_rounds_here"] (spTie G))(dB:mg "range" = none):FnOk P w K mg base CX0 4 f fd ["_law_pot_here", "_law_most"] (spRounds G):=by
 refine F.ok zdj (λvs H Q E h=>?_) (λcdv A outer s H vs Q E hr h=>?_)
 ·obtain ⟨p,b,m,n,rfl,_⟩:=h
  rfl
 ·obtain ⟨p,b,m,most,rfl,hp,hmost,k⟩:=h
  have hu:=zb9 hr
  have aH:Room 1 _:=hr.mono (by decide)
  have bA:Room 2 _:=hr.mono (by decide)
  have aG:sizeLine=16777216:=sizeLine_eq
  refine⟨_,zae (zam (i:=2) zdj.nd rfl (Or.inl rfl) zfl)
   (zae (zam (i:=3) zdj.nd rfl (Or.inl rfl) (zak GT aH rfl mT FT.kp bT .nil zaw (zac (pv 0) (zac zal zaf))))
   (zae (zbc Zh rfl (zav (zak GN bA rfl mN FN.kp bN .nil zaw (zac (pv 0) (zac (zak GT aH rfl mT FT.kp bT .nil zaw (zac (pv 0) (zac (zbd zc9 (pv 1) zal) zaf))) zaf)))) (zaj (i:=4) zdj.nd rfl (Or.inl rfl))
    (zae (za6 (zak GM bA rfl mM FM.kp bM .nil zaw (zac (pv 0) (zac (pv 2) (zac (pv 4) zaf)))))
    (zah (zbc Zh rfl (zc8 rfl dB (zac (pv 3) zaf)) (zaj (i:=5) zdj.nd rfl (Or.inl rfl))
     (zah (za6 (zak GI hr rfl mI FI.kp bI .nil zaw (zac (pv 0) (zac (pv 2) zaf)))))))))
   (zae (zbc Zh rfl (zc8 rfl dB (zac (zck zbu (zbh (zac zal (zac zal (zac zal zaf)))) (zak GT aH rfl mT FT.kp bT .nil zaw (zac (pv 0) (zac zal zaf))) (λ_ _=>rfl)) zaf)) (zaj (i:=5) zdj.nd rfl (Or.inl rfl))
     (zah (za6 (zak GI hr rfl mI FI.kp bI .nil zaw (zac (pv 0) (zac (pv 2) zaf))))))
   (zah (zbe (pv 2)))))),?_⟩
  refine(λd hd=>?_)
  have npd:p≠d:=zaa hp.1 hd
  refine⟨_,rfl,p,b,m,4,rfl,hp.keep (xs:=[]) (Keep.new hd) (by simp),by decide,by decide,λth b1 m1 H1 sQ hth1 fW qC=>?_⟩
  have k1:Keep [p,d] H H1:=(Keep.new hd).trans ((zbt qC).sub (by simp))
  have jV:H1 d=some (.dK []):=qC _ _ zab (Zc npd)
  refine⟨_,rfl,_,rfl,_,rfl,_,_,rfl,rfl,p,b1,m1,_,rfl,fW,(by lia),(by lia),λn2 b2 m2 H2 tV hn21 bo kp2=>?_⟩
  obtain⟨n,rfl⟩:=Yl tV
  have k2:Keep [p,d] H H2:=k1.trans ((zbt kp2).sub (by simp))
  have mH:H2 d=some (.dK []):=kp2 _ _ jV (Zc npd)
  refine⟨p,b2,m2,n,rfl,bo,by lia,λl zs b3 m3 H3 de lZ sw sv aV ah k3=>?_⟩
  have nlp:l≠p:=zc7 aV de
  have jU:H3 d=some (.dK []):=k3 _ _ mH (by simpa using Zc npd)
  have nld:l≠d:=zay de jU (by intro z;cases z)
  have dU:Keep [p,d] H H3:=k2.trans (k3.sub (by simp))
  obtain⟨t,rfl⟩:=Yl sQ
  let St0:List Str→Hp→Prop:=λks H'=>∃(es:List Ent) (b' m':Int),RAt H' d es∧G (rsOf es)∧es.map (·.1)=ks∧Pot H' p b' m'∧Keep [p,d] H H'
  have lkeep:∀{H':Hp},Keep [p,d] H3 H'→H' l=some (.lst (zs.map V.str)):=λkk=>kk _ _ de (by simp[nlp,nld])
  refine⟨l,rfl,⟨_,SqL.of de⟩,zco (zs:=zs) (λi σ H'=>Aj3 (Keep [p,d] H3 H') (Ex2 λx4 x5=>σ=[some (.ref p),some (.int most),some (.ref d),some (.int t),x4,x5]) (Ex3 λ(es:List Ent) (b' m':Int)=>Aj4 (RAt H' d es) (G (rsOf es)) (es.map (·.1)=zs.take i) (Pot H' p b' m')))
   ⟨Keep.refl,⟨none,none,rfl⟩,[],b3,m3,⟨jU,by simp,Zk⟩,g.nil,rfl,aV⟩ (λi σ H' _ hh=>SqL.of (lkeep hh.1)) ?_ ?_⟩
  ·rintro i hi σ H4 ⟨k4,⟨x4,x5,rfl⟩,es,b4,m4,R4,vm,dL,aI⟩
   have iE:es.length=i:=by
    have:=congrArg List.length dL
    rw[Qa,Zn]at this
    lia
   have aP:zs.take (i+1)=zs.take i++[zs[i]]:=Qn hi
   have bp:zs[i]∉es.map (·.1):=by
    rw[dL]
    have:(zs.take (i+1)).Nodup:=Wh (Jm _ _) sw
    rw[aP,Qy]at this
    exact λz=>this.2.2 _ z _ (Qb.mpr rfl) rfl
   refine⟨_,rfl,_,rfl,_,rfl,p,d,b4,m4,es,zs[i],rfl,aI,R4,vm,bp,by lia,λb5 m5 qm H5 ax R5 hG5 hk5 k5=>?_⟩
   refine⟨_,rfl,(t:Int),rfl,by lia,by lia,?_⟩
   rw[Wl]
   refine zef (λj σ H'=>Aj3 (Keep [p,d] H3 H') (Ex1 λx5=>σ=[some (.ref p),some (.int most),some (.ref d),some (.int t),some (.str zs[i]),x5]) (Ex3 λ(es:List Ent) (b' m':Int)=>Aj4 (RAt H' d es) (G (rsOf es)) (es.map (·.1)=zs.take (i+1)) (Pot H' p b' m')))
    ⟨k4.trans k5,⟨_,rfl⟩,qm,b5,m5,R5,hG5,by rw[hk5,dL,aP],ax⟩ ?_ ?_
   ·rintro j σ H6 hj ⟨k6,⟨x5,rfl⟩,ke,b6,m6,R6,qg,jM,aX⟩
    have gN:ke.length≤30:=by
     have:=congrArg List.length jM
     rw[Qa,Zn]at this
     lia
    refine⟨_,rfl,_,rfl,p,d,b6,m6,ke,rfl,aX,R6,qg,gN,λb7 m7 vA H7 bw R7 vk uf k7=>?_⟩
    exact⟨k6.trans k7,⟨_,rfl⟩,vA,b7,m7,R7,vk,by rw[uf,jM],bw⟩
   ·rintro σ H6 ⟨k6,⟨x5,rfl⟩,r⟩
    exact⟨k6,⟨_,_,rfl⟩,r⟩
  ·rintro σ H4 ⟨k4,⟨x4,x5,rfl⟩,es,b4,m4,R4,vm,dL,aI⟩
   rw[Qa,Qr (Qf _)]at dL
   have hle4:es.length=n:=by
    have:=congrArg List.length dL
    rw[Qa]at this
    lia
   refine⟨(by show 3≤sizeLine;decide),λq hq=>?_⟩
   refine⟨_,rfl,p,b4,m4,3,rfl,aI.keep (xs:=[]) (Keep.new hq) (by simp),by decide,by decide,λd5 b5 m5 H5 h50 h51 ax ku=>?_⟩
   have k5:=zbt ku
   have nqp:q≠p:=Zc (zaa aI.1 hq)
   have ou:H5 q=some (.lst [.int 0,.int 8,.int 30]):=k5 _ _ zab (by simpa using nqp)
   have R5:RAt H5 d es:=RAt.pot (R4.keep (xs:=[]) (Keep.new hq) (by simp) (λ_ _=>by simp)) (aI.keep (xs:=[]) (Keep.new hq) (by simp)) k5
   have jC:Keep [p,d] H H5:=((dU.trans k4).trans (Keep.new hq)).trans (k5.sub (by simp))
   obtain⟨j,hj,jZ⟩:∃j:Nat,j≤30∧atI [V.int 0,V.int 8,V.int 30] d5=some (.int (j:Int)):=by
    have:d5=0∨d5=1∨d5=2:=by lia
    rcases this with rfl | rfl | rfl
    ·exact⟨0,by decide,rfl⟩
    ·exact⟨8,by decide,rfl⟩
    ·exact⟨30,by decide,rfl⟩
   refine⟨q,_,_,_,rfl,rfl,SqL.of ou,jZ,(j:Int),rfl,by lia,by lia,?_⟩
   rw[Wl]
   refine zef (λj σ H'=>Aj3 (Keep [p,d] H H') (Ex2 λx4 x5=>σ=[some (.ref p),some (.int most),some (.ref d),some (.int t),x4,x5]) (Ex3 λ(es:List Ent) (b' m':Int)=>Aj4 (RAt H' d es) (G (rsOf es)) (es.map (·.1)=zs) (Pot H' p b' m')))
    ⟨jC,⟨_,_,rfl⟩,es,b5,m5,R5,vm,dL,ax⟩ ?_ ?_
   ·rintro j σ H6 hj ⟨k6,⟨x4,x5,rfl⟩,ke,b6,m6,R6,qg,jM,aX⟩
    have gN:ke.length≤30:=by
     have:=congrArg List.length jM
     rw[Qa]at this
     lia
    refine⟨_,rfl,_,rfl,p,d,b6,m6,ke,rfl,aX,R6,qg,gN,λb7 m7 vA H7 bw R7 vk uf k7=>?_⟩
    exact⟨k6.trans k7,⟨_,_,rfl⟩,vA,b7,m7,R7,vk,by rw[uf,jM],bw⟩
   ·rintro σ H6 ⟨k6,⟨x4,x5,rfl⟩,ke,b6,m6,R6,qg,jM,aX⟩
    have gN:ke.length≤most:=by
     have:=congrArg List.length jM
     rw[Qa]at this
     lia
    refine⟨_,rfl,k d ke b6 m6 H6 R6 qg gN (λe he=>sv _ (jM▸Qk.mpr ⟨e,he,rfl⟩)) aX hd ?_⟩
    exact Keep.cut (k6.sub (by simp)) hd
end
end K21
end
section
namespace K21
open PySem L2 Wb Tm
def zfm(a b:Str)(h:leS a b)(g:leS b a):a=b:=by
 have e:a.cps.toList=b.cps.toList:=List.le_antisymm (Kc.mp h) (Kc.mp g)
 cases a;cases b
 congr 1
 exact Xh.mp e
def ltS(a b:Str):Bool:=decide (a.cps.toList<b.cps.toList)
def ltS_total(h:ltS a b=false)(n:a≠b):ltS b a=true:=by
 refine decide_eq_true (Jc λz=>n ?_)
 exact zfm a b z (of_decide_eq_false h)
def leP(p q:Str×Str):Prop:=(pairO strO strO).kle (p.1.cps.toList,p.2.cps.toList) (q.1.cps.toList,q.2.cps.toList)
def leP_iff:leP p q↔leS p.1 q.1∧(ltS p.1 q.1=true∨leS p.2 q.2):=by
 unfold leP
 show(strO.blt q.1.cps.toList p.1.cps.toList||(!strO.blt p.1.cps.toList q.1.cps.toList&&strO.blt q.2.cps.toList p.2.cps.toList))=false↔_
 rw[Bool.or_eq_false_iff,Bool.and_eq_false_iff,Bool.not_eq_false']
 exact⟨λ⟨a,b⟩=>⟨of_decide_eq_false a,b.imp id of_decide_eq_false⟩,λ⟨a,b⟩=>⟨decide_eq_false a,b.imp id decide_eq_false⟩⟩
def leP_anti(p q:Str×Str)(h:leP p q)(g:leP q p):p=q:=by
 obtain⟨h1,h2⟩:=leP_iff.mp h
 obtain⟨g1,g2⟩:=leP_iff.mp g
 have e:=zfm _ _ h1 g1
 have irr:∀a:Str,ltS a a=false:=λa=>decide_eq_false (Ya _)
 rw[e]at h2 g2
 rw[irr]at h2 g2
 have e2:=zfm _ _ (h2.resolve_left (by decide)) (g2.resolve_left (by decide))
 exact Kl e e2
def pairsOf(rs:Rs Str):List (Str×Str):=rs.flatMap λp=>(p.2.filter λx=>ltS p.1 x).map λx=>(p.1,x)
def zeb(h:leS a b)(n:a≠b):ltS a b=true:=by
 cases z:ltS a b with
 |true=>rfl
 |false=>exact absurd (ltS_total z n) (by intro y;exact h (of_decide_eq_true y))
end K21
end
section
namespace K21
open PySem L2 Wb
abbrev sWeb:Stmt:=top 28
abbrev sTies:Stmt:=inClass sWeb 3
structure TAt(H:Hp)(d:Nc)(es:List Ent):Prop where
 dc:H d=some (.dK (es.map λe=>((Sum.inr e.1:Key),V.ref e.2.2)))
 ro:∀e∈es,H e.2.2=some (.tup (e.2.1.map V.str))
 nd:(es.map (·.1)).Nodup
def TAt.keep(r:TAt H d es)(k:Keep xs H H')(hd:d∉xs)(h:∀e∈es,e.2.2∉xs):TAt H' d es:=⟨k _ _ r.dc hd,λe he=>k _ _ (r.ro e he) (h e he),r.nd⟩
structure WAt(H:Hp)(C x dx d:Nc)(es:List Ent):Prop where
 ob:H x=some (.ins C dx [("rounds",.ref d)])
 ta:TAt H d es
def WAt.keep(r:WAt H C x dx d es)(k:Keep xs H H')(hx:x∉xs)(hd:d∉xs)(h:∀e∈es,e.2.2∉xs):WAt H' C x dx d es :=
 ⟨k _ _ r.ob hx,r.ta.keep k hd h⟩
inductive IspTies(C:Nc)(vs:List V)(H:Hp)(Q:VK):Prop
 |mk (x dx d:Nc) (es:List Ent) (h0:vs=[.ref x]) (h1:WAt H C x dx d es) (h2:es.length≤60) (h3:(∀e∈es,e.2.1.length≤100)) (h4:∀(l:Nc) (as:Nk) (qs:Nr) (H':Hp),H' l=some (.lst (as.map V.ref))→zar H' as qs→qs.Perm (pairsOf (rsOf es))→((pairsOf (rsOf es)).length<64→qs.Pairwise leP)→Keep [] H H'→Q (.ref l) H'):IspTies C vs H Q
def spTies(C:Nc):Sp:=λvs H Q _=>IspTies C vs H Q
abbrev zhe:Scope:=scOf (aOf 0 (eOf (sAt sTies 0)))
def csTies_k:zhe.kind=.function:=by rfl
def csTies_c:∀y∈zhe.names,y.2≠.cell:=by decide +kernel
def csTies_n:∀y∈zhe.names,y.2=.local→zhe.names.lookup y.1=some .local:=by decide +kernel
def csTies_f:∀y∈zhe.names,y.2=.free→(zag sTies).names.lookup y.1=some .cell∨(zag sTies).names.lookup y.1=some .free:=by decide +kernel
def csTies_l:zhe.names.lookup ("self" : Str)=some NameKind.free:=by decide +kernel
def ndT:(["one", "other", "self"]:List Str).Nodup:=by decide +kernel
def pe_fldK(hK:X.K=K)(he:PE X e ta)(hb:attributeBase e f X.env (eval e X.env)=eval e X.env):PE X (.Attribute e f pos) (tFld K ta f):=hK▸zg5 he hb
def pi_tupK(hK:X.K=K)(hl:PE X l tl):PI X tg l (iTup K tl):=hK▸pi_tup hl
def zf1(h:ws.Perm (as.map V.ref)):∃dl:List Addr,ws=dl.map V.ref∧dl.Perm as:=by
 have key:∀ws:List V,(∀v∈ws,∃a,v=V.ref a)→∃dl:List Addr,ws=dl.map V.ref:=by
  intro ws
  induction ws with
  |nil=>intro _;exact⟨[],rfl⟩
  |cons v t ih =>
   intro hh
   obtain⟨a,rfl⟩:=hh v Qc
   obtain⟨dl,rfl⟩:=ih λv hv=>hh v (Qh _ hv)
   exact⟨a::dl,rfl⟩
 obtain⟨dl,rfl⟩:=key ws λv hv=>by
  obtain⟨a,_,rfl⟩:=Qk.mp (h.mem_iff.mp hv)
  exact⟨a,rfl⟩
 refine⟨dl,rfl,?_⟩
 have:=h.map (λv:V=>match v with | .ref a=>a | _=>0)
 rw[Zq,Zq]at this
 have e:∀l:List Addr,l.map ((λv:V=>match v with | .ref a=>a | _=>0)∘V.ref)=l:=λl=>List.map_id l
 rw[e,e]at this
 exact this
def pairs_sorted(r:zar H as qs)(h:(as.map V.ref).Pairwise (fun a b=>(Tm.pairO Tm.strO Tm.strO).kle (pairV H a) (pairV H b))):qs.Pairwise leP:=by
 induction r with
 |nil=>exact List.Pairwise.nil
 | cons h1 t ih =>
  rw[Qm,Uc]at h
  refine Uc.mpr ⟨λq hq=>?_,ih h.2⟩
  have key:∀{as:Nk} {qs:Nr},zar H as qs→q∈qs→∃a∈as,H a=some (.tup [.str q.1,.str q.2]):=by
   intro as qs r
   induction r with
   |nil=>intro z;cases z
   | cons h t ih =>
    intro z
    rcases Qd.mp z with y | y
    ·subst y;exact⟨_,Qc,h⟩
    ·obtain ⟨a,ha,e⟩:=ih y
     exact⟨a,Qh _ ha,e⟩
  obtain⟨a,ha,ea⟩:=key t hq
  have:=h.1 (.ref a) (Qk.mpr ⟨a,ha,rfl⟩)
  rw[zf6 h1,zf6 ea]at this
  exact this
section
variable{P:Nj}{w:Nl}{K:Na}{mg:Ng}{base:Nm}
def scTies:zaq ["self"] ["self"] (zag sTies):=⟨rfl,rfl,rfl,by decide +kernel,rfl,by decide +kernel,by decide +kernel⟩
def ok_ties(F:Fun K "ties" "Web.ties" sTies f fd)(cW:Cls K C)(nW:zdg K C "rounds")(ay:mg "sorted" = none):FnOk P w K mg base CX0 1 f fd ["self"] (spTies C):=by
 refine F.ok scTies (λvs H Q E h=>?_) (λcdv A outer s H vs Q E hr h=>?_)
 ·obtain ⟨x,dx,d,es,rfl,_⟩:=h
  rfl
 ·obtain ⟨x,dx,d,es,rfl,wt,aN,aR,k⟩:=h
  have hx:=wt.ob
  have T:=wt.ta
  have hu:=zb9 hr
  have aG:sizeLine=16777216:=sizeLine_eq
  refine⟨_,zah (zbe (zai ze2 (by rfl) ay Yd (zac
   (zh2 (pe_lc2 (M:=["one", "other", "self"]) (ix:=[none,none,some 0]) ⟨csTies_k,csTies_c,csTies_n,csTies_f,rfl,by decide +kernel,λj i x h1 h2=>by
      match j,h1,h2 with
      |0,_,h2=>cases h2
      |1,_,h2=>cases h2
      |2,h1,h2=>cases h1;cases h2;exact⟨rfl,csTies_l⟩
      |n+3,h1,_=>cases h1⟩ rfl (zdw (zg5 (pv 0) rfl)) (λC a0 ex s H=>zaj (i:=0) ndT rfl (Or.inl rfl) (Or.inr rfl))
     (λC a0 ex s H=>pi_tupK (K:=K) rfl (zat (by exact hu) (pe_fldK (K:=K) rfl (pv 2) rfl) (pv 0) (λ_ _=>rfl)))
     (λC a0 ex s H=>zaj (i:=1) ndT rfl (Or.inl rfl) (Or.inr rfl))
     (λC a0 ex s H=>zes (zas op_lt_str (pv 0) (pv 1) (zbf _))) (λC a0 ex s H=>zdr (zac (pv 0) (zac (pv 1) zaf))))) zaf))),?_⟩
  have nfz:∀o' u',H d≠some (.frz o' u'):=λo' u' z=>by rw[T.dc]at z;cases z
  have nxd:x≠d:=zay hx T.dc (by intro z;cases z)
  have pd:∀i,pairsOf (rsOf (es.take i))=(es.take i).flatMap λe=>(e.2.1.filter λy=>ltS e.1 y).map λy=>(e.1,y):=λi=>by
   unfold pairsOf rsOf;rw[List.flatMap_map]
  refine⟨_,rfl,x,C,dx,_,_,rfl,hx,cW,nW,rfl,d,_,rfl,T.dc,λo=>⟨λi m ys τ H1=>Aj6 (m=es.length-i) (i≤es.length) (Ex2 λx0 x1=>τ=[x0,x1,some (.ref x)]) (H1 d=some (.frz o (.dK (es.map λe=>((Sum.inr e.1:Key),V.ref e.2.2))))) (Keep [d] H H1) (Ex1 λ(as:Nk)=>Aj3 (ys=as.map V.ref) (as.length≤100*i) (zar H1 as (pairsOf (rsOf (es.take i))))),
   ⟨es.length,rfl,Zi _,⟨none,none,rfl⟩,zab,Keep.wr Qc,[],rfl,Zi _,.nil⟩,?_⟩⟩
  rintro i m ys τ H1 ⟨rfl,hi,⟨x0,x1,rfl⟩,hz,k1,as,rfl,ve,pa⟩
  by_cases aa:i<es.length
  ·refine .inr ⟨⟨hz,by rw [Qa];exact aa⟩,?_⟩
   rintro y H' ⟨rfl,pr,e1,rfl⟩
   have g1:pr=((Sum.inr es[i].1:Key),V.ref es[i].2.2):=by
    rw[Qz,Qg aa]at e1
    exact(Qp e1).symm
   subst g1
   have aT:es[i]∈es:=Qq aa
   have fR:=T.ro _ aT
   have nri:es[i].2.2≠d:=zay fR T.dc (by intro z;cases z)
   have hx1:=k1 _ _ hx (by simpa using nxd)
   have tw:=aR _ aT
   refine⟨_,rfl,x,C,dx,_,_,rfl,hx1,cW,nW,rfl,_,rfl,d,.ref es[i].2.2,rfl,.inl ⟨_,Sum.inr es[i].1,.inr ⟨o,hz⟩,rfl,(zbv T.nd aT).symm⟩,es[i].2.2,rfl,⟨_,SqT.of (k1 _ _ fR (by simpa using nri))⟩,?_⟩
   refine⟨λj m2 ys τ H2=>Aj6 (m2=es[i].2.1.length-j) (j≤es[i].2.1.length) (Ex1 λx1=>τ=[some (.str es[i].1),x1,some (.ref x)]) (H2 d=some (.frz o (.dK (es.map λe=>((Sum.inr e.1:Key),V.ref e.2.2))))) (Keep [d] H H2) (Ex1 λ(as:Nk)=>Aj3 (ys=as.map V.ref) (as.length≤100*i+j) (zar H2 as (pairsOf (rsOf (es.take i))++((es[i].2.1.take j).filter λy=>ltS es[i].1 y).map λy=>(es[i].1,y)))),
    ⟨es[i].2.1.length,rfl,Zi _,⟨_,rfl⟩,hz,k1,as,rfl,ve,by simpa using pa⟩,?_⟩
   rintro j m2 ys τ H2 ⟨rfl,hj,⟨x1',rfl⟩,fO,k2,cJ,rfl,jq,gc⟩
   have bA:=k2 _ _ fR (by simpa using nri)
   by_cases cC:j<es[i].2.1.length
   ·refine .inr ⟨⟨_,.str es[i].2.1[j],SqT.of bA,by rw [Qz,Qg cC];rfl⟩,by rw [Qa];lia,?_⟩
    rintro y H3 ⟨rfl,hy⟩
    have bK:=hy _ (SqT.of bA)
    rw[Qz,Qg cC]at bK
    obtain rfl:V.str es[i].2.1[j]=y:=Qp bK
    have aP:es[i].2.1.take (j+1)=es[i].2.1.take j++[es[i].2.1[j]]:=Qn cC
    refine⟨_,rfl,_,rfl,_,_,rfl,rfl,_,rfl,?_⟩
    cases hl:ltS es[i].1 es[i].2.1[j] with
    |false =>
     refine za5 hl ⟨_,?_,rfl,cC,⟨_,rfl⟩,fO,k2,cJ,rfl,by exact zar16 ‹_›,?_⟩
     ·exact zar1 ‹_›
     ·rw[aP,Yq,Zu (by rw[hl];decide),Uh,Zv];exact gc
    | true =>
     refine zb6 hl ⟨_,rfl,_,rfl,(by show 2≤sizeLine;decide),λt ht=>⟨_,?_,rfl,cC,⟨_,rfl⟩,?_,k2.trans (Keep.new ht),cJ++[t],?_,?_,?_⟩⟩
     ·exact zar1 ‹_›
     ·rw[zad (zaa fO ht)];exact fO
     ·rw[Qs];rfl
     ·rw[Qo];show _+1≤_;exact zar4 ‹_›
     ·rw [aP,Yq,Zt (by rw [hl]),Uh,Qs,← Qt]
      refine zar.snoc (zar.keep gc λb x y eb=>?_) zab
      rw[zad (zaa eb ht)];exact eb
   ·have ej:j=es[i].2.1.length:=by exact zar3 ‹_› ‹_›
    subst ej
    refine .inl ⟨⟨_,SqT.of bA,by rw[Qa];exact Qf _⟩,_,?_,rfl,aa,⟨_,_,rfl⟩,fO,k2,cJ,rfl,?_,?_⟩
    ·exact zar1 ‹_›
    ·lia
    ·rw [pd,Qn aa,List.flatMap_append,Uu,List.flatMap_nil,Zv,← pd]
     rw[Qr (Qf _)]at gc
     exact gc
  ·have fA:i=es.length:=by exact zar3 ‹_› ‹_›
   subst fA
   refine .inl ⟨⟨hz,by rw[Qa];exact Qf _⟩,λD hD=>?_⟩
   rw[Qr (Qf _)]at pa
   have ndD:d≠D:=zaa hz hD
   refine⟨d,o,_,(by rw[zad ndD];exact hz),nfz,?_⟩
   have k2:Keep [] H (upd (upd H1 D (.lst (as.map V.ref))) d (.dK (es.map λe=>((Sum.inr e.1:Key),V.ref e.2.2)))):=λc u ec _=>by
    by_cases au:c=d
    ·subst au
     rw[zab,←T.dc];exact ec
    ·have fH:=k1 c u ec (by simpa using au)
     rw[zad au,zad (zaa fH hD)];exact fH
   have gc:zar (upd (upd H1 D (.lst (as.map V.ref))) d (.dK (es.map λe=>((Sum.inr e.1:Key),V.ref e.2.2)))) as (pairsOf (rsOf es)):=zar.keep pa λb x y eb=>by
    rw[zad (zay eb hz (by intro z;cases z)),zad (zaa eb hD)];exact eb
   have dr:(upd (upd H1 D (.lst (as.map V.ref))) d (.dK (es.map λe=>((Sum.inr e.1:Key),V.ref e.2.2)))) D=some (.lst (as.map V.ref)):=by rw[zad (Zc ndD)];exact zab
   generalize upd (upd H1 D (.lst (as.map V.ref))) d (.dK (es.map λe=>((Sum.inr e.1:Key),V.ref e.2.2)))=H2 at k2 gc dr
   refine⟨D,_,rfl,SqL.of dr,λv hv=>?_,λl ws hl ae ao=>?_⟩
   ·obtain ⟨a,ha,rfl⟩:=Qk.mp hv
    obtain⟨r,fS⟩:=pairs_mem gc ha
    exact⟨a,r.1,r.2,rfl,fS⟩
   ·obtain ⟨dl,rfl,aW⟩:=zf1 ae
    obtain⟨qs,cL,bm⟩:=zc0 aW gc
    refine k l dl qs _ zab (zar.keep bm λb x y eb=>by rw[zad (zaa eb hl)];exact eb) cL (λkb=>pairs_sorted bm (ao (by rw[Qa,Yb gc];exact kb))) (k2.trans (Keep.new hl))
end
def za8:∀{as:List α} {bs:List β},Paired R as bs→∀{i:Nat} (hi:i<as.length),∃ar:i<bs.length,R as[i] bs[i]:=by
 intro as bs r
 induction r with
 |nil=>intro i hi;simp at hi
 | cons h t ih =>
  intro i hi
  cases i with
  |zero=>exact⟨by simp,h⟩
  |succ j =>
   obtain⟨a,b⟩:=ih (i:=j) (by simpa using hi)
   exact⟨by simpa using a,b⟩
section
variable{P:Nj}{w:Nl}{K:Na}{mg:Ng}{base:Nm}
end
end K21
end
section
namespace L2
open PySem
def zfe:PS X st (λ_ _ _=>False):=λ_ _ _ _ _ _ h=>h.elim
def pe_tyN(hg:Gl X x)(hm:X.mg x=none)(hv:bootBuiltins x=some (.type T))(hn:x ≠ "__name__" := by decide)(jn:(x==("__debug__" : Str))=false:=by decide):PE X (.Name x pos) (tC (.ty T)):=by
 intro a0 s σ H Q I h
 exact zg8 I hg hm hv ⟨.ty T,H,I,rfl,h⟩ hn jn
end L2
namespace K21
open PySem L2 Wb
abbrev zdt:Stmt:=top 22
inductive IspIsName(vs:List V)(H:Hp)(Q:VK):Prop
 |mk (z:Str) (h0:vs=[.str z]) (h1:zds z) (h2:∀H',Keep [] H H'→Q (.bl true) H'):IspIsName vs H Q
def spIsName:Sp:=λvs H Q _=>IspIsName vs H Q
abbrev zei:Scope:=scOf (aOf 0 (aOf 1 (eOf (sAt zdt 1))))
def csIsName_k:zei.kind=.function:=by rfl
def csIsName_c:∀y∈zei.names,y.2≠.cell:=by decide +kernel
def csIsName_n:∀y∈zei.names,y.2=.local→zei.names.lookup y.1=some .local:=by decide +kernel
def csIsName_f:∀y∈zei.names,y.2=.free→(zag zdt).names.lookup y.1=some .cell∨(zag zdt).names.lookup y.1=some .free:=by decide +kernel
def nd1:(["sign"]:List Str).Nodup:=by decide +kernel
section
variable{P:Nj}{w:Nl}{K:Na}{mg:Ng}{base:Nm}
def scIsName:zaq ["thing"] ["thing"] (zag zdt):=⟨rfl,rfl,rfl,by decide +kernel,rfl,by decide +kernel,by decide +kernel⟩
def ok_isname(F:Fun K "is_name" "is_name" zdt f fd)(hML:mg "MOST_LETTERS" = some (.int 8 tk))(gY:mg "isinstance" = none)(sW:mg "str" = none)(a9:mg "len" = none)(aw:mg "all" = none):FnOk P w K mg base CX0 1 f fd ["thing"] spIsName:=by
 refine F.ok scIsName (λvs H Q E h=>?_) (λcdv A outer s H vs Q E hr h=>?_)
 ·obtain ⟨z,rfl,_⟩:=h
  rfl
 ·obtain ⟨z,rfl,hz,k⟩:=h
  have hu:=zb9 hr
  have aG:sizeLine=16777216:=sizeLine_eq
  refine⟨_,zae (zb5 (pt_not (zf2 (zai call_isi_str (by rfl) gY Kf (zac (pv 0) (zac (pe_tyN (T := "str") rfl sW PyProof.Rows.boot_str) zaf))))) (zah zfe) za0)
   (zah (zbe (pe_and (pe_chain op_le op_le zal (zai call_len_str (by rfl) a9 Zx (zac (pv 0) zaf)) (pe_glob (v:=.int 8) rfl hML ⟨tk,rfl⟩))
    (pe_one (zai (zfo rfl) (by rfl) aw Ju (zac (zf3 (M:=["sign"]) (ix:=[none]) ⟨csIsName_k,csIsName_c,csIsName_n,csIsName_f,rfl,by decide +kernel,λj i x h1 h2=>by
       match j,h1,h2 with
       |0,_,h2=>cases h2
       |n+1,h1,_=>cases h1⟩ rfl (pi_str (pv 0)) (λC a0 ex s H=>zaj (i:=0) nd1 rfl (Or.inl rfl) (Or.inr rfl))
       (λC a0 ex s H=>zci) (λC a0 ex s H=>pe_chain op_le_str op_le_str ze9 (pv 0) ze9)) zaf)))))),?_⟩
  obtain⟨hz1,fO,jE⟩:=hz
  have hz1':1≤z.cps.size:=hz1
  have hz2':z.cps.size≤8:=fO
  refine⟨_,rfl,z,rfl,_,rfl,za5 rfl ?_⟩
  refine⟨_,rfl,z,rfl,(by show z.cps.size≤sizeLine;lia),_,_,rfl,rfl,_,rfl,zb6 (decide_eq_true (by show(1:Int)≤(z.cps.size:Int);exact zar9 ‹_›)) ?_⟩
  refine⟨_,_,rfl,rfl,_,rfl,zb6 (decide_eq_true (by show(z.cps.size:Int)≤8;lia)) ?_⟩
  have asc:z.cps.all (· < 128)=true:=by
   rw[Array.all_eq_true]
   intro i hi
   have:=jE z.cps[i] (by rw[Array.mem_toList_iff];exact Array.getElem_mem hi)
   exact decide_eq_true (by lia)
  refine⟨_,rfl,z,rfl,asc,λi m ys τ H1=>Aj5 (H1=H) (m=z.cps.size-i) (i≤z.cps.size) (ys=List.replicate i (V.bl true)) (Ex1 λx0=>τ=[x0]),⟨_,rfl,rfl,Zi _,rfl,none,rfl⟩,?_⟩
  rintro i m ys τ H1 ⟨rfl,rfl,hi,rfl,x0,rfl⟩
  by_cases aa:i<z.cps.size
  ·refine .inr ⟨aa,by rw [Uq];lia,?_⟩
   rintro y H' ⟨rfl,c,hc,rfl⟩
   obtain⟨h1,h2⟩:=jE c (by rw[Array.mem_toList_iff];exact Array.mem_of_getElem? hc)
   have l1:(!decide ((⟨#[c]⟩:Str).cps.toList<("a" : Str).cps.toList))=true:=by
    rw[Jr,decide_eq_false_iff_not,show("a" : Str).cps.toList=[97] from by decide +kernel]
    show ¬[c]<[97]
    intro h
    have:=List.cons_lt_cons_iff.mp h
    rcases this with q | ⟨_,q⟩
    ·exact zar10 ‹_› ‹_›
    ·exact Ya _ q
   have l2:(!decide (("z" : Str).cps.toList<(⟨#[c]⟩:Str).cps.toList))=true:=by
    rw[Jr,decide_eq_false_iff_not,show("z" : Str).cps.toList=[122] from by decide +kernel]
    show ¬[122]<[c]
    intro h
    have:=List.cons_lt_cons_iff.mp h
    rcases this with q | ⟨_,q⟩
    ·exact zar10 ‹_› ‹_›
    ·exact Ya _ q
   refine⟨_,rfl,_,_,rfl,rfl,_,rfl,zb6 l1 ?_⟩
   refine⟨_,_,rfl,rfl,_,?_,rfl,rfl,aa,?_,_,rfl⟩
   ·exact zar1 ‹_›
   ·rw[l2,List.replicate_succ']
  ·have e:i=z.cps.size:=by exact zar3 ‹_› ‹_›
   subst e
   refine .inl ⟨Qf _,λD hD=>?_⟩
   refine⟨D,List.replicate z.cps.size true,rfl,SqL.of (by rw[zab,List.map_replicate]),?_⟩
   have:(List.replicate z.cps.size true).all id=true:=by
    rw[Ua];intro b hb;exact(List.mem_replicate.mp hb).2
   rw[this]
   exact k _ (Keep.new hD)
end
end K21
end
section
namespace L2
open PySem
def lc_at(T:St→Prop)(ys:List V)(hl:ys.length=xs.length)(ha:SqL K H a xs)(hn:xs.length≤sizeLine)(h0:T τ)(hs:∀(i:Nat) (hi:i<xs.length) (dM:i<ys.length),∀τ,T τ→∀k:V→St→Hp→Prop,(∀τ2,T τ2→k ys[i] τ2 H)→g xs[i] τ H λ τ2 H2=>te τ2 H2 λy H4=>k y τ2 H4)(q:∀D,H D=none→Q (.ref D) (upd H D (.lst ys))):rLC g tAll te Q (Itl K a) τ H:=by
 refine⟨λi m zs τ H1=>Aj5 (H1=H) (T τ) (m=xs.length-i) (i≤xs.length) (zs=ys.take i),⟨_,rfl,h0,rfl,Zi _,rfl⟩,?_⟩
 rintro i m zs τ H1 ⟨rfl,ht,rfl,hi,rfl⟩
 by_cases aa:i<xs.length
 ·refine .inr ⟨⟨xs,xs[i],ha,Qg aa⟩,by rw [Zn];lia,?_⟩
  rintro x H' ⟨rfl,hx⟩
  have eO:=hx xs ha
  rw[Qg aa]at eO
  have qF:xs[i]=x:=Qp eO
  rw[←qF]
  refine hs i aa (by exact zar6 ‹_› ‹_›) τ ht (λy τ2 H4=>∃m',m'<xs.length-i∧Aj5 (H4=H') (T τ2) (m'=xs.length-(i+1)) (i+1≤xs.length) (ys.take i++[y]=ys.take (i+1))) λ τ2 h2=>?_
  exact⟨_,by exact zar1 ‹_›,rfl,h2,rfl,aa,by rw[Qn (by exact zar6 ‹_› ‹_›:i<ys.length)]⟩
 ·have e:i=xs.length:=by exact zar3 ‹_› ‹_›
  refine .inl ⟨⟨xs,ha,by lia⟩,λD hD=>?_⟩
  rw[Qr (by lia)]
  exact q D hD
end L2
namespace K21
open PySem L2 Wb
structure RwAt(H:Hp)(l:Nc)(as:Nk)(es:List Ent):Prop where
 ls:H l=some (.lst (as.map V.ref))
 ts:Paired (λa (e:Ent)=>H a=some (.tup [.str e.1,.ref e.2.2])) as es
 ro:∀e∈es,H e.2.2=some (.lst (e.2.1.map V.str))
def RwAt.keep(r:RwAt H l as es)(k:Keep [] H H'):RwAt H' l as es :=
 ⟨k _ _ r.ls (by simp),Paired.imp' (λ_ _ h=>k _ _ h (by simp)) r.ts,λe he=>k _ _ (r.ro e he) (by simp)⟩
abbrev zfj:Stmt:=top 23
abbrev zdp:Stmt:=top 24
abbrev zhu:Stmt:=top 25
inductive zhk(vs:List V)(H:Hp)(Q:VK):Prop
 |mk (l:Nc) (as:Nk) (es:List Ent) (h0:vs=[.ref l]) (h1:RwAt H l as es) (h2:(∀e∈es,e.2.1.length≤100∧zds e.1∧∀x∈e.2.1,zds x)) (h3:∀H',Keep [] H H'→Q .non H'):zhk vs H Q
def spNoNames:Sp:=λvs H Q _=>zhk vs H Q
inductive IspTwice(vs:List V)(H:Hp)(Q:VK):Prop
 |mk (l:Nc) (as:Nk) (es:List Ent) (h0:vs=[.ref l]) (h1:RwAt H l as es) (h2:es.length≤60) (h3:(es.map (·.1)).Nodup) (h4:(∀e∈es,e.2.1.length≤100∧e.2.1.Nodup)) (h5:∀H',Keep [] H H'→Q .non H'):IspTwice vs H Q
def spTwice:Sp:=λvs H Q _=>IspTwice vs H Q
inductive IspOneWay(vs:List V)(H:Hp)(Q:VK):Prop
 |mk (l:Nc) (as:Nk) (es:List Ent) (h0:vs=[.ref l]) (h1:RwAt H l as es) (h2:(es.map (·.1)).Nodup) (h3:(∀e∈es,e.1∉e.2.1∧∀x∈e.2.1,∃e'∈es,e'.1=x∧e.1∈e'.2.1)) (h4:∀H',Keep [] H H'→Q .non H'):IspOneWay vs H Q
def spOneWay:Sp:=λvs H Q _=>IspOneWay vs H Q
section
variable{P:Nj}{w:Nl}{K:Na}{mg:Ng}{base:Nm}
def zd5:zaq ["rows", "place", "around", "thing"] ["rows"] (zag zfj):=⟨rfl,rfl,rfl,by decide +kernel,rfl,by decide +kernel,by decide +kernel⟩
def ok_nonames(F:Fun K "refuse_no_names" "refuse_no_names" zfj f fd)(FN:Fun K "is_name" "is_name" zdt fn fdn)(bN:Binds K fdn ["thing"] [])(mN:mg "is_name" = some (.ref fn))(GN:FnOk P w K mg base CX0 1 fn fdn ["thing"] spIsName):FnOk P w K mg base CX0 2 f fd ["rows"] spNoNames:=by
 refine F.ok zd5 (λvs H Q E h=>?_) (λcdv A outer s H vs Q E hr h=>?_)
 ·obtain ⟨l,as,es,rfl,_⟩:=h
  rfl
 ·obtain ⟨l,as,es,rfl,R,hok,k⟩:=h
  have hu:=zb9 hr
  have aG:sizeLine=16777216:=sizeLine_eq
  refine⟨_,zah (zbc Zh rfl (zav (pv 0)) (ze8 rfl (zax (zaj (i:=1) zd5.nd rfl (Or.inl rfl)) (zax (zaj (i:=2) zd5.nd rfl (Or.inl rfl)) zcj)))
   (zah (zbc Zh rfl (zav (zbd zea (zbh (zac (pv 1) zaf)) (pv 2))) (zaj (i:=3) zd5.nd rfl (Or.inl rfl))
    (zah (zb5 (pt_not (zf2 (zak GN hr rfl mN FN.kp bN .nil zaw (zac (pv 3) zaf)))) (zah zfe) za0))))),?_⟩
  refine⟨_,rfl,l,rfl,⟨_,SqL.of R.ls⟩,zbr (xs:=as.map V.ref) (λi σ H'=>Aj2 (Keep [] H H') (Ex3 λx1 x2 x3=>σ=[some (.ref l),x1,x2,x3])) ⟨Keep.refl,none,none,none,rfl⟩ (λi σ H' _ hh=>SqL.of (hh.1 _ _ R.ls (by simp))) ?_ ?_⟩
  ·rintro i y σ H1 hx ⟨k1,x1,x2,x3,rfl⟩
   have hi:i<as.length:=by
    have:=(Zb.mp hx).1
    rwa[Qa]at this
   have gj:y=.ref as[i]:=by
    rw[Qz,Qg hi]at hx
    exact(Qp hx).symm
   subst gj
   obtain⟨ar,dP⟩:=za8 R.ts hi
   obtain⟨de,fX,bQ⟩:=hok _ (Qq ar)
   have cV:=k1 _ _ (R.ro _ (Qq ar)) (by simp)
   refine⟨as[i],_,rfl,SqT.of (k1 _ _ dP (by simp)),rfl,_,_,rfl,_,_,rfl,rfl,?_⟩
   refine⟨_,rfl,(by show 1≤sizeLine;decide),λq hq=>?_⟩
   have nq:es[i].2.2≠q:=zaa cV hq
   refine⟨_,rfl,q,es[i].2.2,_,_,rfl,rfl,zab,(by rw[zad nq];exact cV),(by rw[Qa];show 1+_≤sizeLine;lia),λq2 bm=>?_⟩
   have k2:Keep [] H (upd (upd H1 q (.lst [.str es[i].1])) q2 (.lst ([V.str es[i].1]++es[i].2.1.map V.str))):=(k1.trans (Keep.new hq)).trans (Keep.new bm)
   have dD:(upd (upd H1 q (.lst [.str es[i].1])) q2 (.lst ([V.str es[i].1]++es[i].2.1.map V.str))) q2=some (.lst ((es[i].1::es[i].2.1).map V.str)):=zab
   generalize upd (upd H1 q (.lst [.str es[i].1])) q2 (.lst ([V.str es[i].1]++es[i].2.1.map V.str))=H2 at k2 dD
   refine⟨q2,rfl,⟨_,SqL.of dD⟩,zbr (xs:=(es[i].1::es[i].2.1).map V.str) (λj σ H'=>Aj2 (Keep [] H2 H') (Ex3 λx1 x2 x3=>σ=[some (.ref l),x1,x2,x3])) ⟨Keep.refl,_,_,_,rfl⟩ (λj σ H' _ hh=>SqL.of (hh.1 _ _ dD (by simp))) ?_ ?_⟩
   ·rintro j y σ H3 hy ⟨k3,y1,y2,y3,rfl⟩
    obtain⟨z,hz,rfl⟩:=Qk.mp (Yv hy)
    have fM:zds z:=by
     rcases Qd.mp hz with e | e
     ·rw[e];exact fX
     ·exact bQ z e
    refine⟨_,rfl,z,rfl,fM,λH4 k4=>⟨_,rfl,za5 rfl ?_⟩⟩
    exact⟨k3.trans k4,_,_,_,rfl⟩
   ·rintro σ H3 ⟨k3,y1,y2,y3,rfl⟩
    exact⟨k2.trans k3,_,_,_,rfl⟩
  ·rintro σ H1 ⟨k1,x1,x2,x3,rfl⟩
   exact k H1 k1
abbrev csTwA:Scope:=scOf (eOf (sAt zdp 0))
abbrev csTwB:Scope:=scOf (aOf 1 (eOf (sAt zdp 1)))
def csTwA_k:csTwA.kind=.function:=by rfl
def csTwA_c:∀y∈csTwA.names,y.2≠.cell:=by decide +kernel
def csTwA_n:∀y∈csTwA.names,y.2=.local→csTwA.names.lookup y.1=some .local:=by decide +kernel
def csTwA_f:∀y∈csTwA.names,y.2=.free→(zag zdp).names.lookup y.1=some .cell∨(zag zdp).names.lookup y.1=some .free:=by decide +kernel
def csTwB_k:csTwB.kind=.function:=by rfl
def csTwB_c:∀y∈csTwB.names,y.2≠.cell:=by decide +kernel
def csTwB_n:∀y∈csTwB.names,y.2=.local→csTwB.names.lookup y.1=some .local:=by decide +kernel
def csTwB_f:∀y∈csTwB.names,y.2=.free→(zag zdp).names.lookup y.1=some .cell∨(zag zdp).names.lookup y.1=some .free:=by decide +kernel
def ndPA:(["place", "around"]:List Str).Nodup:=by decide +kernel
def scTwice:zaq ["rows", "places", "names"] ["rows"] (zag zdp):=⟨rfl,rfl,rfl,by decide +kernel,rfl,by decide +kernel,by decide +kernel⟩
def noB(h1:sc.kind=.function)(h2:∀y∈sc.names,y.2≠.cell)(h3:∀y∈sc.names,y.2=.local→sc.names.lookup y.1=some .local)(h4:∀y∈sc.names,y.2=.free→X.env.scope.names.lookup y.1=some .cell∨X.env.scope.names.lookup y.1=some .free)(h5:n=M.length)(h6:M.Nodup):Blk X sc M (List.replicate n none):=⟨h1,h2,h3,h4,by rw [Uq,h5],h6,fun j i x _ h=>by
   have:=Yv h
   have:=(List.mem_replicate.mp this).2
   cases this⟩
def zh0(hK:X.K=K)(hc:X.calm=true)(h:PGs X es t)(hn:(assignEach es X.env).length=n:=by rfl)(aQ:(assignEach es X.env).findIdx? (·.1)=none:=by rfl):PG X (.Tuple es k pos) (gTup K n t):=hK▸ze8 hc h hn aQ
def ok_twice(F:Fun K "refuse_twice" "refuse_twice" zdp f fd)(a9:mg "len" = none)(kO:mg "set" = none):FnOk P w K mg base CX0 1 f fd ["rows"] spTwice:=by
 refine F.ok scTwice (λvs H Q E h=>?_) (λcdv A outer s H vs Q E hr h=>?_)
 ·obtain ⟨l,as,es,rfl,_⟩:=h
  rfl
 ·obtain ⟨l,as,es,rfl,R,lA,aB,hok,k⟩:=h
  have hu:=zb9 hr
  have aG:sizeLine=16777216:=sizeLine_eq
  refine⟨_,zae (ps_lc (i:=1) (M:=["place", "around"]) (ix:=[none,none]) scTwice.nd rfl rfl (noB (n:=2) csTwA_k csTwA_c csTwA_n csTwA_f rfl ndPA) rfl (zav (pv 0))
    (λC a0 ex s H=>zh0 (K:=K) (n:=2) rfl rfl (zax (zaj (i:=0) ndPA rfl (Or.inl rfl) (Or.inr rfl)) (zax (zaj (i:=1) ndPA rfl (Or.inl rfl) (Or.inr rfl)) zcj)))
    (λC a0 ex s H=>zci) (λC a0 ex s H=>pv 0) rfl)
   (zah (zbc Zh rfl (zav (zbd zea (zbh (zac (pv 1) zaf)) (zf3 (M:=["place", "around"]) (ix:=[none,none]) (noB (n:=2) csTwB_k csTwB_c csTwB_n csTwB_f rfl ndPA) rfl (zav (pv 0))
    (λC a0 ex s H=>zh0 (K:=K) (n:=2) rfl rfl (zax (zaj (i:=0) ndPA rfl (Or.inl rfl) (Or.inr rfl)) (zax (zaj (i:=1) ndPA rfl (Or.inl rfl) (Or.inr rfl)) zcj)))
    (λC a0 ex s H=>zci) (λC a0 ex s H=>pv 1)))) (zaj (i:=2) scTwice.nd rfl (Or.inl rfl))
    (zah (zb5 (zas op_lt (zai zek (by rfl) a9 Zx (zac (zct (zej rfl) (by rfl) kO PyProof.Rows.boot_set (zac (pv 2) zaf)) zaf))
     (zai zan (by rfl) a9 Zx (zac (pv 2) zaf)) (zbf _)) (zah zfe) za0)))),?_⟩
  have jq:as.length=es.length:=Yb R.ts
  refine⟨_,rfl,l,rfl,⟨_,SqL.of R.ls⟩,lc_at (xs:=as.map V.ref) (λ τ=>∃x0 x1,τ=[x0,x1]) ((es.map (·.1)).map V.str) (by rw[Qa,Qa,Qa,jq]) (SqL.of R.ls) (by rw[Qa];lia) ⟨none,none,rfl⟩ ?_ (λD hD=>?_)⟩
  ·rintro i hi dM τ ⟨x0,x1,rfl⟩ kk hk
   rw[Qa]at hi
   obtain⟨ar,dP⟩:=za8 R.ts hi
   rw[Zs]
   refine⟨as[i],_,rfl,SqT.of dP,rfl,_,_,rfl,_,_,rfl,rfl,_,rfl,?_⟩
   have e:((es.map (·.1)).map V.str)[i]=V.str es[i].1:=by rw[Zs,Zs]
   rw[e]at hk
   exact hk _ ⟨_,_,rfl⟩
  ·have k1:Keep [] H (upd H D (.lst ((es.map (·.1)).map V.str))):=Keep.new hD
   have rB:(upd H D (.lst ((es.map (·.1)).map V.str))) D=some (.lst ((es.map (·.1)).map V.str)):=zab
   generalize upd H D (.lst ((es.map (·.1)).map V.str))=H1 at k1 rB
   have R1:=R.keep k1
   refine⟨_,rfl,(by show 1≤sizeLine;decide),λq hq=>?_⟩
   have k2:Keep [] H1 (upd H1 q (.lst [.ref D])):=Keep.new hq
   have bm:(upd H1 q (.lst [.ref D])) q=some (.lst [.ref D]):=zab
   generalize upd H1 q (.lst [.ref D])=H2 at k2 bm
   have R2:=R1.keep k2
   refine⟨_,rfl,l,rfl,⟨_,SqL.of R2.ls⟩,lc_at (xs:=as.map V.ref) (λ τ=>∃x0 x1,τ=[x0,x1]) (es.map λe=>V.ref e.2.2) (by rw[Qa,Qa,jq]) (SqL.of R2.ls) (by rw[Qa];lia) ⟨none,none,rfl⟩ ?_ (λD2 dr=>?_)⟩
   ·rintro i hi dM τ ⟨x0,x1,rfl⟩ kk hk
    rw[Qa]at hi
    obtain⟨ar,dP⟩:=za8 R2.ts hi
    rw[Zs]
    refine⟨as[i],_,rfl,SqT.of dP,rfl,_,_,rfl,_,_,rfl,rfl,_,rfl,?_⟩
    rw[Zs]at hk
    exact hk _ ⟨_,_,rfl⟩
   ·have k3:Keep [] H2 (upd H2 D2 (.lst (es.map fun e=>V.ref e.2.2))):=Keep.new dr
    have ju:(upd H2 D2 (.lst (es.map λe=>V.ref e.2.2))) D2=some (.lst (es.map λe=>V.ref e.2.2)):=zab
    generalize upd H2 D2 (.lst (es.map λe=>V.ref e.2.2))=H3 at k3 ju
    refine⟨q,D2,_,_,rfl,rfl,k3 _ _ bm (by simp),ju,(by rw[Qa];show 1+_≤sizeLine;lia),λq4 hq4=>?_⟩
    have k4:Keep [] H3 (upd H3 q4 (.lst ([V.ref D]++es.map λe=>V.ref e.2.2))):=Keep.new hq4
    have kY:(upd H3 q4 (.lst ([V.ref D]++es.map λe=>V.ref e.2.2))) q4=some (.lst ([V.ref D]++es.map λe=>V.ref e.2.2)):=zab
    generalize upd H3 q4 (.lst ([V.ref D]++es.map λe=>V.ref e.2.2))=H4 at k4 kY
    have nH:Keep [] H H4:=((k1.trans k2).trans k3).trans k4
    refine⟨q4,rfl,⟨_,SqL.of kY⟩,zbr (xs:=[V.ref D]++es.map λe=>V.ref e.2.2) (λi σ H'=>Aj2 (Keep [] H4 H') (Ex2 λx1 x2=>σ=[some (.ref l),x1,x2])) ⟨Keep.refl,_,_,rfl⟩ (λi σ H' _ hh=>SqL.of (hh.1 _ _ kY (by simp))) ?_ ?_⟩
    ·rintro i y σ H5 hy ⟨k5,x1,x2,rfl⟩
     obtain⟨a,zs,rfl,ha,fM,lZ⟩:∃(a:Nc) (zs:Nd),y=V.ref a∧H5 a=some (.lst (zs.map V.str))∧zs.Nodup∧zs.length≤100:=by
      rcases Qe.mp (Yv hy) with z | z
      ·refine ⟨D,es.map (·.1),Qb.mp z,?_,aB,by rw [Qa];exact Zd lA (by decide)⟩
       exact k5 _ _ (k4 _ _ (k3 _ _ (k2 _ _ rB (by simp)) (by simp)) (by simp)) (by simp)
      ·obtain ⟨e,he,rfl⟩:=Qk.mp z
       exact⟨e.2.2,e.2.1,rfl,k5 _ _ (nH _ _ (R.ro e he) (by simp)) (by simp),(hok e he).2,(hok e he).1⟩
     refine⟨_,rfl,a,zs,rfl,SqL.of ha,fM,by lia,λt ht=>?_⟩
     have rV:a≠t:=zaa ha ht
     refine⟨t,zs,rfl,zab,by lia,_,rfl,a,_,rfl,.inl (SqL.of (by rw[zad rV];exact ha)),_,_,rfl,rfl,_,rfl,za5 (decide_eq_false (by rw[Qa];lia)) ?_⟩
     exact⟨k5.trans (Keep.new ht),_,_,rfl⟩
    ·rintro σ H5 ⟨k5,x1,x2,rfl⟩
     exact k H5 (nH.trans k5)
end
end K21
end
section
namespace K21
open PySem L2 Wb
abbrev sLeast:Stmt:=top 27
inductive IspLeast(vs:List V)(H:Hp)(Q:VK):Prop
 |mk (a:Nc) (zs:Nd) (h0:vs=[.ref a]) (h1:H a=some (.lst (zs.map V.str))) (h2:zs.length≤100) (h3:∀(t:Nc) (j:Nat) (H':Hp),j≤zs.length→H' t=some (.tup ((zs.drop j++zs.take j).map V.str))→H t=none→Keep [] H H'→Q (.ref t) H'):IspLeast vs H Q
def spLeast:Sp:=λvs H Q _=>IspLeast vs H Q
def paired_map{α β γ:Type}{R:α→γ→Prop}{f:β→γ}:∀{as:List α} {bs:List β},Paired (λa b=>R a (f b)) as bs→Paired R as (bs.map f):=by
 intro as bs r
 induction r with
 |nil=>exact .nil
 |cons h t ih=>exact .cons h ih
section
variable{P:Nj}{w:Nl}{K:Na}{mg:Ng}{base:Nm}
def zd4:zaq ["rows", "rounds", "one", "around", "other"] ["rows"] (zag zhu):=⟨rfl,rfl,rfl,by decide +kernel,rfl,by decide +kernel,by decide +kernel⟩
def ok_oneway{f:Nc}{fd:Nv}(F:Fun K "refuse_one_way" "refuse_one_way" zhu f fd)(pN:mg "dict" = none):FnOk P w K mg base CX0 1 f fd ["rows"] spOneWay:=by
 refine F.ok zd4 (λvs H Q E h=>?_) (λcdv A outer s H vs Q E hr h=>?_)
 ·obtain ⟨l,as,es,rfl,_⟩:=h
  rfl
 ·obtain ⟨l,as,es,rfl,R,aB,hok,k⟩:=h
  have hu:=zb9 hr
  have aG:sizeLine=16777216:=sizeLine_eq
  refine⟨_,zae (zam (i:=1) zd4.nd rfl (Or.inl rfl) (zct (zgx rfl) (by rfl) pN PyProof.Rows.boot_dict (zac (pv 0) zaf)))
   (zah (zbc Zh rfl (zav (pv 0)) (ze8 rfl (zax (zaj (i:=2) zd4.nd rfl (Or.inl rfl)) (zax (zaj (i:=3) zd4.nd rfl (Or.inl rfl)) zcj)))
    (zah (zbc Zh rfl (zav (pv 3)) (zaj (i:=4) zd4.nd rfl (Or.inl rfl))
     (zah (zb5 (PW.pt (zhz (zas op_eq (pv 4) (pv 2) (zbf _)) (zg3 (zas zfa (pv 2) (pe_dget2 hu (pv 1) (pv 4) (zbh zaf) ⟨rfl,rfl,rfl,rfl⟩) rfl)))) (zah zfe) za0)))))),?_⟩
  have hps:(es.map λe:Ent=>(e.1,V.ref e.2.2)).map (·.1)=es.map (·.1):=by rw[Zq];rfl
  refine⟨_,rfl,l,as,es.map λe=>(e.1,V.ref e.2.2),rfl,R.ls,paired_map R.ts,by rw[hps];exact aB,λd hd=>?_⟩
  have qQ:((es.map λe:Ent=>(e.1,V.ref e.2.2)).map λp=>((Sum.inr p.1:Key),p.2))=es.map λe=>((Sum.inr e.1:Key),V.ref e.2.2):=by rw[Zq];rfl
  rw[qQ]
  have k1:Keep [] H (upd H d (.dK (es.map λe=>((Sum.inr e.1:Key),V.ref e.2.2)))):=Keep.new hd
  have jV:(upd H d (.dK (es.map λe=>((Sum.inr e.1:Key),V.ref e.2.2)))) d=some (.dK (es.map λe=>((Sum.inr e.1:Key),V.ref e.2.2))):=zab
  generalize upd H d (.dK (es.map λe=>((Sum.inr e.1:Key),V.ref e.2.2)))=H1 at k1 jV
  have R1:=R.keep k1
  refine⟨_,rfl,l,rfl,⟨_,SqL.of R1.ls⟩,zbr (xs:=as.map V.ref) (λi σ H'=>Aj2 (Keep [] H1 H') (Ex3 λx2 x3 x4=>σ=[some (.ref l),some (.ref d),x2,x3,x4])) ⟨Keep.refl,none,none,none,rfl⟩ (λi σ H' _ hh=>SqL.of (hh.1 _ _ R1.ls (by simp))) ?_ ?_⟩
  ·rintro i y σ H2 hx ⟨k2,x2,x3,x4,rfl⟩
   have hi:i<as.length:=by
    have:=(Zb.mp hx).1
    rwa[Qa]at this
   have gj:y=.ref as[i]:=by
    rw[Qz,Qg hi]at hx
    exact(Qp hx).symm
   subst gj
   obtain⟨ar,dP⟩:=za8 R1.ts hi
   obtain⟨fX,bQ⟩:=hok _ (Qq ar)
   have cV:=k2 _ _ (R1.ro _ (Qq ar)) (by simp)
   refine⟨as[i],_,rfl,SqT.of (k2 _ _ dP (by simp)),rfl,_,_,rfl,_,_,rfl,rfl,?_⟩
   refine⟨_,rfl,es[i].2.2,rfl,⟨_,SqL.of cV⟩,zbr (xs:=es[i].2.1.map V.str) (λj σ H'=>Aj2 (Keep [] H2 H') (Ex1 λx4=>σ=[some (.ref l),some (.ref d),some (.str es[i].1),some (.ref es[i].2.2),x4])) ⟨Keep.refl,_,rfl⟩ (λj σ H' _ hh=>SqL.of (hh.1 _ _ cV (by simp))) ?_ ?_⟩
   ·rintro j y σ H3 hy ⟨k3,y4,rfl⟩
    obtain⟨z,hz,rfl⟩:=Qk.mp (Yv hy)
    obtain⟨e',br,jQ,ai⟩:=bQ z hz
    have ap:z≠es[i].1:=λq=>fX (q▸hz)
    have jU:=k3 _ _ (k2 _ _ jV (by simp)) (by simp)
    refine⟨_,rfl,_,rfl,rfl,_,rfl,za5 (decide_eq_false (λq=>ap (by injection q))) ?_⟩
    refine⟨_,rfl,_,rfl,d,rfl,.inl ⟨_,.inl jU⟩,_,rfl,(by show 0≤sizeLine;decide),λq hq=>?_⟩
    have ndq:d≠q:=zaa jU hq
    have mG:(upd H3 q (.lst [])) d=some (.dK (es.map λe=>((Sum.inr e.1:Key),V.ref e.2.2))):=by rw[zad ndq];exact jU
    have ml:(upd H3 q (.lst [])) e'.2.2=some (.lst (e'.2.1.map V.str)):=by
     have h3:=k3 _ _ (k2 _ _ (R1.ro e' br) (by simp)) (by simp)
     rw[zad (zaa h3 hq)];exact h3
    have dg:=DGet.k (k:=Sum.inr z) mG
    rw[←jQ,zbv aB br,jQ]at dg
    refine⟨_,dg,e'.2.2,_,rfl,.inl (SqL.of ml),rfl,zcc _,_,rfl,?_⟩
    refine za5 (by rw[if_pos rfl,zey,decide_eq_true ai];rfl) ?_
    exact⟨k3.trans (Keep.new hq),_,rfl⟩
   ·rintro σ H3 ⟨k3,y4,rfl⟩
    exact⟨k2.trans k3,_,_,_,rfl⟩
  ·rintro σ H2 ⟨k2,x2,x3,x4,rfl⟩
   exact k H2 (k1.trans k2)
def scLeast:zaq ["around", "at"] ["around"] (zag sLeast):=⟨rfl,rfl,rfl,by decide +kernel,rfl,by decide +kernel,by decide +kernel⟩
def ok_least(F:Fun K "from_least" "from_least" sLeast f fd)(lf:mg "min" = none)(sL:mg "tuple" = none):FnOk P w K mg base CX0 1 f fd ["around"] spLeast:=by
 refine F.ok scLeast (λvs H Q E h=>?_) (λcdv A outer s H vs Q E hr h=>?_)
 ·obtain ⟨a,zs,rfl,_⟩:=h
  rfl
 ·obtain ⟨a,zs,rfl,ha,hz,k⟩:=h
  have aG:sizeLine=16777216:=sizeLine_eq
  refine⟨_,zae (zam (i:=1) scLeast.nd rfl (Or.inl rfl) (pe_ifExp (zd8 (pv 0) (by intro _;rfl)) (zd9 Zm Xa Kz zh7 (pv 0) (zac (zai (zir rfl) (by rfl) lf PyProof.Rows.boot_min (zac (pv 0) zaf)) zaf)) zal))
   (zah (zbe (zct ziq (by rfl) sL PyProof.Rows.boot_tuple (zac (zbd zea (zbq zcd (pv 0) (zb8 (pv 1)) zby) (zbq zcd (pv 0) zby (zb8 (pv 1)))) zaf)))),?_⟩
  have aF:(zs.map V.str).length=zs.length:=Qa ..
  refine⟨_,rfl,_,.inl ⟨_,SqL.of ha,rfl⟩,?_⟩
  by_cases sA:zs=[]
  ·refine za5 (by rw [sA];rfl) ?_
   have h0:0≤zs.length:=Zi _
   refine⟨_,rfl,_,rfl,_,rfl,a,_,rfl,SqL.of ha,λp1 h1=>?_⟩
   have n1:a≠p1:=zaa ha h1
   refine⟨_,rfl,_,rfl,_,rfl,a,_,rfl,SqL.of (by rw[zad n1];exact ha),λp2 h2=>?_⟩
   have dS:p1≠p2:=zaa (o:=_) zab h2
   refine⟨p1,p2,_,_,rfl,rfl,(by rw[zad dS];exact zab),zab,?_,λp3 h3=>?_⟩
   ·have q1:=za2 (zs.map V.str) (some (0:Int)) none
    have q2:=za2 (zs.map V.str) none (some (0:Int))
    rw[aF]at q1 q2
    show _+_≤sizeLine
    lia
   have ecut:cutV (zs.map V.str) (some (0:Int)) none++cutV (zs.map V.str) none (some (0:Int))=(zs.drop (0:Nat)++zs.take (0:Nat)).map V.str:=by
    show cutV (zs.map V.str) (some (((0:Nat)):Int)) none++cutV (zs.map V.str) none (some (((0:Nat)):Int))=_
    rw[zca (by rw[aF];exact h0),zhd (by rw[aF];exact h0),Qs,Uk,Uj]
   rw[ecut]
   refine⟨p3,_,rfl,.inl ⟨SqL.of zab,λt ht=>?_⟩⟩
   have kk:Keep [] H _:=(((Keep.new h1).trans (Keep.new h2)).trans (Keep.new h3)).trans (Keep.new (o:=.tup ((zs.drop (0:Nat)++zs.take (0:Nat)).map V.str)) ht)
   exact k t (0:Nat) _ h0 zab (zbi (xs:=[]) (((Keep.new h1).trans (Keep.new h2)).trans (Keep.new h3)) ht (by simp)) kk
  ·refine zb6 (by cases hh:zs with
    |nil=>exact absurd hh sA
    |cons _ _=>rfl) ?_
   refine⟨_,rfl,.inl ⟨rfl,_,SqL.of ha⟩,_,rfl,a,zs,rfl,SqL.of ha,sA,λz dy _=>?_⟩
   obtain⟨i1,i2⟩:=zic dy
   have hj:zs.idxOf z≤zs.length:=Wx (idx_lt dy)
   refine⟨a,_,_,_,rfl,rfl,ha,rfl,zcc _,i1,i2,?_⟩
   refine⟨_,rfl,_,rfl,_,rfl,a,_,rfl,SqL.of ha,λp1 h1=>?_⟩
   have n1:a≠p1:=zaa ha h1
   refine⟨_,rfl,_,rfl,_,rfl,a,_,rfl,SqL.of (by rw[zad n1];exact ha),λp2 h2=>?_⟩
   have dS:p1≠p2:=zaa (o:=_) zab h2
   refine⟨p1,p2,_,_,rfl,rfl,(by rw[zad dS];exact zab),zab,?_,λp3 h3=>?_⟩
   ·have q1:=za2 (zs.map V.str) (some ((zs.idxOf z):Int)) none
    have q2:=za2 (zs.map V.str) none (some ((zs.idxOf z):Int))
    rw[aF]at q1 q2
    show _+_≤sizeLine
    lia
   have ecut:cutV (zs.map V.str) (some ((zs.idxOf z):Int)) none++cutV (zs.map V.str) none (some ((zs.idxOf z):Int))=(zs.drop (zs.idxOf z)++zs.take (zs.idxOf z)).map V.str:=by
    rw[zca (by rw[aF];exact hj),zhd (by rw[aF];exact hj),Qs,Uk,Uj]
   rw[ecut]
   refine⟨p3,_,rfl,.inl ⟨SqL.of zab,λt ht=>?_⟩⟩
   have kk:Keep [] H _:=(((Keep.new h1).trans (Keep.new h2)).trans (Keep.new h3)).trans (Keep.new (o:=.tup ((zs.drop (zs.idxOf z)++zs.take (zs.idxOf z)).map V.str)) ht)
   exact k t (zs.idxOf z) _ hj zab (zbi (xs:=[]) (((Keep.new h1).trans (Keep.new h2)).trans (Keep.new h3)) ht (by simp)) kk
end
end K21
end
section
namespace Wb
section lk
variable{β:Type}
def Lk(f:β→β):β→List β→β→Prop
 |s,[],e=>f s=e
 |s,x::t,e=>f s=x∧Lk f x t e
def lk_app:∀{A:List β} {s:β},Lk f s (A++x::B) e↔Lk f s A x∧Lk f x B e:=by
 intro A
 induction A with
 |nil=>intro s;exact Iff.rfl
 |cons a t ih =>
  intro s
  show f s=a∧Lk f a (t++x::B) e↔(f s=a∧Lk f a t x)∧Lk f x B e
  rw[ih,and_assoc]
def lk_congr:∀{t:List β} {s:β},(∀y,y=s∨y∈t→g y=f y)→Lk f s t e→Lk g s t e:=by
 intro t
 induction t with
 |nil=>intro s h k;exact(h s (.inl rfl)).trans k
 |cons a t ih =>
  intro s h k
  refine⟨(h s (.inl rfl)).trans k.1,ih (λy hy=>h y (.inr ?_)) k.2⟩
  rcases hy with z | z
  ·rw[z];exact Qc
  ·exact Qh _ z
def Cyc(f:β→β)(c:List β):Prop:=∃s t,c=s::t∧Lk f s t s
def zdd(h:Cyc f (A++x::B)):Lk f x (B++A) x:=by
 obtain⟨s,t,e,k⟩:=h
 cases A with
 |nil =>
  cases e
  rw[Zv];exact k
 |cons a A' =>
  cases e
  obtain⟨k1,k2⟩:=lk_app.mp k
  exact lk_app.mpr ⟨k2,k1⟩
def zeg(h:∀y∈c,g y=f y)(k:Cyc f c):Cyc g c:=by
 obtain⟨s,t,e,k⟩:=k
 subst e
 exact⟨s,t,rfl,lk_congr (λy hy=>h y (Qd.mpr hy)) k⟩
end lk
section nx
variable{α:Type}[DecidableEq α]
def za3{A B:List α}{w:α}(h:w∉A):(B++A++[w]).head?=some (nxt (A++w::B) w):=by
 have hi:(A++w::B).idxOf w=A.length:=by
  rw[List.idxOf_append,if_neg h,List.idxOf_cons_self];lia
 unfold nxt
 rw[hi,Qo,Qx]
 cases B with
 |nil =>
  have e:(A.length+1)%(A.length+(([]:List α).length+1))=0:=by simp
  rw[e]
  cases A with
  |nil=>rfl
  |cons a t=>rfl
 | cons b t =>
  have e:(A.length+1)%(A.length+((b::t).length+1))=A.length+1:=Nat.mod_eq_of_lt (by rw[Qx];lia)
  rw[e]
  have:(A++w::b::t).getD (A.length+1) w=b:=by
   rw[Yh,Ux (by exact Yr _ _)]
   have:A.length+1-A.length=1:=by lia
   rw[this];rfl
  rw[this];rfl
def zbn{zs:List α}{c:α}(h:c∈zs)(nd:zs.Nodup):∃A B,zs=A++c::B∧c∉A∧c∉B:=by
 obtain⟨A,B,e⟩:=Yx h
 refine⟨A,B,e,?_,?_⟩
 ·rw [e,Qy] at nd
  exact λz=>nd.2.2 _ z _ Qc rfl
 ·rw [e,Qy,Qv] at nd
  exact nd.2.1.1
def zcw{A B:List α}{c n:α}(h:c∉A):ins (A++c::B) (some c) n=A++c::n::B:=by
 have hi:(A++c::B).idxOf c=A.length:=by
  rw[List.idxOf_append,if_neg h,List.idxOf_cons_self];lia
 show(A++c::B).take ((A++c::B).idxOf c+1)++n::(A++c::B).drop ((A++c::B).idxOf c+1)=_
 rw[hi]
 have e1:(A++c::B).take (A.length+1)=A++[c]:=by
  rw[List.take_append,Qr (by exact Yr _ _)]
  have:A.length+1-A.length=1:=by lia
  rw[this];rfl
 have e2:(A++c::B).drop (A.length+1)=B:=by
  rw[List.drop_append,List.drop_of_length_le (by exact Yr _ _)]
  have:A.length+1-A.length=1:=by lia
  rw[this];rfl
 rw[e1,e2,Qt];rfl
variable{zs:List α}{c n:α}
def mem_ins(hc:c∈zs)(nd:zs.Nodup){w:α}:w∈ins zs (some c) n↔w=n∨w∈zs:=by
 obtain⟨A,B,rfl,h1,h2⟩:=zbn hc nd
 rw[zcw h1]
 simp only[Qe,Qd]
 constructor
 ·rintro (h | h | h | h)
  ·exact .inr (.inl h)
  ·exact .inr (.inr (.inl h))
  ·exact .inl h
  ·exact .inr (.inr (.inr h))
 ·rintro (h | h | h | h)
  ·exact .inr (.inr (.inl h))
  ·exact .inl h
  ·exact .inr (.inl h)
  ·exact .inr (.inr (.inr h))
def zh9(hc:c∈zs)(nd:zs.Nodup):(ins zs (some c) n).length=zs.length+1:=by
 obtain⟨A,B,rfl,h1,h2⟩:=zbn hc nd
 rw[zcw h1]
 simp only[Qo,Qx];lia
def nd_ins(hc:c∈zs)(nd:zs.Nodup)(hn:n∉zs):(ins zs (some c) n).Nodup:=by
 obtain⟨A,B,rfl,h1,h2⟩:=zbn hc nd
 rw[zcw h1]
 rw[Qy,Qv]at nd
 rw[Qe,Qd,not_or,not_or]at hn
 obtain⟨nA,⟨ncB,nB⟩,nAB⟩:=nd
 rw[Qy,Qv,Qv]
 refine⟨nA,⟨?_,hn.2.2,nB⟩,λa ha b hb=>?_⟩
 ·rw[Qd,not_or];exact⟨λe=>hn.2.1 e.symm,ncB⟩
 ·rcases Qd.mp hb with z | z
  ·rw[z];exact nAB a ha c Qc
  ·rcases Qd.mp z with y | y
   ·rw[y];exact λe=>hn.1 (e▸ha)
   ·exact nAB a ha b (Qh _ y)
def zga(hc:c∈zs)(nd:zs.Nodup):nxt (ins zs (some c) n) c=n:=by
 obtain⟨A,B,rfl,h1,h2⟩:=zbn hc nd
 rw[zcw h1]
 have k:=za3 (B:=n::B) h1
 exact(Qp k).symm
def zf9(hc:c∈zs)(nd:zs.Nodup)(hn:n∉zs):nxt (ins zs (some c) n) n=nxt zs c:=by
 obtain⟨A,B,rfl,h1,h2⟩:=zbn hc nd
 rw[zcw h1]
 rw[Qe,Qd,not_or,not_or]at hn
 have e:A++c::n::B=(A++[c])++n::B:=by rw[Qt];rfl
 have tU:n∉A++[c]:=by
  rw[Qe,not_or,Qb];exact⟨hn.1,hn.2.1⟩
 have k1:=za3 (B:=B) tU
 have k2:=za3 (B:=B) h1
 rw[←e]at k1
 refine Qp (k1.symm.trans (Eq.trans ?_ k2))
 cases B with
 |cons b t=>rfl
 |nil=>cases A with
  |nil=>rfl
  |cons a t=>rfl
def zf8(hc:c∈zs)(nd:zs.Nodup)(hn:n∉zs){w:α}(hw:w∈zs)(sG:w≠c):nxt (ins zs (some c) n) w=nxt zs w:=by
 obtain⟨A,B,rfl,h1,h2⟩:=zbn hc nd
 rw[zcw h1]
 rw[Qy,Qv]at nd
 obtain⟨nA,⟨ncB,nB⟩,nAB⟩:=nd
 rw[Qe,Qd,not_or,not_or]at hn
 rcases Qe.mp hw with h | h
 ·obtain ⟨A1,A2,rfl,g1,g2⟩:=zbn h nA
  have k1:=za3 (A:=A1) (B:=A2++c::n::B) g1
  have k2:=za3 (A:=A1) (B:=A2++c::B) g1
  rw[Qt,Um,Qt,Um]
  refine Qp (k1.symm.trans (Eq.trans ?_ k2))
  cases A2<;>rfl
 ·rcases Qd.mp h with z | z
  ·exact absurd z sG
  ·obtain ⟨B1,B2,rfl,g1,g2⟩:=zbn z nB
   have hwA:w∉A:=λq=>nAB _ q _ (Qh _ z) rfl
   have jG:w≠n:=λq=>hn.2.2 (q▸z)
   have m1:w∉A++c::n::B1:=by
    simp only[Qe,Qd,not_or];exact⟨hwA,sG,jG,g1⟩
   have m2:w∉A++c::B1:=by
    simp only[Qe,Qd,not_or];exact⟨hwA,sG,g1⟩
   have k1:=za3 (B:=B2) m1
   have k2:=za3 (B:=B2) m2
   have e1:A++c::n::(B1++w::B2)=(A++c::n::B1)++w::B2:=by rw[Qt];rfl
   have e2:A++c::(B1++w::B2)=(A++c::B1)++w::B2:=by rw[Qt];rfl
   rw[e1,e2]
   refine Qp (k1.symm.trans (Eq.trans ?_ k2))
   cases B2 with
   |cons b t=>rfl
   |nil=>cases A<;>rfl
def nxt_rot(nd:zs.Nodup)(k:Nat){w:α}(hw:w∈zs):nxt (zs.drop k++zs.take k) w=nxt zs w:=by
 obtain⟨A,B,rfl,h1,h2⟩:=zbn hw nd
 have k2:=za3 (B:=B) h1
 by_cases hk:k≤A.length
 ·have e:(A++w::B).drop k++(A++w::B).take k=A.drop k++w::(B++A.take k):=by
   rw[List.drop_append,List.take_append]
   have:k-A.length=0:=by lia
   rw[this,List.drop_zero,List.take_zero,Zv,Qt];rfl
  have k1:=za3 (A:=A.drop k) (B:=B++A.take k) (λz=>h1 (Ui z))
  rw[e]
  refine Qp (k1.symm.trans (Eq.trans ?_ k2))
  rw[Qt B,Wc]
 ·have e:(A++w::B).drop k++(A++w::B).take k=(B.drop (k - A.length - 1)++A)++w::B.take (k - A.length - 1):=by
   rw[List.drop_append,List.take_append,List.drop_of_length_le (by lia),Qr (by lia)]
   have:k-A.length=(k-A.length-1)+1:=by lia
   conv=>lhs;rw[this]
   rw[List.drop_succ_cons,List.take_succ_cons,Wt,Qt]
  have k1:=za3 (A:=B.drop (k-A.length-1)++A) (B:=B.take (k-A.length-1)) (λz=>by
   rcases Qe.mp z with y | y
   ·exact h2 (Ui y)
   ·exact h1 y)
  rw[e]
  refine Qp (k1.symm.trans (Eq.trans ?_ k2))
  rw[←Qt,Wc]
end nx
section
variable{α:Type}[DecidableEq α]
def st(r:α→List α)(s:α×α):α×α:=(s.2,nxt (r s.2) s.1)
inductive Conn(r:α→List α)(x:α):α→Prop
 |refl:Conn r x x
 |step {y z:α}:Conn r x y→z∈r y→Conn r x z
def Conn.trans{r:α→List α}{x y z:α}(a:Conn r x y)(b:Conn r y z):Conn r x z:=by
 induction b with
 |refl=>exact a
 |step _ h ih=>exact .step ih h
def Conn.mono(h:∀x y,y∈r x→y∈r' x)(a:Conn r x y):Conn r' x y:=by
 induction a with
 |refl=>exact .refl
 |step _ hz ih=>exact .step ih (h _ _ hz)
def wt(ns:List α)(r:α→List α)(lab:α→α)(t:α):Int:=(ns.map λx=>if lab x=t then 2+(if r x=[] then 2 else 0)-((r x).length:Int) else 0).sum
def ct(cs:List (List (α×α)))(lab:α→α)(t:α):Int:=(cs.map λc=>if(c.any λs=>decide (lab s.1=t))=true then(2:Int) else 0).sum
structure Cert(ns:List α)(r:α→List α)(cs:List (List (α×α)))(lab:α→α):Prop where
 nd:ns.Nodup
 ro:∀x,x∉ns→r x=[]
 rn:∀x,(r x).Nodup
 ir:∀x,x∉r x
 sy:∀x y,y∈r x→x∈r y
 cf:cs.flatten.Nodup
 cm:∀s,s∈cs.flatten↔s.1∈r s.2
 cy:∀c∈cs,Cyc (st r) c
 ln:∀x∈ns,lab x∈ns
 la:∀x y,y∈r x→lab y=lab x
 co:∀x∈ns,∀y∈ns,lab x=lab y→Conn r x y
 eu:∀x∈ns,wt ns r lab (lab x)+ct cs lab (lab x)=4
variable{ns:List α}{r r':α→List α}{cs:List (List (α×α))}{lab:α→α}
def Cert.inn(C:Cert ns r cs lab){x y:α}(h:y∈r x):x∈ns:=Jc λz=>by rw[C.ro x z]at h;cases h
def Cert.inn'(C:Cert ns r cs lab){x y:α}(h:y∈r x):y∈ns:=C.inn (C.sy x y h)
def zen{g g':α→Int}:∀ {l:List α},l.Nodup→a∈l→(∀ x∈l,x≠a→g' x=g x)→(l.map g').sum=(l.map g).sum+(g' a - g a):=by
 intro l
 induction l with
 |nil=>intro _ h;cases h
 | cons b t ih =>
  intro nd h e
  rw[Qv]at nd
  rw[Qm,Qm,Zf,Zf]
  by_cases hb:b=a
  ·have:(t.map g').sum=(t.map g).sum:=by
    congr 1
    exact Yz λx hx=>e x (Qh _ hx) λz=>nd.1 (by rw[hb,←z];exact hx)
   rw[this,hb];lia
  ·have h':a∈t:=by
    rcases Qd.mp h with z | z
    ·exact absurd z.symm hb
    ·exact z
   rw[ih nd.2 h' λx hx=>e x (Qh _ hx),e b Qc hb];lia
def zcm{β:Type}{g g':β→Int}{l:List β}(h:∀x∈l,g' x=g x):(l.map g').sum=(l.map g).sum:=by
 congr 1;exact Yz h
def zim(C:Cert ns r cs lab){N R:List (List (α×α))}{c0 news:List (α×α)}(hR:∀c∈R,c∈cs)(cu:cs.flatten.Perm (c0++R.flatten))(hN:N.flatten.Perm (news++c0))(aB:news.Nodup)(aK:∀s∈news,s.1∉r s.2)(cz:∀s:α×α,s.1∈r' s.2↔s∈news∨s.1∈r s.2)(pP:∀c∈N,Cyc (st r') c)(aQ:∀s:α×α,s.1∈r s.2→s∉c0→st r' s=st r s) :
  (N++R).flatten.Nodup∧(∀s,s∈(N++R).flatten↔s.1∈r' s.2)∧∀c∈N++R,Cyc (st r') c:=by
 have hp:(N++R).flatten.Perm (news++cs.flatten):=by
  rw[Wo]
  refine(List.Perm.append_right _ hN).trans ?_
  rw[Qt]
  exact Zz _ cu.symm
 refine⟨?_,λs=>?_,λc hc=>?_⟩
 ·rw [hp.nodup_iff,Qy]
  exact⟨aB,C.cf,λa ha b hb e=>aK a ha (by rw[e];exact(C.cm b).mp hb)⟩
 ·rw[hp.mem_iff,Qe,cz,C.cm]
 ·rcases Qe.mp hc with z | z
  ·exact pP c z
  ·refine zeg (fun y hy=>?_) (C.cy c (hR c z))
   have hyR:y∈R.flatten:=Zp.mpr ⟨c,z,hy⟩
   refine aQ y ((C.cm y).mp (cu.mem_iff.mpr (Qi _ hyR))) λhy0=>?_
   have:=cu.nodup_iff.mp C.cf
   rw[Qy]at this
   exact this.2.2 y hy0 y hyR rfl
def zdi{β:Type}{g:β→Int}:∀{l:List β},(∀x∈l,g x=0)→(l.map g).sum=0:=by
 intro l
 induction l with
 |nil=>intro _;rfl
 |cons a t ih =>
  intro h
  rw[Qm,Zf,h a Qc,ih λx hx=>h x (Qh _ hx)];rfl
def Cert.inc(C:Cert ns r cs lab){c:List (α×α)}(hc:c∈cs){s:α×α}(hs:s∈c):s.1∈r s.2:=(C.cm s).mp (Zp.mpr ⟨c,hc,hs⟩)
def ct_lab{ab:α→α}{t:α}(h:∀c∈cs,∀s∈c,ab s.1=lab s.1):ct cs ab t=ct cs lab t:=by
 refine zcm λc hc=>?_
 have:(c.any λs=>decide (ab s.1=t))=c.any λs=>decide (lab s.1=t):=by
  rw[Yf,Ym,Ym]
  constructor
  ·rintro⟨s,hs,e⟩;exact⟨s,hs,by rwa[h c hc s hs]at e⟩
  ·rintro⟨s,hs,e⟩;exact⟨s,hs,by rw[h c hc s hs];exact e⟩
 rw[this]
def cert_new(C:Cert ns r cs lab){x:α}(hx:x∉ns){ab:α→α}(hl:∀y∈ns,ab y=lab y)(bU:ab x=x):Cert (ns++[x]) r cs ab:=by
 have mi:r x=[]:=C.ro x hx
 have ne:∀{y},y∈ns→y≠x:=λ{y} hy e=>hx (e▸hy)
 have ai:∀c∈cs,∀s∈c,s.1∈ns:=λc hc s hs=>C.inn' (C.inc hc hs)
 have mJ:∀t,ct cs ab t=ct cs lab t:=λt=>ct_lab λc hc s hs=>hl _ (ai c hc s hs)
 have lx:∀y∈ns,lab y≠x:=λy hy e=>hx (e▸C.ln y hy)
 have uZ:ct cs lab x=0:=zdi λc hc=>if_neg λz=>by
  obtain⟨s,hs,e⟩:=Ym.mp z
  exact lx _ (ai c hc s hs) (of_decide_eq_true e)
 have hw:∀t,wt (ns++[x]) r ab t=wt ns r lab t+if x=t then 4 else 0:=λt=>by
  unfold wt
  rw[Qs,List.sum_append,Qm,Jq,Zf,List.sum_nil]
  congr 1
  ·exact zcm λz hz=>by rw[hl z hz]
  ·rw[bU,mi];simp
 refine⟨?_,λy hy=>C.ro y λz=>hy (Ql _ z),C.rn,C.ir,C.sy,C.cf,C.cm,C.cy,λy hy=>?_,λy z hz=>?_,λy hy z hz e=>?_,λy hy=>?_⟩
 ·rw [Qy]
  exact⟨C.nd,Qv.mpr ⟨by simp,Zk⟩,λa ha b hb=>by rw[Qb.mp hb];exact ne ha⟩
 ·rcases Qe.mp hy with h | h
  ·rw[hl y h];exact Ql _ (C.ln y h)
  ·rw[Qb.mp h,bU];exact Qi _ Qc
 ·rw[hl _ (C.inn' hz),hl _ (C.inn hz)];exact C.la y z hz
 ·rcases Qe.mp hy with h | h <;> rcases Qe.mp hz with g | g
  ·rw[hl _ h,hl _ g]at e;exact C.co y h z g e
  ·rw [hl _ h,Qb.mp g,bU] at e
   exact absurd e (lx y h)
  ·rw [hl _ g,Qb.mp h,bU] at e
   exact absurd e.symm (lx z g)
  ·rw[Qb.mp h,Qb.mp g];exact .refl
 ·rw [mJ,hw]
  rcases Qe.mp hy with h | h
  ·rw [hl _ h,if_neg (fun z=>lx y h z.symm)]
   have:=C.eu y h;lia
  ·rw [Qb.mp h,bU,if_pos rfl,uZ]
   have:wt ns r lab x=0:=zdi λz hz=>if_neg (lx z hz)
   rw[this];rfl
end
section
variable{β:Type}
def zh8:∀{t:List β},g s'=f s→(∀y∈t,g y=f y)→Lk f s t e→Lk g s' t e:=by
 intro t
 cases t with
 |nil=>intro h _ k;exact h.trans k
 |cons a t =>
  intro h hh k
  exact⟨h.trans k.1,lk_congr (λy hy=>hh y (Qd.mpr hy)) k.2⟩
def lk_lab{γ:Type}{f:β→β}{lb:β→γ}{e:β}:∀{t:List β} {s:β},(∀y,y=s∨y∈t→lb (f y)=lb y)→Lk f s t e→∀y∈t,lb y=lb s:=by
 intro t
 induction t with
 |nil=>intro s _ _ y hy;cases hy
 | cons a t ih =>
  intro s h k y hy
  have ha:lb a=lb s:=by rw[←k.1];exact h s (.inl rfl)
  rcases Qd.mp hy with z | z
  ·rw[z];exact ha
  ·rw [← ha]
   exact ih (λy hy=>h y (.inr (Qd.mpr hy))) k.2 y z
def zh1{l m:List Int}(h:l.Perm m):l.sum=m.sum:=by
 induction h with
 |nil=>rfl
 |cons x _ ih=>rw[Zf,Zf,ih]
 |swap x y l=>rw[Zf,Zf,Zf,Zf];omega
 |trans _ _ a b=>exact a.trans b
end
section
variable{α:Type}[DecidableEq α]{ns:List α}{r r':α→List α}{cs:List (List (α×α))}{lab ab:α→α}
def ct_perm{cs':List (List (α×α))}(h:cs.Perm cs')(t:α):ct cs lab t=ct cs' lab t:=zh1 (h.map _)
def zde(c:List (α×α))(t:α):ct (c::cs) lab t=(if(c.any λs=>decide (lab s.1=t))=true then(2:Int) else 0)+ct cs lab t:=by
 unfold ct;rw[List.map_cons,List.sum_cons]
def Cert.one_lab(C:Cert ns r cs lab){c:List (α×α)}(hc:c∈cs){s u:α×α}(hs:s∈c)(hu:u∈c):lab u.1=lab s.1:=by
 obtain⟨A,B,rfl⟩:=Yx hs
 have k:=zdd (C.cy _ hc)
 have hl:∀y,y=s∨y∈B++A→lab (st r y).1=lab y.1:=λy hy=>by
  have bK:y∈A++s::B:=by
   rcases hy with z | z
   ·rw[z];exact hs
   ·rcases Qe.mp z with q | q
    ·exact Qi _ (Qh _ q)
    ·exact Ql _ q
  exact(C.la _ _ (C.inc hc bK)).symm
 rcases Qe.mp hu with z | z
 ·exact lk_lab (lb:=λy:α×α=>lab y.1) hl k u (Qi _ z)
 ·rcases Qd.mp z with q | q
  ·rw[q]
  ·exact lk_lab (lb:=λy:α×α=>lab y.1) hl k u (Ql _ q)
def zdf{c:List (α×α)}(h:∀s∈c,lab s.1=u)(ap:c≠[]):(c.any λs=>decide (lab s.1=t))=decide (u=t):=by
 rw[Yf,Ym,decide_eq_true_iff]
 constructor
 ·rintro⟨s,hs,e⟩;rw[←h s hs];exact of_decide_eq_true e
 ·intro e
  cases c with
  |nil=>exact absurd rfl ap
  |cons s _=>exact⟨s,Qc,decide_eq_true ((h s Qc).trans e)⟩
def zbw(hc:c∈cs):cs.flatten.Perm (c++(cs.erase c).flatten):=by
 have:=List.Perm.flatten (Kb hc)
 rwa[Ys]at this
def zfc(C:Cert ns r cs lab)(hp:p∈ns)(hx:x∉ns)(h1:r' x=[p])(h3:∀ y,y≠x→y≠p→r' y=r y)(hm:∀ w,w∈r' p↔w=x∨w∈r p)(hn:(r' p).Nodup)(a9:(r' p).length=(r p).length+1)(hl:∀y∈ns,ab y=lab y)(bU:ab x=lab p)(hc:cs'.flatten.Nodup∧(∀s,s∈cs'.flatten↔s.1∈r' s.2)∧∀c∈cs',Cyc (st r') c)(mJ:∀t,ct cs' ab t=ct cs lab t+if lab p=t then(if r p=[] then 2 else 0) else 0):Cert (ns++[x]) r' cs' ab:=by
 have fU:p≠x:=λe=>hx (e▸hp)
 have mi:r x=[]:=C.ro x hx
 have ne:∀{y},y∈ns→y≠x:=λ{y} hy e=>hx (e▸hy)
 have sub:∀z y,y∈r z→y∈r' z:=λz y hy=>by
  by_cases hz:z=p
  ·rw[hz]at hy ⊢;exact(hm y).mpr (.inr hy)
  ·rw[h3 z (ne (C.inn hy)) hz];exact hy
 have hw:∀t,wt (ns++[x]) r' ab t=wt ns r lab t-if lab p=t then(if r p=[] then 2 else 0) else 0:=λt=>by
  unfold wt
  rw[Qs,List.sum_append,Qm,Jq,Zf,List.sum_nil,bU,h1]
  have e1:(ns.map λy=>if ab y=t then(2:Int)+(if r' y=[] then 2 else 0)-((r' y).length:Int) else 0).sum=(ns.map λy=>if lab y=t then(2:Int)+(if r' y=[] then 2 else 0)-((r' y).length:Int) else 0).sum :=
   zcm λy hy=>by rw[hl y hy]
  rw[e1,zen (g:=λy=>if lab y=t then(2:Int)+(if r y=[] then 2 else 0)-((r y).length:Int) else 0) C.nd hp (λy hy bi=>by rw[h3 y (ne hy) bi])]
  have ap:r' p≠[]:=λe=>by rw[e]at a9;simp at a9
  by_cases ht:lab p=t
  ·simp only [ht,if_true,ap,if_false,a9]
   by_cases hr0:r p=[]
   ·simp[hr0];omega
   ·simp[hr0];omega
  ·simp only[ht,if_false];omega
 refine⟨?_,λy hy=>?_,λy=>?_,λy=>?_,λy z hz=>?_,hc.1,hc.2.1,hc.2.2,λy hy=>?_,λy z hz=>?_,λy hy z hz e=>?_,λy hy=>?_⟩
 ·rw [Qy]
  exact⟨C.nd,Qv.mpr ⟨by simp,Zk⟩,λa ha b hb=>by rw[Qb.mp hb];exact ne ha⟩
 ·rw [Qe,not_or,Qb] at hy
  rw[h3 y hy.2 (λe=>hy.1 (e▸hp))];exact C.ro y hy.1
 ·by_cases eN:y=x
  ·rw[eN,h1];exact Qv.mpr ⟨by simp,Zk⟩
  ·by_cases bi:y=p
   ·rw[bi];exact hn
   ·rw[h3 y eN bi];exact C.rn y
 ·by_cases eN:y=x
  ·rw[eN,h1,Qb];exact Zc fU
  ·by_cases bi:y=p
   ·rw[bi,hm,not_or];exact⟨fU,C.ir p⟩
   ·rw[h3 y eN bi];exact C.ir y
 ·by_cases eN:y=x
  ·rw [eN,h1,Qb] at hz
   rw[hz,eN];exact(hm x).mpr (.inl rfl)
  ·by_cases bi:y=p
   ·rw [bi] at hz ⊢
    rcases(hm z).mp hz with q | q
    ·rw[q,h1];exact Qc
    ·exact sub z p (C.sy p z q)
   ·rw [h3 y eN bi] at hz
    exact sub z y (C.sy y z hz)
 ·rcases Qe.mp hy with h | h
  ·rw[hl y h];exact Ql _ (C.ln y h)
  ·rw[Qb.mp h,bU];exact Ql _ (C.ln p hp)
 ·by_cases eN:y=x
  ·rw [eN,h1,Qb] at hz
   rw[hz,eN,bU,hl p hp]
  ·by_cases bi:y=p
   ·rw [bi] at hz ⊢
    rcases(hm z).mp hz with q | q
    ·rw[q,bU,hl p hp]
    ·rw[hl _ (C.inn' q),hl p hp];exact C.la p z q
   ·rw [h3 y eN bi] at hz
    rw[hl _ (C.inn' hz),hl _ (C.inn hz)];exact C.la y z hz
 ·have xp:Conn r' x p:=.step .refl (by rw [h1];exact Qc)
  rcases Qe.mp hy with h | h<;>rcases Qe.mp hz with g | g
  ·rw[hl _ h,hl _ g]at e;exact(C.co y h z g e).mono sub
  ·rw [hl _ h,Qb.mp g,bU] at e
   rw[Qb.mp g]
   exact .step ((C.co y h p hp e).mono sub) ((hm x).mpr (.inl rfl))
  ·rw [hl _ g,Qb.mp h,bU] at e
   rw[Qb.mp h]
   exact xp.trans ((C.co p hp z g e).mono sub)
  ·rw[Qb.mp h,Qb.mp g];exact .refl
 ·have key:∀ u∈ns,wt (ns++[x]) r' ab (lab u)+ct cs' ab (lab u)=4:=fun u hu=>by
   rw[hw,mJ]
   have:=C.eu u hu;omega
  rcases Qe.mp hy with h | h
  ·rw[hl _ h];exact key y h
  ·rw[Qb.mp h,bU];exact key p hp
end
section
variable{α:Type}[DecidableEq α]{ns:List α}{r r':α→List α}{cs:List (List (α×α))}{lab ab:α→α}
def zh5(p:α):nxt [p] p=p:=by
 unfold nxt
 simp
def leaf_mem(C:Cert ns r cs lab)(hp:p∈ns)(hx:x∉ns)(h1:r' x=[p])(h3:∀ y,y≠x→y≠p→r' y=r y)(hm:∀ w,w∈r' p↔w=x∨w∈r p) :
  ∀s:α×α,s.1∈r' s.2↔s∈[(x,p),(p,x)]∨s.1∈r s.2:=λs=>by
 obtain⟨a,b⟩:=s
 have fU:p≠x:=λe=>hx (e▸hp)
 show a∈r' b↔(a,b)∈[(x,p),(p,x)]∨a∈r b
 rw[Qd,Qb,Prod.mk.injEq,Prod.mk.injEq]
 by_cases r9:b=x
 ·subst r9
  rw[h1,C.ro b hx,Qb]
  constructor
  ·intro e;exact .inl (.inr ⟨e,rfl⟩)
  ·rintro ((⟨_,e⟩ | ⟨e,_⟩) | e)
   ·exact absurd e.symm fU
   ·exact e
   ·cases e
 ·by_cases jY:b=p
  ·subst jY
   rw[hm]
   constructor
   ·rintro (e | e)
    ·exact .inl (.inl ⟨e,rfl⟩)
    ·exact .inr e
   ·rintro ((⟨e,_⟩ | ⟨_,e⟩) | e)
    ·exact .inl e
    ·exact absurd e r9
    ·exact .inr e
  ·rw [h3 b r9 jY]
   constructor
   ·exact .inr
   ·rintro ((⟨_,e⟩ | ⟨_,e⟩) | e)
    ·exact absurd e jY
    ·exact absurd e r9
    ·exact e
def leaf_nd(fU:p≠x):([(x,p),(p,x)]:List (α×α)).Nodup:=by
 rw[Qv,Qb]
 exact⟨λe=>fU (Yu e).1.symm,Qv.mpr ⟨by simp,Zk⟩⟩
def leaf_no(C:Cert ns r cs lab)(hx:x∉ns):∀s∈([(x,p),(p,x)]:List (α×α)),s.1∉r s.2:=λs hs h=>by
 rcases Qd.mp hs with e | e
 ·rw[e]at h;exact hx (C.inn' h)
 ·rw[Qb.mp e]at h;exact hx (C.inn h)
def cert_leaf0(C:Cert ns r cs lab)(hp:p∈ns)(hx:x∉ns)(qL:r p=[])(h1:r' x=[p])(h2:r' p=[x])(h3:∀ y,y≠x→y≠p→r' y=r y)(hl:∀ y∈ns,ab y=lab y)(bU:ab x=lab p) :
  Cert (ns++[x]) r' ([(x,p),(p,x)]::cs) ab:=by
 have fU:p≠x:=λe=>hx (e▸hp)
 have hm:∀w,w∈r' p↔w=x∨w∈r p:=λw=>by rw[h2,qL,Qb];simp
 refine zfc C hp hx h1 h3 hm (by rw[h2];exact Qv.mpr ⟨by simp,Zk⟩) (by rw[h2,qL];rfl) hl bU ?_ λt=>?_
 ·refine zim (N:=[[(x,p),(p,x)]]) (R:=cs) (c0:=[]) (news:=[(x,p),(p,x)]) C (fun c h=>h) (by rw [Wt]) (by simp) (leaf_nd fU) (leaf_no C hx) (leaf_mem C hp hx h1 h3 hm) (fun c hc=>?_) fun s hs _=>?_
  ·rw [Qb.mp hc]
   refine⟨(x,p),[(p,x)],rfl,?_,?_⟩
   ·show (p,nxt (r' p) x)=(p,x)
    rw[h2,zh5]
   ·show (x,nxt (r' x) p)=(x,p)
    rw[h1,zh5]
  ·have o9:s.2≠x:=fun e=>hx (e ▸ C.inn hs)
   have ck:s.2≠p:=λe=>by rw[e,qL]at hs;cases hs
   unfold st;rw[h3 s.2 o9 ck]
 ·rw [zde,zdf (u:=lab p) (fun s hs=>?_) (by simp)]
  ·have:ct cs ab t=ct cs lab t:=ct_lab fun c hc s hs=>hl _ (C.inn' (C.inc hc hs))
   rw[this]
   simp only[decide_eq_true_eq,qL,if_true]
   lia
  ·rcases Qd.mp hs with e | e
   ·rw[e];exact bU
   ·rw[Qb.mp e];exact hl p hp
def cert_leaf(C:Cert ns r cs lab)(hp:p∈ns)(hx:x∉ns)(hc:c∈r p)(h1:r' x=[p])(h2:r' p=ins (r p) (some c) x)(h3:∀ y,y≠x→y≠p→r' y=r y)(hl:∀ y∈ns,ab y=lab y)(bU:ab x=lab p) :
  ∃cs',Cert (ns++[x]) r' cs' ab:=by
 have fU:p≠x:=λe=>hx (e▸hp)
 have jF:x∉r p:=λh=>hx (C.inn' h)
 have hm:∀w,w∈r' p↔w=x∨w∈r p:=λw=>by rw[h2];exact mem_ins hc (C.rn p)
 obtain⟨c1,ba,cw⟩:=Zp.mp ((C.cm (c,p)).mpr hc)
 obtain⟨A,B,iQ⟩:=Yx cw
 have k:=zdd (iQ▸C.cy c1 ba)
 have old:∀y∈c1,y.1∈r y.2:=λy hy=>C.inc ba hy
 have nd1:c1.Nodup:=by
  have:=(zbw ba).nodup_iff.mp C.cf
  rw[Qy]at this
  exact this.1
 have aQ:∀s:α×α,s.1∈r s.2→s≠(c,p)→st r' s=st r s:=λs hs ap=>by
  have o9:s.2≠x:=λe=>hx (e▸C.inn hs)
  by_cases ck:s.2=p
  ·unfold st
   rw[ck,h2]
   rw[ck]at hs
   rw[zf8 hc (C.rn p) jF hs (λe=>ap (Kl e ck))]
  ·unfold st;rw[h3 s.2 o9 ck]
 have inBA:∀y∈B++A,y∈c1∧y≠(c,p):=λy hy=>by
  rw[iQ]at nd1 ⊢
  rw[Qy,Qv]at nd1
  rcases Qe.mp hy with z | z
  ·exact⟨Qi _ (Qh _ z),λe=>nd1.2.1.1 (e▸z)⟩
  ·exact⟨Ql _ z,λe=>nd1.2.2 y z (c,p) Qc e⟩
 refine⟨[(c,p)::(p,x)::(x,p)::(B++A)]++cs.erase c1,zfc C hp hx h1 h3 hm (by rw[h2];exact nd_ins hc (C.rn p) jF) (by rw[h2];exact zh9 hc (C.rn p)) hl bU ?_ λt=>?_⟩
 ·refine zim (c0:=c1) (news:=[(x,p),(p,x)]) C (fun c h=>Ue h) (zbw ba) ?_ (leaf_nd fU) (leaf_no C hx) (leaf_mem C hp hx h1 h3 hm) (fun c' cb=>?_) fun s hs hn=>aQ s hs fun e=>hn (e ▸ cw)
  ·rw [iQ]
   refine Ki.mpr λa=>?_
   simp only[Ys,List.flatten_nil,Zv,Kv,Xj,List.count_nil]
   lia
  ·rw [Qb.mp cb]
   refine⟨(c,p),_,rfl,?_,?_,zh8 (f:=st r) (s:=(c,p)) ?_ (λy hy=>aQ y (old y (inBA y hy).1) (inBA y hy).2) k⟩
   ·show (p,nxt (r' p) c)=(p,x)
    rw[h2,zga hc (C.rn p)]
   ·show (x,nxt (r' x) p)=(x,p)
    rw[h1,zh5]
   ·show (p,nxt (r' p) x)=(p,nxt (r p) c)
    rw[h2,zf9 hc (C.rn p) jF]
 ·have ap:r p≠[]:=Ji hc
  have e2:ct cs lab t=ct (c1::cs.erase c1) lab t:=ct_perm (Kb ba) t
  have e3:ct (cs.erase c1) ab t=ct (cs.erase c1) lab t:=ct_lab λc h s hs=>hl _ (C.inn' (C.inc (Ue h) hs))
  have lc:∀s∈c1,lab s.1=lab p:=λs hs=>(C.one_lab ba cw hs).trans (C.la p c hc)
  rw[e2,zde,Jv,zde,e3,zdf (u:=lab p) lc (Ji cw),zdf (u:=lab p) (λs hs=>?_) (by simp),if_neg ap]
  ·simp
  ·rcases Qd.mp hs with e | hs
   ·rw[e];exact(hl _ (C.inn' hc)).trans (C.la p c hc)
   ·rcases Qd.mp hs with e | hs
    ·rw[e];exact hl p hp
    ·rcases Qd.mp hs with e | hs
     ·rw[e];exact bU
     ·rw[hl _ (C.inn' (old s (inBA s hs).1))];exact lc s (inBA s hs).1
def cert_tie(C:Cert ns r cs lab)(ba:c1∈cs)(cw:(c,p)∈c1)(cn:(a,o)∈c1)(mq:o≠p)(aK:o∉r p)(h1:r' p=ins (r p) (some c) o)(h2:r' o=ins (r o) (some a) p)(h3:∀ y,y≠p→y≠o→r' y=r y) :
  ∃cs',Cert ns r' cs' lab:=by
 have hc:c∈r p:=C.inc ba cw
 have ha:a∈r o:=C.inc ba cn
 have hp:p∈ns:=C.inn hc
 have ho:o∈ns:=C.inn ha
 have qS:p∉r o:=λh=>aK (C.sy o p h)
 have mt:∀w,w∈r' p↔w=o∨w∈r p:=λw=>by rw[h1];exact mem_ins hc (C.rn p)
 have cq:∀w,w∈r' o↔w=p∨w∈r o:=λw=>by rw[h2];exact mem_ins ha (C.rn o)
 have gO:lab o=lab p:=by
  rw[←C.la o a ha,←C.la p c hc];exact C.one_lab ba cw cn
 obtain⟨A,B,iQ⟩:=Yx cw
 have k:=zdd (iQ▸C.cy c1 ba)
 have old:∀y∈c1,y.1∈r y.2:=λy hy=>C.inc ba hy
 have nd1:c1.Nodup:=by
  have:=(zbw ba).nodup_iff.mp C.cf
  rw[Qy]at this
  exact this.1
 have t8:(a,o)∈B++A:=by
  rw[iQ]at cn
  rcases Qe.mp cn with z | z
  ·exact Qi _ z
  ·rcases Qd.mp z with q | q
   ·exact absurd (Yu q).2 mq
   ·exact Ql _ q
 obtain⟨A2,B2,qh⟩:=Yx t8
 rw[qh]at k
 obtain⟨k1,k2⟩:=lk_app.mp k
 have pm:c1.Perm ((c,p)::(A2++(a,o)::B2)):=by
  rw[iQ,←qh]
  refine Ki.mpr λa=>?_
  simp only[Kv,Xj]
  lia
 have nd2:=pm.nodup_iff.mp nd1
 rw[Qv,Qy,Qv]at nd2
 obtain⟨n1,n2,⟨n3,n4⟩,n5⟩:=nd2
 have inA:∀y∈A2,y∈c1∧y≠(c,p)∧y≠(a,o):=λy hy=>⟨pm.mem_iff.mpr (Qh _ (Ql _ hy)),λe=>n1 (e▸Ql _ hy),λe=>n5 y hy (a,o) Qc e⟩
 have inB:∀y∈B2,y∈c1∧y≠(c,p)∧y≠(a,o):=λy hy=>⟨pm.mem_iff.mpr (Qh _ (Qi _ (Qh _ hy))),λe=>n1 (e▸Qi _ (Qh _ hy)),λe=>n3 (e▸hy)⟩
 have aQ:∀s:α×α,s.1∈r s.2→s≠(c,p)→s≠(a,o)→st r' s=st r s:=λs hs fX bQ=>by
  by_cases ck:s.2=p
  ·unfold st
   rw[ck,h1]
   rw[ck]at hs
   rw[zf8 hc (C.rn p) aK hs (λe=>fX (Kl e ck))]
  ·by_cases qK:s.2=o
   ·unfold st
    rw[qK,h2]
    rw[qK]at hs
    rw[zf8 ha (C.rn o) qS hs (λe=>bQ (Kl e qK))]
   ·unfold st;rw[h3 s.2 ck qK]
 have sub:∀z y,y∈r z→y∈r' z:=λz y hy=>by
  by_cases hz:z=p
  ·rw[hz]at hy ⊢;exact(mt y).mpr (.inr hy)
  ·by_cases fO:z=o
   ·rw[fO]at hy ⊢;exact(cq y).mpr (.inr hy)
   ·rw[h3 z hz fO];exact hy
 have cz:∀s:α×α,s.1∈r' s.2↔s∈[(o,p),(p,o)]∨s.1∈r s.2:=λs=>by
  obtain⟨u,b⟩:=s
  show u∈r' b↔(u,b)∈[(o,p),(p,o)]∨u∈r b
  rw[Qd,Qb,Prod.mk.injEq,Prod.mk.injEq]
  by_cases jY:b=p
  ·subst jY
   rw[mt]
   constructor
   ·rintro (e | e)
    ·exact .inl (.inl ⟨e,rfl⟩)
    ·exact .inr e
   ·rintro ((⟨e,_⟩ | ⟨_,e⟩) | e)
    ·exact .inl e
    ·exact absurd e.symm mq
    ·exact .inr e
  ·by_cases v7:b=o
   ·subst v7
    rw[cq]
    constructor
    ·rintro (e | e)
     ·exact .inl (.inr ⟨e,rfl⟩)
     ·exact .inr e
    ·rintro ((⟨_,e⟩ | ⟨e,_⟩) | e)
     ·exact absurd e jY
     ·exact .inl e
     ·exact .inr e
   ·rw [h3 b jY v7]
    constructor
    ·exact .inr
    ·rintro ((⟨_,e⟩ | ⟨_,e⟩) | e)
     ·exact absurd e jY
     ·exact absurd e v7
     ·exact e
 have nnd:([(o,p),(p,o)]:List (α×α)).Nodup:=by
  rw[Qv,Qb]
  exact⟨λe=>mq (Yu e).1,Qv.mpr ⟨by simp,Zk⟩⟩
 have eI:=zim (N:=[(c,p)::(p,o)::B2,(a,o)::(o,p)::A2]) (R:=cs.erase c1) (c0:=c1) (news:=[(o,p),(p,o)]) (r':=r') C (λc h=>Ue h) (zbw ba) (by
   refine List.Perm.trans ?_ (Zz _ pm.symm)
   refine Ki.mpr λa=>?_
   simp only[Ys,List.flatten_nil,Zv,Kv,Xj,List.count_nil]
   lia) nnd (λs hs h=>by
    rcases Qd.mp hs with e | e
    ·rw[e]at h;exact aK h
    ·rw[Qb.mp e]at h;exact qS h) cz (λc' cb=>by
   rcases Qd.mp cb with e | e
   ·rw [e]
    refine⟨(c,p),_,rfl,?_,zh8 (f:=st r) (s:=(a,o)) ?_ (λy hy=>aQ y (old y (inB y hy).1) (inB y hy).2.1 (inB y hy).2.2) k2⟩
    ·show (p,nxt (r' p) c)=(p,o)
     rw[h1,zga hc (C.rn p)]
    ·show (o,nxt (r' o) p)=(o,nxt (r o) a)
     rw[h2,zf9 ha (C.rn o) qS]
   ·rw [Qb.mp e]
    refine⟨(a,o),_,rfl,?_,zh8 (f:=st r) (s:=(c,p)) ?_ (λy hy=>aQ y (old y (inA y hy).1) (inA y hy).2.1 (inA y hy).2.2) k1⟩
    ·show (o,nxt (r' o) a)=(o,p)
     rw[h2,zga ha (C.rn o)]
    ·show (p,nxt (r' p) o)=(p,nxt (r p) c)
     rw[h1,zf9 hc (C.rn p) aK]) λs hs hn=>aQ s hs (λe=>hn (e▸cw)) λe=>hn (e▸cn)
 refine⟨_,C.nd,λy hy=>?_,λy=>?_,λy=>?_,λy z hz=>?_,eI.1,eI.2.1,eI.2.2,C.ln,λy z hz=>?_,λy hy z hz e=>(C.co y hy z hz e).mono sub,λy hy=>?_⟩
 ·rw[h3 y (λe=>hy (e▸hp)) (λe=>hy (e▸ho))];exact C.ro y hy
 ·by_cases bi:y=p
  ·rw[bi,h1];exact nd_ins hc (C.rn p) aK
  ·by_cases gi:y=o
   ·rw[gi,h2];exact nd_ins ha (C.rn o) qS
   ·rw[h3 y bi gi];exact C.rn y
 ·by_cases bi:y=p
  ·rw[bi,mt,not_or];exact⟨Zc mq,C.ir p⟩
  ·by_cases gi:y=o
   ·rw[gi,cq,not_or];exact⟨mq,C.ir o⟩
   ·rw[h3 y bi gi];exact C.ir y
 ·by_cases bi:y=p
  ·rw [bi] at hz ⊢
   rcases(mt z).mp hz with q | q
   ·rw[q];exact(cq p).mpr (.inl rfl)
   ·exact sub z p (C.sy p z q)
  ·by_cases gi:y=o
   ·rw [gi] at hz ⊢
    rcases(cq z).mp hz with q | q
    ·rw[q];exact(mt o).mpr (.inl rfl)
    ·exact sub z o (C.sy o z q)
   ·rw [h3 y bi gi] at hz
    exact sub z y (C.sy y z hz)
 ·by_cases bi:y=p
  ·rw [bi] at hz ⊢
   rcases(mt z).mp hz with q | q
   ·rw[q];exact gO
   ·exact C.la p z q
  ·by_cases gi:y=o
   ·rw [gi] at hz ⊢
    rcases(cq z).mp hz with q | q
    ·rw[q];exact gO.symm
    ·exact C.la o z q
   ·rw [h3 y bi gi] at hz
    exact C.la y z hz
 ·have e2:ct cs lab (lab y)=ct (c1::cs.erase c1) lab (lab y):=ct_perm (Kb ba) _
  have lc:∀s∈c1,lab s.1=lab p:=λs hs=>(C.one_lab ba cw hs).trans (C.la p c hc)
  have l1:∀s∈(c,p)::(p,o)::B2,lab s.1=lab p:=λs hs=>by
   rcases Qd.mp hs with e | hs
   ·rw[e];exact C.la p c hc
   ·rcases Qd.mp hs with e | hs
    ·rw[e]
    ·exact lc s (inB s hs).1
  have l2:∀s∈(a,o)::(o,p)::A2,lab s.1=lab p:=λs hs=>by
   rcases Qd.mp hs with e | hs
   ·rw[e];exact(C.la o a ha).trans gO
   ·rcases Qd.mp hs with e | hs
    ·rw[e];exact gO
    ·exact lc s (inA s hs).1
  have mJ:ct ([(c,p)::(p,o)::B2,(a,o)::(o,p)::A2]++cs.erase c1) lab (lab y)=ct cs lab (lab y)+if lab p=lab y then 2 else 0:=by
   rw[e2,zde,Um,zde,Um,zde,Wt,zdf lc (Ji cw),zdf l1 (by simp),zdf l2 (by simp)]
   simp only[decide_eq_true_eq]
   split<;>lia
  have hw:wt ns r' lab (lab y)=wt ns r lab (lab y)-if lab p=lab y then 2 else 0:=by
   have aH:∀{zs:List α} {w n:α},w∈zs→zs.Nodup→ins zs (some w) n≠[]:=λ{zs w n} hw nd e=>by
    have:=zh9 (n:=n) hw nd
    rw[e]at this;simp at this
   unfold wt
   have s1:=zen (g:=λx=>if lab x=lab y then(2:Int)+(if r x=[] then 2 else 0)-((r x).length:Int) else 0)
    (g':=λx=>if x=p then(if lab p=lab y then(2:Int)+(if r' p=[] then 2 else 0)-((r' p).length:Int) else 0) else if lab x=lab y then(2:Int)+(if r x=[] then 2 else 0)-((r x).length:Int) else 0) C.nd hp (λx _ hx=>if_neg hx)
   have s2:=zen (g:=λx=>if x=p then(if lab p=lab y then(2:Int)+(if r' p=[] then 2 else 0)-((r' p).length:Int) else 0) else if lab x=lab y then(2:Int)+(if r x=[] then 2 else 0)-((r x).length:Int) else 0)
    (g':=fun x=>if lab x=lab y then (2:Int)+(if r' x=[] then 2 else 0) - ((r' x).length:Int) else 0) C.nd ho (fun x _ hx=>by
     by_cases jF:x=p
     ·rw[if_pos jF,jF]
     ·rw[if_neg jF,h3 x jF hx])
   rw[s2,s1]
   simp only[if_true,mq,if_false,gO,h1,h2,aH hc (C.rn p),aH ha (C.rn o),zh9 hc (C.rn p),zh9 ha (C.rn o),Ji hc,Ji ha]
   by_cases ht:lab p=lab y
   ·simp only[ht,if_true];lia
   ·simp only[ht,if_false];lia
  rw[mJ,hw]
  have:=C.eu y hy
  lia
end
section
variable{α:Type}[DecidableEq α]
def Good(rs:Rs α):Prop:=∃cs lab,Cert (rs.map (·.1)) (row rs) cs lab
def zii{β:Type}{f:β→β}{c:List β}(h:Cyc f c){s:β}(hs:s∈c):f s∈c:=by
 obtain⟨A,B,rfl⟩:=Yx hs
 have k:=zdd h
 cases e:B++A with
 |nil =>
  rw[e]at k
  rw[show f s=s from k];exact hs
 |cons a t =>
  rw[e]at k
  rw[k.1]
  have:a∈B++A:=by rw[e];exact Qc
  rcases Qe.mp this with z | z
  ·exact Qi _ (Qh _ z)
  ·exact Ql _ z
variable{rs:Rs α}
def zg2(nd:(rs.map (·.1)).Nodup){p:α×List α}(h:p∈rs):row rs p.1=p.2:=by
 unfold row
 induction rs with
 |nil=>cases h
 | cons a t ih =>
  rw[Qm,Qv]at nd
  rcases Qd.mp h with z | z
  ·subst z;rw[Wj (by simp)];rfl
  ·rw [Wk]
   ·exact ih nd.2 z
   ·intro q
    exact nd.1 (by rw[of_decide_eq_true q];exact Qk.mpr ⟨p,z,rfl⟩)
def zf0(h:x∉rs.map (·.1)):row rs x=[]:=by
 unfold row
 rw[List.find?_eq_none.mpr]
 ·rfl
 ·intro p hp q
  exact h (of_decide_eq_true q▸Qk.mpr ⟨p,hp,rfl⟩)
def zib(nd:(rs.map (·.1)).Nodup){s:α×α}:IsSt rs s↔s.1∈row rs s.2:=by
 constructor
 ·rintro ⟨p,hp,e,h⟩
  rw[←e,zg2 nd hp];exact h
 ·intro h
  by_cases hx:s.2∈rs.map (·.1)
  ·obtain ⟨p,hp,e⟩:=Qk.mp hx
   have e':p.1=s.2:=e
   rw[←e',zg2 nd hp]at h
   exact⟨p,hp,e',h⟩
  ·rw[zf0 hx]at h;cases h
def zcv(x:α)(rr:List α):(zbk rs x rr).map (·.1)=rs.map (·.1):=by
 unfold zbk
 rw[Zq]
 refine Yz λp _=>?_
 show(if p.1=x then(p.1,rr) else p).1=p.1
 split<;>rfl
def zcn{x:α}{rr:List α}(h:x∈rs.map (·.1)):row (zbk rs x rr) x=rr:=by
 unfold row zbk
 induction rs with
 |nil=>cases h
 | cons a t ih =>
  rw[Qm]
  by_cases hx:a.1=x
  ·rw[if_pos hx,Wj (by simpa using hx)];rfl
  ·rw [if_neg hx,Wk (by simpa using hx)]
   refine ih ?_
   rw[Qm]at h
   rcases Qd.mp h with z | z
   ·exact absurd z.symm hx
   ·exact z
def zch{x y:α}{rr:List α}(h:y≠x):row (zbk rs x rr) y=row rs y:=by
 unfold row zbk
 induction rs with
 |nil=>rfl
 | cons a t ih =>
  rw[Qm]
  by_cases hy:a.1=y
  ·have hx:a.1≠x:=fun e=>h (hy ▸ e)
   rw[if_neg hx,Wj (by simpa using hy),Wj (by simpa using hy)]
  ·have h1:(if a.1=x then (a.1,rr) else a).1=a.1:=by split <;> rfl
   rw[Wk (by rw[h1];simpa using hy),Wk (by simpa using hy)]
   exact ih
def row_snoc{x:α}(h:x∉rs.map (·.1)):row (rs++[(x,[])])=row rs:=by
 funext y
 unfold row
 rw[List.find?_append]
 cases e:rs.find? λp=>decide (p.1=y) with
 |some p=>rfl
 |none =>
  rw[Option.none_or]
  by_cases hy:x=y
  ·rw[Wj (by simpa using hy)];rfl
  ·rw[Wk (by simpa using hy)];rfl
theorem gen_good:Gen (Good (α:=α)) where
 clo:=λrs ⟨cs,lab,C⟩ s hs=>by
  obtain⟨c,hc,h⟩:=Zp.mp ((C.cm s).mpr ((zib C.nd).mp hs))
  exact(zib C.nd).mpr ((C.cm _).mp (Zp.mpr ⟨c,hc,zii (C.cy c hc) h⟩))
 nd:=λrs ⟨cs,lab,C⟩=>C.nd
 sub:=λrs ⟨cs,lab,C⟩ p hp=>by
  have e:=zg2 C.nd hp
  exact⟨e▸C.rn p.1,λx hx=>C.inn' (x:=p.1) (by rw[e];exact hx)⟩
 sy:=λrs ⟨cs,lab,C⟩ p hp x hx=>C.sy p.1 x (by rw[zg2 C.nd hp];exact hx)
 nil:=by
  refine⟨[],id,⟨Zk,λ_ _=>rfl,λ_=>Zk,λ_ h=>?_,λ_ _ h=>?_,Zk,λs=>⟨λh=>?_,λh=>?_⟩,λc h=>?_,λ_ h=>?_,λ_ _ h=>?_,λ_ h=>?_,λ_ h=>?_⟩⟩
  ·exact absurd h (by simp[row])
  ·exact absurd h (by simp[row])
  ·cases h
  ·exact absurd h (by simp[row])
  ·cases h
  ·cases h
  ·exact absurd h (by simp[row])
  ·cases h
  ·cases h
 new:=λrs x ⟨cs,lab,C⟩ hx=>by
  refine⟨cs,λy=>if y=x then x else lab y,?_⟩
  rw[row_snoc hx,Qs]
  exact cert_new C hx (λy hy=>if_neg (λe:y=x=>hx (e▸hy))) (if_pos rfl)
 leaf:=λrs x p c ⟨cs,lab,C⟩ hx hp hc mK=>by
  have mo:p.1∈rs.map (·.1):=Qk.mpr ⟨p,hp,rfl⟩
  have fU:p.1≠x:=λe=>hx (e▸mo)
  have e0:(zbk (zbk (rs++[(x,[])]) p.1 (ins p.2 c x)) x [p.1]).map (·.1)=rs.map (·.1)++[x]:=by rw[zcv,zcv,Qs];rfl
  have sD:x∈(zbk (rs++[(x,[])]) p.1 (ins p.2 c x)).map (·.1):=by rw[zcv,Qs];exact Qi _ Qc
  have tL:p.1∈(rs++[(x,([]:List α))]).map (·.1):=by rw[Qs];exact Ql _ mo
  have r1:row (zbk (zbk (rs++[(x,[])]) p.1 (ins p.2 c x)) x [p.1]) x=[p.1]:=zcn sD
  have r2:row (zbk (zbk (rs++[(x,[])]) p.1 (ins p.2 c x)) x [p.1]) p.1=ins p.2 c x:=by rw[zch fU,zcn tL]
  have r3:∀y,y≠x→y≠p.1→row (zbk (zbk (rs++[(x,[])]) p.1 (ins p.2 c x)) x [p.1]) y=row rs y:=λy h1 h2=>by rw[zch h1,zch h2,row_snoc hx]
  have er:=zg2 C.nd hp
  have hl:∀y∈rs.map (·.1),(λy=>if y=x then lab p.1 else lab y) y=lab y:=λy hy=>if_neg (λe:y=x=>hx (e▸hy))
  have bU:(λy=>if y=x then lab p.1 else lab y) x=lab p.1:=if_pos rfl
  unfold Good
  rw[e0]
  cases c with
  |none =>
   have h0:=mK rfl
   refine⟨_,_,cert_leaf0 C mo hx (er.trans h0) r1 ?_ r3 hl bU⟩
   rw[r2,h0];rfl
  |some y =>
   have hy:=hc y rfl
   obtain⟨cs',C'⟩:=cert_leaf C mo hx (c:=y) (by rw[er];exact hy) r1 (by rw[r2,er]) r3 hl bU
   exact⟨cs',_,C'⟩
 tie:=λrs c p n ⟨cs,lab,C⟩ hp hc h1 h2=>by
  have er:=zg2 C.nd hp
  obtain⟨c1,ba,cw⟩:=Zp.mp ((C.cm (c,p.1)).mpr (by rw[er];exact hc))
  have cn:∀n,itr rs (c,p.1) n∈c1:=λn=>by
   induction n with
   |zero=>exact cw
   |succ n ih=>exact zii (C.cy c1 ba) ih
  have mh:=cn n
  generalize itr rs (c,p.1) n=q at h1 h2 mh
  have mo:p.1∈rs.map (·.1):=Qk.mpr ⟨p,hp,rfl⟩
  have ot:q.2∈rs.map (·.1):=C.inn (C.inc ba mh)
  unfold Good
  rw[zcv,zcv]
  obtain⟨cs',C'⟩:=cert_tie (r':=row (zbk (zbk rs p.1 (ins p.2 (some c) q.2)) q.2 (ins (row rs q.2) (some q.1) p.1))) C ba cw (a:=q.1) (o:=q.2) mh h1 (by rw[er];exact h2)
   (by rw[zch (Zc h1),zcn mo,er]) (by rw[zcn (by rw[zcv];exact ot)]) (λy h3 h4=>by rw[zch h4,zch h3])
  exact⟨cs',lab,C'⟩
end
section
variable{α:Type}[DecidableEq α]{ns iu:List α}{r r':α→List α}{cs:List (List (α×α))}{lab:α→α}
def zfk(zs:List α)(k:Nat):(zs.drop k++zs.take k).Perm zs:=by
 refine Wg.trans ?_
 rw[Wc]
def zgo(C:Cert ns r cs lab)(hn:iu.Perm ns)(hr:∀x,∃k,r' x=(r x).drop k++(r x).take k):Cert iu r' cs lab:=by
 have hp:∀x,(r' x).Perm (r x):=λx=>by obtain⟨k,e⟩:=hr x;rw[e];exact zfk _ k
 have hm:∀{x y},y∈r' x↔y∈r x:=λ{x y}=>(hp x).mem_iff
 have aQ:∀s:α×α,s.1∈r s.2→st r' s=st r s:=λs hs=>by
  obtain⟨k,e⟩:=hr s.2
  unfold st;rw[e,nxt_rot (C.rn _) k hs]
 have hw:∀t,wt iu r' lab t=wt ns r lab t:=λt=>by
  unfold wt
  rw[zh1 (hn.map _)]
  refine zcm λx _=>?_
  have h1:=(hp x).length_eq
  have h2:(r' x=[])=(r x=[]):=propext ⟨λe=>by rw[e]at h1;exact Uo h1.symm,λe=>by rw[e]at h1;exact Uo h1⟩
  simp only[h1,h2]
 refine⟨hn.nodup_iff.mpr C.nd,λx hx=>?_,λx=>(hp x).nodup_iff.mpr (C.rn x),λx h=>C.ir x (hm.mp h),λx y h=>hm.mpr (C.sy x y (hm.mp h)),C.cf,λs=>(C.cm s).trans hm.symm,λc hc=>?_,λx hx=>hn.mem_iff.mpr (C.ln x (hn.mem_iff.mp hx)),λx y h=>C.la x y (hm.mp h),λx hx y hy e=>?_,λx hx=>?_⟩
 ·have:=hp x
  rw[C.ro x (λz=>hx (hn.mem_iff.mpr z))]at this
  exact List.Perm.eq_nil this
 ·exact zeg (λy hy=>aQ y (C.inc hc hy)) (C.cy c hc)
 ·exact(C.co x (hn.mem_iff.mp hx) y (hn.mem_iff.mp hy) e).mono λ_ _ h=>hm.mpr h
 ·rw[hw];exact C.eu x (hn.mem_iff.mp hx)
end
end Wb
end
section
namespace K21
open PySem L2 Wb
abbrev sSteps:Stmt:=top 2
structure BAt(H:Hp)(b:Nc)(bs:List ((Str×Str)×Addr))(r:No):Prop where
 dc:H b=some (.dT (bs.map λe=>(kP e.1,V.ref e.2)))
 tp:∀e∈bs,H e.2=some (.tup [.str (st r e.1).1,.str (st r e.1).2])
 nd:(bs.map (·.1)).Nodup
def BAt.keep{H H':Hp}{b:Nc}{bs:List ((Str×Str)×Addr)}{r:No}{xs:Nk}(h:BAt H b bs r)(k:Keep xs H H')(hb:b∉xs)(ht:∀e∈bs,e.2∉xs):BAt H' b bs r :=
 ⟨k _ _ h.dc hb,λe he=>k _ _ (h.tp e he) (ht e he),h.nd⟩
def kP_inj{s u:Str×Str}(h:kP s=kP u):s=u:=by
 unfold kP at h
 injection h with h1 h2
 injection h2 with h2 _
 exact Kl (Wr h1) (Wr h2)
def valT_out{bs:List ((Str×Str)×Addr)}{s:Str×Str}(h:s∉bs.map (·.1)):valV (bs.map λe=>(kP e.1,V.ref e.2)) (kP s)=none:=by
 induction bs with
 |nil=>rfl
 |cons a t ih =>
  rw[Qm,Qd,not_or]at h
  rw[Qm,zbm]
  ·exact ih h.2
  ·intro q;exact h.1 (kP_inj q).symm
def valT_in{bs:List ((Str×Str)×Addr)}(nd:(bs.map (·.1)).Nodup){e:(Str×Str)×Addr}(h:e∈bs):valV (bs.map fun e=>(kP e.1,V.ref e.2)) (kP e.1)=some (.ref e.2):=by
 induction bs with
 |nil=>cases h
 | cons a t ih =>
  rw[Qm,Qv]at nd
  rw[Qm]
  rcases Qd.mp h with z | z
  ·subst z;exact zcl rfl
  ·rw [zbm]
   ·exact ih nd.2 z
   ·intro q
    exact nd.1 (by rw[kP_inj q];exact Qk.mpr ⟨e,z,rfl⟩)
inductive IspSteps(vs:List V)(H:Hp)(Q:VK):Prop
 |mk (d:Nc) (es:List Ent) (h0:vs=[.ref d]) (h1:TAt H d es) (h2:es.length≤60) (h3:(∀e∈es,e.2.1.Nodup∧e.2.1.length≤100)) (h4:∀(b:Nc) (bs:List ((Str×Str)×Addr)) (H':Hp),BAt H' b bs (row (rsOf es))→(∀s,s∈bs.map (·.1)↔s.1∈row (rsOf es) s.2)→bs.length≤10000→H b=none→Keep [] H H'→Q (.ref b) H'):IspSteps vs H Q
def spSteps:Sp:=λvs H Q _=>IspSteps vs H Q
def pidx(n j:Nat):Nat:=if j=0 then n-1 else j-1
def atI_prev{zs:List V}{j:Nat}(hj:j<zs.length):atI zs ((j:Int)-1)=zs[pidx zs.length j]?:=by
 unfold pidx
 by_cases h:j=0
 ·subst h
  rw[if_pos rfl]
  unfold atI ixN
  have e1:¬(0:Int)≤((0:Nat):Int)-1:=by lia
  have e2:-(zs.length:Int)≤((0:Nat):Int)-1:=by lia
  rw[if_neg e1,if_pos e2]
  show zs[(((0:Nat):Int)-1+(zs.length:Int)).toNat]?=_
  congr 1;lia
 ·rw [if_neg h]
  have e:(j:Int)-1=((j-1:Nat):Int):=by lia
  rw[e,zbo (Qg (by lia)),Qg (by lia)]
def idx_at{zs:Nd}(nd:zs.Nodup){i:Nat}(hi:i<zs.length):zs.idxOf zs[i]=i:=by
 have h1:zs.idxOf zs[i]<zs.length:=idx_lt (Qq hi)
 have h2:zs[zs.idxOf zs[i]]=zs[i]:=List.getElem_idxOf h1
 exact(Jb nd).mp h2
def nxt_idx{zs:Nd}(nd:zs.Nodup){j:Nat}(hj:j<zs.length)(hp:pidx zs.length j<zs.length):nxt zs zs[pidx zs.length j]=zs[j]:=by
 unfold nxt
 rw[idx_at nd hp]
 have e:(pidx zs.length j+1)%zs.length=j:=by
  unfold pidx
  by_cases h:j=0
  ·rw [if_pos h,h]
   have:zs.length-1+1=zs.length:=by lia
   rw[this,Nat.mod_self]
  ·rw [if_neg h]
   have:j-1+1=j:=by lia
   rw[this,Nat.mod_eq_of_lt hj]
 rw[e,Yh,Qg hj];rfl
section
variable{P:Nj}{w:Nl}{K:Na}{mg:Ng}{base:Nm}
def zep:zaq ["rounds", "behind", "place", "around", "at", "to"] ["rounds"] (zag sSteps):=⟨rfl,rfl,rfl,by decide +kernel,rfl,by decide +kernel,by decide +kernel⟩
def ok_steps{f:Nc}{fd:Nv}(F:Fun K "steps_behind" "steps_behind" sSteps f fd)(pG:mg "enumerate" = none):FnOk P w K mg base CX0 1 f fd ["rounds"] spSteps:=by
 refine F.ok zep (λvs H Q E h=>?_) (λcdv A outer s H vs Q E hr h=>?_)
 ·obtain ⟨d,es,rfl,_⟩:=h
  rfl
 ·obtain ⟨d,es,rfl,T,aN,hok,k⟩:=h
  have hu:=zb9 hr
  have aG:sizeLine=16777216:=sizeLine_eq
  refine⟨_,zae (zam (i:=1) zep.nd rfl (Or.inl rfl) pe_dnewT)
   (zae (ps_thaw (zbc Zh rfl (zdw (pv 0)) (zaj (i:=2) zep.nd rfl (Or.inl rfl))
    (zae (zam (i:=3) zep.nd rfl (Or.inl rfl) (zat hu (pv 0) (pv 2) (λ_ _=>rfl)))
    (zah (zbc Zh rfl (pi_enum rfl pG (zac (pv 3) zaf)) (ze8 rfl (zax (zaj (i:=4) zep.nd rfl (Or.inl rfl)) (zax (zaj (i:=5) zep.nd rfl (Or.inl rfl)) zcj)))
     (zah (zce hu (pv 1) (zdr (zac (zck ix_tup (pv 3) (zbd op_sub (pv 4) zal) (λ_ _=>rfl)) (zac (pv 2) zaf))) (zdr (zac (pv 2) (zac (pv 5) zaf))) rfl)))))))
   (zah (zbe (pv 1)))),?_⟩
  refine λb hb=>?_
  have nfz:∀o' u',H d≠some (.frz o' u'):=λo' u' z=>by rw[T.dc]at z;cases z
  have nbd:d≠b:=zaa T.dc hb
  have k1:Keep [] H (upd H b (.dT [])):=Keep.new hb
  have iM:BAt (upd H b (.dT [])) b [] (row (rsOf es)):=⟨zab,λe he=>(by cases he),Zk⟩
  have T1:TAt (upd H b (.dT [])) d es:=T.keep k1 (by simp) (λ_ _=>by simp)
  generalize upd H b (.dT [])=H1 at k1 iM T1
  have hbm:∀{H':Hp} {bs:List ((Str×Str)×Addr)},BAt H' b bs (row (rsOf es))→b≠d:=λ_=>Zc nbd
  refine⟨_,rfl,d,_,rfl,T1.dc,λo=>for_dict (λi σ H'=>Aj4 (Ex4 λx2 x3 x4 x5=>σ=[some (.ref d),some (.ref b),x2,x3,x4,x5]) (H' d=some (.frz o (.dK (es.map λe=>((Sum.inr e.1:Key),V.ref e.2.2))))) (Keep [d,b] H1 H') (Ex1 λbs=>Aj3 (BAt H' b bs (row (rsOf es))) (bs.length≤100*i) (∀s,s∈bs.map (·.1)↔s.2∈(es.take i).map (·.1)∧s.1∈row (rsOf es) s.2)))
   ⟨⟨_,_,_,_,rfl⟩,zab,Keep.wr (by simp),[],iM.keep (xs:=[d]) (Keep.wr (by simp)) (by simpa using Zc nbd) (λe he=>by cases he),Zi _,λs=>⟨λh=>(by cases h),λh=>(by cases h.1)⟩⟩
   (λi σ H' _ hh=>hh.2) ?_ ?_⟩
  ·rintro i pr σ H2 cM ⟨⟨x2,x3,x4,x5,rfl⟩,hz,k2,bs,ce,f',aZ⟩
   have hi:i<es.length:=by
    have:=(Zb.mp cM).1
    rwa[Qa]at this
   have g1:pr=((Sum.inr es[i].1:Key),V.ref es[i].2.2):=by
    rw[Qz,Qg hi]at cM
    exact(Qp cM).symm
   subst g1
   have aT:es[i]∈es:=Qq hi
   obtain⟨aB,hln⟩:=hok _ aT
   have dY:row (rsOf es) es[i].1=es[i].2.1:=zbb T.nd aT
   have c7:=T1.ro _ aT
   have nrd:es[i].2.2≠d:=zay c7 T1.dc (by intro z;cases z)
   have nrb:es[i].2.2≠b:=zay c7 iM.dc (by intro z;cases z)
   have dA:=k2 _ _ c7 (by simp[nrd,nrb])
   refine⟨_,rfl,_,rfl,d,.ref es[i].2.2,rfl,.inl ⟨_,Sum.inr es[i].1,.inr ⟨o,hz⟩,rfl,(zbv T.nd aT).symm⟩,?_⟩
   have bp:es[i].1∉(es.take i).map (·.1):=by
    have h1:(es.map (·.1)).take (i+1)=(es.map (·.1)).take i++[es[i].1]:=by
     rw[Qn (by rw[Qa];exact hi),Zs]
    have h2:((es.map (·.1)).take (i+1)).Nodup:=Wh (Jm _ _) T.nd
    rw[h1,Qy,←Uj]at h2
    exact λz=>h2.2.2 _ z _ (Qb.mpr rfl) rfl
   refine⟨_,rfl,es[i].2.2,rfl,⟨_,SqT.of dA⟩,for_enum (xs:=es[i].2.1.map V.str) (λj σ H'=>Aj4 (Ex2 λx4 x5=>σ=[some (.ref d),some (.ref b),some (.str es[i].1),some (.ref es[i].2.2),x4,x5]) (H' d=some (.frz o (.dK (es.map λe=>((Sum.inr e.1:Key),V.ref e.2.2))))) (Keep [d,b] H1 H') (Ex1 λbs=>Aj3 (BAt H' b bs (row (rsOf es))) (bs.length≤100*i+j) (∀s,s∈bs.map (·.1)↔(s.2∈(es.take i).map (·.1)∧s.1∈row (rsOf es) s.2)∨∃(m:Nat) (hm:m<j) (hp:pidx es[i].2.1.length m<es[i].2.1.length),s=(es[i].2.1[pidx es[i].2.1.length m],es[i].1))))
    ⟨⟨_,_,rfl⟩,hz,k2,bs,ce,f',fun s=>(aZ s).trans ⟨.inl,fun h=>by
     rcases h with z | ⟨m,hm,_⟩
     ·exact z
     ·exact absurd hm (Nat.not_lt_zero m)⟩⟩ (λj σ H' _ hh=>hh.3 _ _ c7 (by simp[nrd,nrb])) ?_ ?_⟩
   ·rintro j y t σ H3 hy ⟨⟨y4,y5,rfl⟩,jE,k3,n8,lI,pU,gP⟩ ht
    have hj:j<es[i].2.1.length:=by
     have:=(Zb.mp hy).1
     rwa[Qa]at this
    have iz:y=.str es[i].2.1[j]:=by
     rw[Qz,Qg hj]at hy
     exact(Qp hy).symm
    subst iz
    have tK:pidx es[i].2.1.length j<es[i].2.1.length:=by unfold pidx;split<;>lia
    have jd:=k3 _ _ c7 (by simp[nrd,nrb])
    have k4:Keep [] H3 (upd H3 t (.tup [.int j,.str es[i].2.1[j]])):=Keep.new ht
    refine⟨t,_,rfl,SqT.of zab,rfl,_,_,rfl,_,_,rfl,rfl,?_⟩
    generalize upd H3 t (.tup [.int j,.str es[i].2.1[j]])=H4 at k4
    refine⟨_,rfl,_,rfl,(by show 2≤sizeLine;decide),λv hv=>?_⟩
    have k5:Keep [] H4 (upd H4 v (.tup [.str es[i].1,.str es[i].2.1[j]])):=Keep.new hv
    have hv5:(upd H4 v (.tup [.str es[i].1,.str es[i].2.1[j]])) v=some (.tup [.str es[i].1,.str es[i].2.1[j]]):=zab
    generalize upd H4 v (.tup [.str es[i].1,.str es[i].2.1[j]])=H5 at k5 hv5
    have lY:Keep [] H3 H5:=k4.trans k5
    have tD:=lY _ _ jd (by simp)
    have jZ:atI (es[i].2.1.map V.str) ((j:Int)-1)=some (.str es[i].2.1[pidx es[i].2.1.length j]):=by
     rw[atI_prev (by rw[Qa];exact hj),Qa,Qz,Qg tK];rfl
    refine⟨_,rfl,_,rfl,_,rfl,_,_,rfl,rfl,es[i].2.2,_,_,_,rfl,rfl,SqT.of tD,jZ,_,rfl,(by show 2≤sizeLine;decide),λq hq=>?_⟩
    have k6:Keep [] H5 (upd H5 q (.tup [.str es[i].2.1[pidx es[i].2.1.length j],.str es[i].1])):=Keep.new hq
    have dC:(upd H5 q (.tup [.str es[i].2.1[pidx es[i].2.1.length j],.str es[i].1])) q=some (.tup ((kP (es[i].2.1[pidx es[i].2.1.length j],es[i].1)).map kV)):=zab
    generalize upd H5 q (.tup [.str es[i].2.1[pidx es[i].2.1.length j],.str es[i].1])=H6 at k6 dC
    have sq:Keep [] H3 H6:=lY.trans k6
    have rf:BAt H6 b n8 (row (rsOf es)):=lI.keep sq (by simp) (λ_ _=>by simp)
    have hv6:=k6 _ _ hv5 (by simp)
    have hz6:=sq _ _ jE (by simp)
    refine⟨b,_,rfl,DPut.t rf.dc dC (by rw[Qa];lia),?_⟩
    have hV:(es[i].2.1[pidx es[i].2.1.length j],es[i].1)∉n8.map (·.1):=λz=>by
     rcases(gP _).mp z with⟨z1,_⟩ | ⟨m,hm,hpm,e⟩
     ·exact bp z1
     ·have e1:=(Yu e).1
      have e2:=(Jb aB).mp e1
      unfold pidx at e2
      by_cases hj0:j=0
      ·lia
      ·rw [if_neg hj0] at e2
       by_cases jL:m=0
       ·rw[if_pos jL]at e2;lia
       ·rw[if_neg jL]at e2;lia
    have l0:putK (n8.map λe=>(kP e.1,V.ref e.2)) (kP (es[i].2.1[pidx es[i].2.1.length j],es[i].1)) (.ref v)=(n8++[((es[i].2.1[pidx es[i].2.1.length j],es[i].1),v)]).map λe=>(kP e.1,V.ref e.2):=by
     rw[zd7 _ (valT_out hV),Qs];rfl
    have aQ:st (row (rsOf es)) (es[i].2.1[pidx es[i].2.1.length j],es[i].1)=(es[i].1,es[i].2.1[j]):=by
     show(es[i].1,nxt (row (rsOf es) es[i].1) es[i].2.1[pidx es[i].2.1.length j])=_
     rw[dY,nxt_idx aB hj tK]
    refine⟨⟨_,_,rfl⟩,by rw[zad nbd];exact hz6,(k3.trans (sq.sub (by simp))).trans (Keep.wr (by simp)),_,⟨by rw[zab,l0],λe he=>?_,?_⟩,?_,λs=>?_⟩
    ·rcases Qe.mp he with z | z
     ·have:=rf.tp e z
      rw[zad (zay this rf.dc (by intro z;cases z))];exact this
     ·rw[Qb.mp z,aQ,zad (zay hv6 rf.dc (by intro z;cases z))];exact hv6
    ·rw [Qs,Qy]
     refine⟨lI.nd,Qv.mpr ⟨by simp,Zk⟩,λx hx y hy e=>?_⟩
     have bK:y=(es[i].2.1[pidx es[i].2.1.length j],es[i].1):=by simpa using hy
     exact hV (by rw[←bK,←e];exact hx)
    ·rw[Qo];show _+1≤_;exact zar4 ‹_›
    ·rw [Qs,Qe,gP]
     constructor
     ·rintro ((z | ⟨m,hm,hp,e⟩) | z)
      ·exact .inl z
      ·exact .inr ⟨m,by exact zar16 ‹_›,hp,e⟩
      ·exact .inr ⟨j,by exact Qf _,tK,by simpa using z⟩
     ·rintro (z | ⟨m,hm,hp,e⟩)
      ·exact .inl (.inl z)
      ·by_cases hmj:m < j
       ·exact .inl (.inr ⟨m,hmj,hp,e⟩)
       ·have:m=j:=by lia
        subst this
        exact .inr (by rw[e];exact Qc)
   ·rintro σ H3 ⟨⟨y4,y5,rfl⟩,jE,k3,n8,lI,pU,gP⟩
    rw[Qa]at gP pU
    refine⟨⟨_,_,_,_,rfl⟩,jE,k3,n8,lI,by lia,λs=>(gP s).trans ?_⟩
    have aP:(es.take (i+1)).map (·.1)=(es.take i).map (·.1)++[es[i].1]:=by rw[Qn hi,Qs];rfl
    rw[aP,Qe,Qb]
    constructor
    ·rintro (⟨z1,z2⟩ | ⟨m,hm,hp,e⟩)
     ·exact⟨.inl z1,z2⟩
     ·rw[e];exact⟨.inr rfl,by rw[dY];exact Qq hp⟩
    ·rintro ⟨z1 | z1,z2⟩
     ·exact .inl ⟨z1,z2⟩
     ·refine .inr ?_
      rw[z1,dY]at z2
      obtain⟨q,hq,e⟩:=Zo z2
      by_cases d8:q+1<es[i].2.1.length
      ·have tP:pidx es[i].2.1.length (q+1) < es[i].2.1.length:=by unfold pidx;rw [if_neg (by lia)];assumption
       refine⟨q+1,d8,tP,Kl ?_ z1⟩
       show s.1=es[i].2.1[pidx es[i].2.1.length (q+1)]
       rw[←e];congr 1
      ·have tP:pidx es[i].2.1.length 0 < es[i].2.1.length:=by unfold pidx;rw [if_pos rfl];lia
       refine⟨0,by lia,tP,Kl ?_ z1⟩
       show s.1=es[i].2.1[pidx es[i].2.1.length 0]
       rw[←e];congr 1
       unfold pidx;rw[if_pos rfl];lia
  ·rintro σ H2 ⟨⟨x2,x3,x4,x5,rfl⟩,hz,k2,bs,ce,f',aZ⟩
   rw[Qa]at aZ f'
   rw[Qr (Qf _)]at aZ
   refine⟨d,o,_,hz,nfz,?_⟩
   have kf:Keep [] H (upd H2 d (.dK (es.map λe=>((Sum.inr e.1:Key),V.ref e.2.2)))):=λc u ec _=>by
    have nc:c≠b:=zaa ec hb
    by_cases au:c=d
    ·subst au
     rw[zab,←T.dc];exact ec
    ·rw [zad au]
     exact k2 c u (k1 c u ec (by simp)) (by simp[au,nc])
   refine⟨_,rfl,k b bs _ (ce.keep (xs:=[d]) (Keep.wr (by simp)) (by simpa using Zc nbd) (λe he=>by simpa using zay (ce.tp e he) hz (by intro z;cases z))) (λs=>?_) (by lia) hb kf⟩
   rw[aZ]
   constructor
   ·exact λh=>h.2
   ·intro h
    refine⟨?_,h⟩
    obtain⟨p,hp,e,_⟩:=(zib (rs:=rsOf es) (by unfold rsOf;rw[List.map_map];exact T.nd)).mpr h
    obtain⟨en,az,rfl⟩:=Qk.mp hp
    exact Qk.mpr ⟨en,az,e⟩
end
abbrev ze6:Stmt:=top 3
def zc5(H:Hp)(a:Nc)(h:Str):Prop:=∃t:List Str,H a=some (.lst ((h::t).map V.str))
def zex(es:List Ent):List Str:=(es.filter λe=>e.2.1.isEmpty).map (·.1)
inductive IspFaces(vs:List V)(H:Hp)(Q:VK):Prop
 |mk (d:Nc) (es:List Ent) (cs:List (List (Str×Str))) (lab:Nu) (h0:vs=[.ref d]) (h1:TAt H d es) (h2:es.length≤60) (h3:(∀e∈es,e.2.1.length≤100)) (h4:Cert (es.map (·.1)) (row (rsOf es)) cs lab) (h5:∀(l:Nc) (as:Nk) (hd hc:Nd) (cs':List (List (Str×Str))) (H':Hp),H' l=some (.lst (as.map V.ref))→as.length≤20000→Paired (zc5 H') as hd→hd.Perm (zex es++hc)→cs'.Perm cs→Paired (λh c=>∃s∈c,s.1=h) hc cs'→Keep [] H H'→Q (.ref l) H'):IspFaces vs H Q
def spFaces:Sp:=λvs H Q _=>IspFaces vs H Q
def pt_truthK{X:Cx}{K:Na}{a:Expr}{ta:TE}(hK:X.K=K)(ha:PE X a ta)(he:∀whole,isTrue a X.env whole=(do let v ←whole;standAt a.pos;holding [v] (truthy v))) :
  PT X a (λ σ H Q=>ta σ H λx H'=>RTr K x H' Q):=hK▸zd8 ha he
abbrev ze1:Scope:=scOf (eOf (sAt ze6 1))
def csFaces_k:ze1.kind=.function:=by rfl
def csFaces_c:∀y∈ze1.names,y.2≠.cell:=by decide +kernel
def csFaces_n:∀y∈ze1.names,y.2=.local→ze1.names.lookup y.1=some .local:=by decide +kernel
def csFaces_f:∀y∈ze1.names,y.2=.free→(zag ze6).names.lookup y.1=some .cell∨(zag ze6).names.lookup y.1=some .free:=by decide +kernel
def csFaces_l:ze1.names.lookup ("rounds" : Str)=some NameKind.free:=by decide +kernel
def ndF:(["place", "rounds"]:List Str).Nodup:=by decide +kernel
def valG_out{gs:Nr}{s:Str×Str}(h:s∉gs):valV (gs.map λs=>(kP s,V.bl true)) (kP s)=none:=by
 induction gs with
 |nil=>rfl
 |cons a t ih =>
  rw[Qd,not_or]at h
  rw[Qm,zbm]
  ·exact ih h.2
  ·intro q;exact h.1 (kP_inj q).symm
def valG_in{gs:Nr}{s:Str×Str}(h:s∈gs):valV (gs.map λs=>(kP s,V.bl true)) (kP s)=some (.bl true):=by
 induction gs with
 |nil=>cases h
 | cons a t ih =>
  rw[Qm]
  by_cases e:a=s
  ·exact zcl (by rw[e])
  ·rw [zbm (fun q=>e (kP_inj q))]
   rcases Qd.mp h with z | z
   ·exact absurd z.symm e
   ·exact ih z
def lk_get{β:Type}{f:β→β}{e:β}:∀{t:List β} {s:β},Lk f s t e→∀k,k<(s::t).length→f ((s::t).getD k e)=(s::t).getD (k+1) e:=by
 intro t
 induction t with
 |nil =>
  intro s h k hk
  have:k=0:=by simp at hk;exact hk
  subst this;exact h
 | cons a t ih =>
  intro s h k hk
  cases k with
  |zero=>exact h.1
  |succ n =>
   have:=ih h.2 n (by simpa using hk)
   simpa using this
def zcx{H H':Hp}{D g:Nc}{fa:Nk}{hd:Nd}{xs:Nk}(k:Keep xs H H')(h:Paired (zc5 H) fa hd)(hx:∀a (h:Str) (t:Nd),H a=some (.lst ((h::t).map V.str))→a∉xs):Paired (zc5 H') fa hd :=
 Paired.imp' (λa h ⟨t,e⟩=>⟨t,k _ _ e (hx a h t e)⟩) h
def zbg{α β:Type}{R:α→β→Prop}:∀{as dl:List α} {bs ng:List β},Paired R as bs→Paired R dl ng→Paired R (as++dl) (bs++ng):=by
 intro as dl bs ng r r'
 induction r with
 |nil=>exact r'
 |cons h t ih=>exact .cons h ih
section
variable{P:Nj}{w:Nl}{K:Na}{mg:Ng}{base:Nm}
def zc6:zaq ["rounds", "behind", "found", "gone", "first", "face", "step"] ["rounds"] (zag ze6):=⟨rfl,rfl,rfl,by decide +kernel,rfl,by decide +kernel,by decide +kernel⟩
def ok_faces{f fs:Nc}{fd fds:Nv}(F:Fun K "faces_of" "faces_of" ze6 f fd)(FS:Fun K "steps_behind" "steps_behind" sSteps fs fds)(bS:Binds K fds ["rounds"] [])(mS:mg "steps_behind" = some (.ref fs))(GS:FnOk P w K mg base CX0 1 fs fds ["rounds"] spSteps)(ay:mg "sorted" = none):FnOk P w K mg base CX0 2 f fd ["rounds"] spFaces:=by
 refine F.ok zc6 (λvs H Q E h=>?_) (λcdv A outer s H vs Q E hr h=>?_)
 ·obtain ⟨d,es,cs,lab,rfl,_⟩:=h
  rfl
 ·obtain ⟨d,es,cs,lab,rfl,T,aN,aR,C,k⟩:=h
  have hu:=zb9 hr
  have hu8:(A.deeper (PyProof.Rows.envOfC "faces_of" (zag ze6) s.heap.objs.size f cdv)).units+8<cLine:=Km (Nat.add_le_add_left (by decide:8≤64) _) hr.units
  have aG:sizeLine=16777216:=sizeLine_eq
  refine⟨_,zae (zam (i:=1) zc6.nd rfl (Or.inl rfl) (zak GS hr rfl mS FS.kp bS .nil zaw (zac (pv 0) zaf)))
   (zae (ps_thaw (ps_lc (i:=2) (M:=["place", "rounds"]) (ix:=[none,some 0]) zc6.nd rfl rfl ⟨csFaces_k,csFaces_c,csFaces_n,csFaces_f,rfl,by decide +kernel,λj i x h1 h2=>by
      match j,h1,h2 with
      |0,_,h2=>cases h2
      |1,h1,h2=>cases h1;cases h2;exact⟨rfl,csFaces_l⟩
      |n+2,h1,_=>cases h1⟩ rfl (zdw (pv 0)) (λC a0 ex s H=>zaj (i:=0) ndF rfl (Or.inl rfl) (Or.inr rfl))
     (λC a0 ex s H=>zes (pt_not (pt_truthK (K:=K) rfl (zat (by exact hu) (pv 1) (pv 0) (λ_ _=>rfl)) (by intro _;rfl)))) (λC a0 ex s H=>zbh (zac (pv 0) zaf)) rfl))
   (zae (zam (i:=3) zc6.nd rfl (Or.inl rfl) pe_dnewT)
   (zae (zbc Zh rfl (zav (zai (zgv rfl) (by rfl) ay Yd (zac (pv 1) zaf))) (zaj (i:=4) zc6.nd rfl (Or.inl rfl))
    (zae (zam (i:=5) zc6.nd rfl (Or.inl rfl) (zbh zaf))
    (zae (zam (i:=6) zc6.nd rfl (Or.inl rfl) (pv 4))
    (zae (zdl Zh (zdq (zbz hu (pv 6) (pv 3)))
     (zae (zce hu (pv 3) (pv 6) pe_bl rfl)
     (zae (za6 (zd9 Zm Yo Yn zb0 (pv 5) (zac (zck ix_tup (pv 6) zal (λ_ _=>rfl)) zaf)))
     (zah (zam (i:=6) zc6.nd rfl (Or.inl rfl) (zat hu (pv 1) (pv 6) (λ_ _=>rfl)))))))
    (zah (zb5 (zd8 (pv 5) (by intro _;rfl)) (zah (za6 (zd9 Zm Yo Yn zb0 (pv 2) (zac (pv 5) zaf)))) za0))))))
   (zah (zbe (zai (ze3 hu8) (by rfl) ay Yd (zac (pv 2) zaf))))))),?_⟩
  have af:∀e∈es,row (rsOf es) e.1=e.2.1:=λe he=>zbb T.nd he
  refine⟨_,rfl,d,es,rfl,T,aN,λe he=>⟨af e he▸C.rn e.1,aR e he⟩,λb bs H1 iM aZ f' hbfr k1=>?_⟩
  have T1:TAt H1 d es:=T.keep k1 (by simp) (λ_ _=>by simp)
  have nfz:∀o' u',H d≠some (.frz o' u'):=λo' u' z=>by rw[T.dc]at z;cases z
  refine⟨_,rfl,d,_,rfl,T1.dc,λo=>⟨λi m ys τ H2=>Aj6 (m=es.length-i) (i≤es.length) (Ex1 λx0=>τ=[x0,some (.ref d)]) (H2 d=some (.frz o (.dK (es.map λe=>((Sum.inr e.1:Key),V.ref e.2.2))))) (Keep [d] H1 H2) (Ex1 λ(as:Nk)=>Aj3 (ys=as.map V.ref) (as.length≤i) (Paired (zc5 H2) as (zex (es.take i)))),
   ⟨es.length,rfl,Zi _,⟨none,rfl⟩,zab,Keep.wr Qc,[],rfl,Zi _,.nil⟩,?_⟩⟩
  rintro i m ys τ H2 ⟨rfl,hi,⟨x0,rfl⟩,hz,k2,fa,rfl,my,fg⟩
  by_cases aa:i<es.length
  ·refine .inr ⟨⟨hz,by rw [Qa];exact aa⟩,by rw [Qa];lia,?_⟩
   rintro y H' ⟨rfl,pr,e1,rfl⟩
   have g1:pr=((Sum.inr es[i].1:Key),V.ref es[i].2.2):=by
    rw[Qz,Qg aa]at e1
    exact(Qp e1).symm
   subst g1
   have aT:es[i]∈es:=Qq aa
   have fR:=T1.ro _ aT
   have nri:es[i].2.2≠d:=zay fR T1.dc (by intro z;cases z)
   have dA:=k2 _ _ fR (by simpa using nri)
   have aP:es.take (i+1)=es.take i++[es[i]]:=Qn aa
   refine⟨_,rfl,_,rfl,d,.ref es[i].2.2,rfl,.inl ⟨_,Sum.inr es[i].1,.inr ⟨o,hz⟩,rfl,(zbv T.nd aT).symm⟩,_,.inr (.inl ⟨_,SqT.of dA,rfl⟩),?_⟩
   have jS:(es[i].2.1.map V.str).isEmpty=es[i].2.1.isEmpty:=by cases es[i].2.1<;>rfl
   cases hb:es[i].2.1.isEmpty with
   | false =>
    refine za5 (by rw[jS,hb];rfl) ⟨_,?_,rfl,aa,⟨_,rfl⟩,hz,k2,fa,rfl,by exact zar16 ‹_›,?_⟩
    ·exact zar1 ‹_›
    ·unfold zex
     rw[aP,Yq,Zu (by rw[hb];decide),Uh,Zv];exact fg
   | true =>
    refine zb6 (by rw[jS,hb];rfl) ⟨_,rfl,(by show 1≤sizeLine;decide),λq hq=>⟨_,?_,rfl,aa,⟨_,rfl⟩,?_,k2.trans (Keep.new hq),fa++[q],?_,?_,?_⟩⟩
    ·exact zar1 ‹_›
    ·rw[zad (zaa hz hq)];exact hz
    ·rw[Qs];rfl
    ·rw[Qo];show _+1≤_;exact zar4 ‹_›
    ·unfold zex
     rw[aP,Yq,Zt (by rw[hb]),Uh,Qs]
     exact zbg (zcx (D:=d) (g:=d) (xs:=[]) (Keep.new hq) fg (λ_ _ _ _=>by simp)) (.cons ⟨[],zab⟩ .nil)
  ·have fA:i=es.length:=by exact zar3 ‹_› ‹_›
   subst fA
   rw[Qr (Qf _)]at fg
   refine .inl ⟨⟨hz,by rw[Qa];exact Qf _⟩,λD hD=>?_⟩
   have ndD:d≠D:=zaa hz hD
   refine⟨d,o,_,(by rw[zad ndD];exact hz),nfz,?_⟩
   have k3:Keep [] H1 (upd (upd H2 D (.lst (fa.map V.ref))) d (.dK (es.map λe=>((Sum.inr e.1:Key),V.ref e.2.2)))):=λc u ec _=>by
    by_cases au:c=d
    ·subst au
     rw[zab,←T1.dc];exact ec
    ·have fH:=k2 c u ec (by simpa using au)
     rw[zad au,zad (zaa fH hD)];exact fH
   have ju:(upd (upd H2 D (.lst (fa.map V.ref))) d (.dK (es.map λe=>((Sum.inr e.1:Key),V.ref e.2.2)))) D=some (.lst (fa.map V.ref)):=by rw[zad (Zc ndD)];exact zab
   have dF:Paired (zc5 (upd (upd H2 D (.lst (fa.map V.ref))) d (.dK (es.map λe=>((Sum.inr e.1:Key),V.ref e.2.2))))) fa (zex es):=Paired.imp' (λa h ⟨t,e⟩=>⟨t,by
    rw[zad (zay e hz (by intro z;cases z)),zad (zaa e hD)];exact e⟩) fg
   generalize upd (upd H2 D (.lst (fa.map V.ref))) d (.dK (es.map λe=>((Sum.inr e.1:Key),V.ref e.2.2)))=H3 at k3 ju dF
   have lI:BAt H3 b bs (row (rsOf es)):=iM.keep k3 (by simp) (λ_ _=>by simp)
   refine λg hg=>?_
   have k4:Keep [] H3 (upd H3 g (.dT [])):=Keep.new hg
   have hg4:(upd H3 g (.dT [])) g=some (.dT []):=zab
   generalize upd H3 g (.dT [])=H4 at k4 hg4
   have hb4:BAt H4 b bs (row (rsOf es)):=lI.keep k4 (by simp) (λ_ _=>by simp)
   refine⟨_,rfl,b,_,bs.map (·.1),rfl,hb4.dc,(by rw[Zq,Zq];rfl),λl as ws hl ae pa=>?_⟩
   have k5:Keep [] H4 (upd H4 l (.lst (as.map V.ref))):=Keep.new hl
   have cr:(upd H4 l (.lst (as.map V.ref))) l=some (.lst (as.map V.ref)):=zab
   have rR:zar (upd H4 l (.lst (as.map V.ref))) as ws:=zar.keep pa λc x y ec=>k5 _ _ ec (by simp)
   have nDl:D≠l:=zaa (k4 _ _ ju (by simp)) hl
   generalize upd H4 l (.lst (as.map V.ref))=H5 at k5 cr rR
   have lY:Keep [] H3 H5:=k4.trans k5
   have ka:=lY _ _ ju (by simp)
   have pk:=k5 _ _ hg4 (by simp)
   have v9:BAt H5 b bs (row (rsOf es)):=hb4.keep k5 (by simp) (λ_ _=>by simp)
   have jh:Paired (zc5 H5) fa (zex es):=zcx (D:=d) (g:=d) lY dF (λ_ _ _ _=>by simp)
   have jC:Keep [] H H5:=(k1.trans k3).trans lY
   have nlg:l≠g:=zay cr pk (by intro z;cases z)
   have nDg:D≠g:=zay ka pk (by intro z;cases z)
   have nbg:b≠g:=zaa lI.dc hg
   have nbD:b≠D:=zay v9.dc ka (by intro z;cases z)
   have jq:as.length=ws.length:=Yb rR
   have cR:ws.length≤10000:=by rw[ae.length_eq,Qa];exact f'
   have notDg:∀{H':Hp} {rF:Nk} {gs:Nr},H' D=some (.lst (rF.map V.ref))→H' g=some (.dT (gs.map λs=>(kP s,V.bl true)))→∀a (h:Str) (t:Nd),H' a=some (.lst ((h::t).map V.str))→a≠D∧a≠g:=λ{H' rF gs} e1 e2 a h t e =>
    ⟨zay e e1 (by
     intro z
     have z':(h::t).map V.str=rF.map V.ref:=by injection z
     cases rF with
     |nil=>cases z'
     |cons x u=>rw[Qm,Qm]at z';injection z' with z1 _;cases z1),zay e e2 (by intro z;cases z)⟩
   refine⟨l,rfl,⟨_,SqL.of cr⟩,zbr (xs:=as.map V.ref) (λi σ H'=>Aj3 (Ex3 λx4 x5 x6=>σ=[some (.ref d),some (.ref b),some (.ref D),some (.ref g),x4,x5,x6]) (Keep [D,g] H5 H') (Ex5 λ(gs:Nr) (dn rem:List (List (Str×Str))) (fa:Nk) (hc:Nd)=>Aj9 (H' g=some (.dT (gs.map λs=>(kP s,V.bl true)))) gs.Nodup (∀s,s∈gs↔s∈dn.flatten) (cs.Perm (dn++rem)) (∀s∈ws.take i,s∈gs) (H' D=some (.lst (fa.map V.ref))) (Paired (zc5 H') fa (zex es++hc)) (Paired (λh c=>∃s∈c,s.1=h) hc dn) (fa.length≤100+i)))
    ⟨⟨_,_,_,rfl⟩,Keep.refl,[],[],cs,fa,[],pk,Zk,λs=>Iff.rfl,List.Perm.refl _,λs hs=>(by cases hs),ka,by rw[Zv];exact jh,.nil,by omega⟩
    (λi σ H' _ hh=>SqL.of (hh.2 _ _ cr (by simp[Zc nDl,nlg]))) ?_ ?_⟩
   ·rintro i y σ H6 hx ⟨⟨x4,x5,x6,rfl⟩,k6,gs,dn,rem,qk,pS,ur,uq,lu,fZ,qG,rA,jg,au,dh⟩
    have hi:i<as.length:=by
     have:=(Zb.mp hx).1
     rwa[Qa]at this
    have gj:y=.ref as[i]:=by
     rw[Qz,Qg hi]at hx
     exact(Qp hx).symm
    subst gj
    obtain⟨ar,lK⟩:=za8 rR hi
    have nag:as[i]≠g:=zay lK pk (by intro z;cases z)
    have naD:as[i]≠D:=zay lK ka (by intro z;cases z)
    have q0:=k6 _ _ lK (by simp[nag,naD])
    have iV:ws[i]∈ws:=Qq ar
    have hsi:ws[i].1∈row (rsOf es) ws[i].2:=(aZ _).mp (ae.mem_iff.mp iV)
    have hwt:∀{rD:Nr},(∀s∈gs,s∈rD)→ws[i]∈rD→∀s∈ws.take (i+1),s∈rD:=λ{rD} h1 h2 s hs=>by
     rw[Qn ar]at hs
     rcases Qe.mp hs with z | z
     ·exact h1 s (qG s z)
     ·rw[Qb.mp z];exact h2
    refine⟨(by show 0≤sizeLine;decide),λfl hX=>?_⟩
    have k7:Keep [] H6 (upd H6 fl (.lst [])):=Keep.new hX
    have cv:(upd H6 fl (.lst [])) fl=some (.lst []):=zab
    have nfD:fl≠D:=Zc (zaa rA hX)
    have nfg:fl≠g:=Zc (zaa ur hX)
    have nafl:as[i]≠fl:=zaa q0 hX
    generalize upd H6 fl (.lst [])=H7 at k7 cv
    have pj:=k7 _ _ ur (by simp)
    have vn:=k7 _ _ rA (by simp)
    have pZ:=k7 _ _ q0 (by simp)
    have sf:Keep [D,g] H5 H7:=k6.trans (k7.sub (by simp))
    have v8:BAt H7 b bs (row (rsOf es)):=v9.keep sf (by simp[nbD,nbg]) λe he=>by
     have h1:=v9.tp e he
     simp[zay h1 ka (by intro z;cases z),zay h1 pk (by intro z;cases z)]
    have nbfl:b≠fl:=zay v8.dc cv (by intro z;cases z)
    have oy:Paired (zc5 H7) qk (zex es++pS):=zcx (D:=d) (g:=d) k7 jg (λ_ _ _ _=>by simp)
    refine⟨_,rfl,?_⟩
    by_cases hU:ws[i]∈gs
    ·-- it is gone already
     refine⟨λm σ H'=>Aj2 (σ=[some (.ref d),some (.ref b),some (.ref D),some (.ref g),some (.ref as[i]),some (.ref fl),some (.ref as[i])]) (H'=H7),⟨0,rfl,rfl⟩,?_⟩
     rintro m σ H' ⟨rfl,rfl⟩
     have dg:=DGet.t (k:=kP ws[i]) pj pZ
     rw[valG_in hU]at dg
     refine⟨_,rfl,_,rfl,g,_,rfl,dg,_,rfl,za5 rfl ?_⟩
     refine⟨_,rfl,_,.inl ⟨_,SqL.of cv,rfl⟩,za5 rfl ?_⟩
     exact⟨⟨_,_,_,rfl⟩,sf,gs,dn,rem,qk,pS,pj,uq,lu,fZ,hwt (λ_ h=>h) hU,vn,oy,au,by exact zar16 ‹_›⟩
    ·-- a new cycle
     obtain⟨c,eI,sZ⟩:=Zp.mp ((C.cm ws[i]).mpr hsi)
     obtain⟨A1,B1,iQ⟩:=Yx sZ
     have hlk:=zdd (iQ▸C.cy c eI)
     generalize hL:ws[i]::(B1++A1)=L
     have rp:L.Perm c:=by
      rw[←hL,iQ]
      refine Ki.mpr λa=>?_
      simp only[Kv,Xj];lia
     have cu:=(List.Perm.flatten fZ).nodup_iff.mp C.cf
     rw[Wo,Qy]at cu
     have jW:c∈rem:=by
      rcases Qe.mp (fZ.mem_iff.mp eI) with z | z
      ·exact absurd ((lu _).mpr (Zp.mpr ⟨c,z,sZ⟩)) hU
      ·exact z
     have hLg:∀s∈L,s∉gs:=λs hs hg=>by
      exact absurd rfl (cu.2.2 s ((lu s).mp hg) s (Zp.mpr ⟨c,jW,rp.mem_iff.mp hs⟩))
     have qd:L.Nodup:=by
      rw[rp.nodup_iff]
      have:=(zbw eI).nodup_iff.mp C.cf
      rw[Qy]at this
      exact this.1
     have qc:∀s∈L,s.1∈row (rsOf es) s.2:=λs hs=>C.inc eI (rp.mem_iff.mp hs)
     have hLpos:0<L.length:=by rw[←hL];simp
     have aw:gs++L |>.Nodup:=Qy.mpr ⟨uq,qd,λa ha b' g9 e=>hLg b' g9 (e▸ha)⟩
     have hsz:(gs++L).length≤10000:=by
      refine Zd (zgc aw (m:=bs.map (·.1)) λs hs=>?_) (by rw[Qa];exact f')
      rcases Qe.mp hs with z | z
      ·obtain ⟨c',cb,bj⟩:=Zp.mp ((lu s).mp z)
       exact(aZ s).mpr (C.inc (fZ.mem_iff.mpr (Ql _ cb)) bj)
      ·exact(aZ s).mpr (qc s z)
     rw[Qo]at hsz
     have fB:∀k (hk:k<L.length),st (row (rsOf es)) L[k]=L.getD (k+1) ws[i]:=λk hk=>by
      have:=lk_get hlk k (by rw[hL];exact hk)
      rw[hL,Yh,Qg hk]at this
      exact this
     refine⟨λm σ H'=>Ex2 λ(k:Nat) (t:Nc)=>Aj7 (m=L.length-k) (k≤L.length) (σ=[some (.ref d),some (.ref b),some (.ref D),some (.ref g),some (.ref as[i]),some (.ref fl),some (.ref t)]) (Keep [g,fl] H7 H') (H' g=some (.dT ((gs++L.take k).map λs=>(kP s,V.bl true)))) (H' fl=some (.lst (((L.take k).map (·.1)).map V.str))) (H' t=some (.tup [.str (L.getD k ws[i]).1,.str (L.getD k ws[i]).2])),
      ⟨_,0,as[i],rfl,Zi _,rfl,Keep.refl,by rw[List.take_zero,Zv];exact pj,cv,by rw[←hL];exact pZ⟩,?_⟩
     rintro m σ H8 ⟨k8,t,rfl,hk8,rfl,lX,pi,hW,fQ⟩
     have dg:=DGet.t (k:=kP (L.getD k8 ws[i])) pi fQ
     by_cases fk:k8<L.length
     ·have lE:L.getD k8 ws[i]=L[k8]:=by rw [Yh,Qg fk];rfl
      have aP:L.take (k8+1)=L.take k8++[L[k8]]:=Qn fk
      have bp:L[k8]∉gs++L.take k8:=λz=>by
       rcases Qe.mp z with q | q
       ·exact hLg _ (Qq fk) q
       ·have:=Wh (Jm (k8+1) L) qd
        rw[aP,Qy]at this
        exact this.2.2 _ q _ (Qb.mpr rfl) rfl
      rw[lE]at fQ dg
      rw[valG_out bp]at dg
      refine⟨_,rfl,_,rfl,g,_,rfl,dg,_,rfl,zb6 rfl ?_⟩
      refine⟨_,λ σ' H' z=>z,?_⟩
      have ee:((gs++L.take k8).map λs=>(kP s,V.bl true)).length<sizeLine:=by
       rw[Qa,Qo,Zn];lia
      refine⟨_,rfl,_,rfl,g,_,rfl,DPut.t (k:=kP L[k8]) pi fQ ee,?_⟩
      have l0:putK ((gs++L.take k8).map λs=>(kP s,V.bl true)) (kP L[k8]) (.bl true)=(gs++L.take (k8+1)).map λs=>(kP s,V.bl true):=by
       rw[zd7 _ (valG_out bp),aP,←Qt,Qs (l₂:=[L[k8]])];rfl
      rw[l0]
      have ntg:t≠g:=zay fQ pi (by intro z;cases z)
      have ntfl:t≠fl:=zay fQ hW (by intro z;cases z)
      have k9:Keep [g,fl] H7 (upd H8 g (.dT ((gs++L.take (k8+1)).map λs=>(kP s,V.bl true)))):=lX.trans (Keep.wr (by simp))
      have hg9:(upd H8 g (.dT ((gs++L.take (k8+1)).map λs=>(kP s,V.bl true)))) g=some (.dT ((gs++L.take (k8+1)).map λs=>(kP s,V.bl true))):=zab
      have lv:(upd H8 g (.dT ((gs++L.take (k8+1)).map λs=>(kP s,V.bl true)))) fl=some (.lst (((L.take k8).map (·.1)).map V.str)):=by rw[zad nfg];exact hW
      have sR:(upd H8 g (.dT ((gs++L.take (k8+1)).map λs=>(kP s,V.bl true)))) t=some (.tup [.str L[k8].1,.str L[k8].2]):=by rw[zad ntg];exact fQ
      generalize upd H8 g (.dT ((gs++L.take (k8+1)).map λs=>(kP s,V.bl true)))=H9 at k9 hg9 lv sR
      refine⟨_,rfl,.inl ⟨rfl,_,SqL.of lv⟩,_,rfl,t,_,_,_,rfl,rfl,SqT.of sR,zbo (j:=0) rfl,fl,_,_,rfl,rfl,lv,(by rw[Qa,Qa,Zn];lia),?_⟩
      have mz:((L.take k8).map (·.1)).map V.str++[V.str L[k8].1]=((L.take (k8+1)).map (·.1)).map V.str:=by rw[aP,Qs,Qs];rfl
      rw[mz]
      have jD:Keep [g,fl] H7 (upd H9 fl (.lst (((L.take (k8+1)).map (·.1)).map V.str))):=k9.trans (Keep.wr (by simp))
      have pz:(upd H9 fl (.lst (((L.take (k8+1)).map (·.1)).map V.str))) g=some (.dT ((gs++L.take (k8+1)).map λs=>(kP s,V.bl true))):=by rw[zad (Zc nfg)];exact hg9
      have jP:(upd H9 fl (.lst (((L.take (k8+1)).map (·.1)).map V.str))) fl=some (.lst (((L.take (k8+1)).map (·.1)).map V.str)):=zab
      have o8:(upd H9 fl (.lst (((L.take (k8+1)).map (·.1)).map V.str))) t=some (.tup [.str L[k8].1,.str L[k8].2]):=by rw[zad ntfl];exact sR
      generalize upd H9 fl (.lst (((L.take (k8+1)).map (·.1)).map V.str))=cK at jD pz jP o8
      have lJ:BAt cK b bs (row (rsOf es)):=v8.keep jD (by simp[nbg,nbfl]) λe he=>by
       have h1:=v8.tp e he
       simp[zay h1 pj (by intro z;cases z),zay h1 cv (by intro z;cases z)]
      obtain⟨e,he,hee⟩:=Qk.mp ((aZ L[k8]).mpr (qc _ (Qq fk)))
      have dg2:=DGet.t (k:=kP L[k8]) lJ.dc o8
      rw[←hee,valT_in lJ.nd he]at dg2
      have o6:=lJ.tp e he
      rw[hee,fB k8 fk]at o6
      refine⟨_,rfl,_,rfl,b,_,rfl,dg2,L.length-(k8+1),by exact zar1 ‹_›,k8+1,e.2,rfl,fk,rfl,jD,pz,jP,o6⟩
     ·have hk:k8=L.length:=by exact zar3 ‹_› ‹_›
      subst hk
      have lE:L.getD L.length ws[i]=ws[i]:=by rw[Yh,Xn (Qf _)];rfl
      rw[Qr (Qf _)]at pi hW dg
      have hwL:ws[i]∈L:=by rw[←hL];exact Qc
      rw[lE,valG_in (Qi _ hwL)]at dg
      refine⟨_,rfl,_,rfl,g,_,rfl,dg,_,rfl,za5 rfl ?_⟩
      have ap:((L.map (·.1)).map V.str).isEmpty=false:=by rw[←hL];rfl
      refine⟨_,rfl,_,.inl ⟨_,SqL.of hW,rfl⟩,zb6 (by rw[ap];rfl) ?_⟩
      have hD8:=lX _ _ vn (by simp[nDg,Zc nfD])
      refine⟨_,rfl,.inl ⟨rfl,_,SqL.of hD8⟩,_,rfl,D,_,_,rfl,rfl,hD8,(by rw[Qa];lia),?_⟩
      have k9:Keep [D,g] H5 (upd H8 D (.lst (qk.map V.ref++[.ref fl]))):=by
       refine Keep.trans (λc' u' ec cb=>?_) (Keep.wr (by simp))
       have h7:=sf c' u' ec cb
       refine lX c' u' h7 ?_
       have ncg:c'≠g:=λz=>cb (by simp[z])
       have ncf:c'≠fl:=λz=>by
        have:=k6 c' u' ec cb
        rw[z,hX]at this;cases this
       simp[ncg,ncf]
      refine⟨⟨_,_,_,rfl⟩,k9,gs++L,dn++[c],rem.erase c,qk++[fl],pS++[ws[i].1],by rw[zad (Zc nDg)];exact pi,aw,λs=>?_,?_,hwt (λs hs=>Ql _ hs) (Qi _ hwL),by rw[zab,Qs];rfl,?_,zbg au (.cons ⟨ws[i],sZ,rfl⟩ .nil),by rw[Qo];show _+1≤_;exact zar4 ‹_›⟩
      ·rw[Qe,lu,Wo,Qe,Ys,List.flatten_nil,Zv,rp.mem_iff]
      ·refine fZ.trans ?_
       rw[Qt]
       exact Zz _ (Kb jW)
      ·rw [← Qt]
       refine zbg (Paired.imp' (λa h ⟨t,e⟩=>⟨t,?_⟩) oy) (.cons ⟨(B1++A1).map (·.1),?_⟩ .nil)
       ·have n1:=notDg vn pj a h t e
        have naf:a≠fl:=zay e cv (by intro z;injection z with z;cases z)
        rw[zad n1.1]
        exact lX _ _ e (by simp[n1.2,naf])
       ·rw[zad nfD,hW,←hL];rfl
   ·rintro σ H6 ⟨⟨x4,x5,x6,rfl⟩,k6,gs,dn,rem,qk,pS,ur,uq,lu,fZ,qG,rA,jg,au,dh⟩
    rw[Qa,jq,Qr (Qf _)]at qG
    have tE:rem=[]:=by
     cases rem with
     |nil=>rfl
     |cons c rem' =>
      have pR:c∈cs:=fZ.mem_iff.mpr (Qi _ Qc)
      obtain⟨s0,t0,mK,_⟩:=C.cy c pR
      have aG:s0∈c:=by rw[mK];exact Qc
      have h1:s0∈ws:=ae.mem_iff.mpr ((aZ s0).mpr (C.inc pR aG))
      have h2:=(lu s0).mp (qG s0 h1)
      have h3:=(List.Perm.flatten fZ).nodup_iff.mp C.cf
      rw[Wo,Qy]at h3
      exact absurd rfl (h3.2.2 s0 h2 s0 (Zp.mpr ⟨c,Qc,aG⟩))
    rw[tE,Zv]at fZ
    refine⟨_,rfl,D,_,rfl,SqL.of rA,λv hv=>?_,λl7 ws7 mv l5=>?_⟩
    ·obtain ⟨a,ha,rfl⟩:=Qk.mp hv
     obtain⟨j,hj,rfl⟩:=Zo ha
     obtain⟨_,t,e⟩:=za8 jg hj
     exact⟨_,_,rfl,e⟩
    ·obtain ⟨as7,rfl,bw⟩:=zf1 l5
     obtain⟨hd7,cL,bm⟩:=zc0 bw jg
     refine k l7 as7 hd7 pS dn _ zab (by rw[bw.length_eq];rw[Qa]at dh;lia) (Paired.imp' (λa h ⟨t,e⟩=>⟨t,by rw[zad (zaa e mv)];exact e⟩) bm) cL fZ.symm au ?_
     refine(λc u ec _=>?_)
     have nD:c≠D:=λz=>by
      by_cases zd:c=d
      ·exact ndD (zd▸z)
      ·have h2:=k2 c u (k1 c u ec (by simp)) (by simpa using zd)
       rw[z,hD]at h2;cases h2
     have nG:c≠g:=λz=>by
      have h1:=k3 c u (k1 c u ec (by simp)) (by simp)
      rw[z,hg]at h1;cases h1
     have:=k6 c u (jC c u ec (by simp)) (by simp[nD,nG])
     rw[zad (zaa this mv)];exact this
end
abbrev sPiece:Stmt:=top 4
abbrev zfx:Stmt:=top 5
def marks(ks:Nd):List (Key×V):=ks.map λz=>((Sum.inr z:Key),V.bl true)
def zhm(h:x∉ks):valV (marks ks) (Sum.inr x)=none:=by
 unfold marks
 induction ks with
 |nil=>rfl
 |cons a t ih =>
  rw[Qd,not_or]at h
  rw[Qm,zbm]
  ·exact ih h.2
  ·intro q;exact h.1 (Wr q).symm
def valM_in(h:x∈ks):valV (marks ks) (Sum.inr x)=some (.bl true):=by
 unfold marks
 induction ks with
 |nil=>cases h
 | cons a t ih =>
  rw[Qm]
  by_cases e:a=x
  ·exact zcl (by rw[e])
  ·rw [zbm (fun q=>e (Wr q))]
   rcases Qd.mp h with z | z
   ·exact absurd z.symm e
   ·exact ih z
def putM_new(h:x∉ks):putK (marks ks) (Sum.inr x) (.bl true)=marks (ks++[x]):=by
 rw[zd7 _ (zhm h)];unfold marks;rw[List.map_append];rfl
def putM_old(h:x∈ks):putK (marks ks) (Sum.inr x) (.bl true)=marks ks:=by
 unfold putK marks
 rw[if_pos]
 ·rw [Zq]
  refine Yz λz _=>?_
  show(if(Sum.inr z:Key)=Sum.inr x then((Sum.inr z:Key),V.bl true) else(Sum.inr z,V.bl true))=_
  split<;>rfl
 ·exact Ym.mpr ⟨_,Qk.mpr ⟨x,h,rfl⟩,by simp⟩
def mkeys(ks:Nd):((marks ks).map λp=>kV p.1)=ks.map V.str:=by unfold marks;rw[List.map_map];rfl
inductive IspPiece(vs:List V)(H:Hp)(Q:VK):Prop
 |mk (d:Nc) (es:List Ent) (cs:List (List (Str×Str))) (lab:Nu) (x:Str) (h0:vs=[.ref d,.str x]) (h1:TAt H d es) (h2:es.length≤60) (h3:Cert (es.map (·.1)) (row (rsOf es)) cs lab) (h4:x∈es.map (·.1)) (h5:∀(l:Nc) (zs:Nd) (H':Hp),H' l=some (.lst (zs.map V.str))→zs.Nodup→zs.Pairwise leS→(∀y,y∈zs↔y∈es.map (·.1)∧lab y=lab x)→H l=none→Keep [] H H'→Q (.ref l) H'):IspPiece vs H Q
def spPiece:Sp:=λvs H Q _=>IspPiece vs H Q
section
variable{P:Nj}{w:Nl}{K:Na}{mg:Ng}{base:Nm}
def zfw:zaq ["rounds", "start", "reached", "waiting", "place", "other"] ["rounds", "start"] (zag sPiece):=⟨rfl,rfl,rfl,by decide +kernel,rfl,by decide +kernel,by decide +kernel⟩
def ok_piece(F:Fun K "piece_from" "piece_from" sPiece f fd)(ay:mg "sorted" = none):FnOk P w K mg base CX0 1 f fd ["rounds", "start"] spPiece:=by
 refine F.ok zfw (λvs H Q E h=>?_) (λcdv A outer s H vs Q E hr h=>?_)
 ·obtain ⟨d,es,cs,lab,x,rfl,_⟩:=h
  rfl
 ·obtain ⟨d,es,cs,lab,x,rfl,T,aN,C,hx,k⟩:=h
  have hu:=zb9 hr
  have aG:sizeLine=16777216:=sizeLine_eq
  refine⟨_,zae (zam (i:=2) zfw.nd rfl (Or.inl rfl) (pe_disp (pps_cons (pv 1) pe_bl pps_nil) rfl rfl (by decide) (by decide)))
   (zae (zam (i:=3) zfw.nd rfl (Or.inl rfl) (zbh (zac (pv 1) zaf)))
   (zae (zdl Zh (zd8 (pv 3) (by intro _;rfl))
    (zae (zam (i:=4) zfw.nd rfl (Or.inl rfl) (zg6 Zm PySem.F.slot_list_pop PySem.F.type_list_pop mt_pop (pv 3)))
    (zah (zbc Zh rfl (pi_tup (zat hu (pv 0) (pv 4) (fun _ _=>rfl))) (zaj (i:=5) zfw.nd rfl (Or.inl rfl))
     (zah (zb5 (zdq (zbz hu (pv 5) (pv 2)))
      (zae (zce hu (pv 2) (pv 5) pe_bl rfl)
      (zah (za6 (zd9 Zm Yo Yn zb0 (pv 3) (zac (pv 5) zaf))))) za0))))))
   (zah (zbe (zai (zbs rfl) (by rfl) ay Yd (zac (pv 2) zaf)))))),?_⟩
  have af:∀e∈es,row (rsOf es) e.1=e.2.1:=λe he=>zbb T.nd he
  refine λre c8=>⟨_,rfl,zab,[(Sum.inr x,.bl true)],rfl,(by show 1≤15;decide),?_⟩
  have jL:(zge [] [((Sum.inr x:Key),V.bl true)])=marks [x]:=rfl
  rw[jL]
  have kre:Keep [] H (upd (upd H re (.dK [])) re (.dK (marks [x]))):=by rw[upd_upd];exact Keep.new c8
  have eU:(upd (upd H re (.dK [])) re (.dK (marks [x]))) re=some (.dK (marks [x])):=zab
  generalize upd (upd H re (.dK [])) re (.dK (marks [x]))=H1 at kre eU
  refine⟨_,rfl,(by show 1≤sizeLine;decide),λwa kK=>?_⟩
  have k2:Keep [] H (upd H1 wa (.lst [.str x])):=kre.trans (Keep.new kK)
  have kH:H wa=none:=zbi (xs:=[]) kre kK (by simp)
  have nX:(upd H1 wa (.lst [.str x])) wa=some (.lst ([x].map V.str)):=zab
  have qB:re≠wa:=zaa eU kK
  have gw:(upd H1 wa (.lst [.str x])) re=some (.dK (marks [x])):=by rw[zad qB];exact eU
  generalize upd H1 wa (.lst [.str x])=H2 at k2 nX gw
  have T2:TAt H2 d es:=T.keep k2 (by simp) (λ_ _=>by simp)
  have iU:d≠re:=zaa T.dc c8
  have ndw:d≠wa:=zaa T.dc kH
  have rowne:∀e∈es,e.2.2≠re∧e.2.2≠wa:=λe he=>⟨zaa (T.ro e he) c8,zaa (T.ro e he) kH⟩
  refine⟨λm σ H'=>Aj3 (Ex2 λx4 x5=>σ=[some (.ref d),some (.str x),some (.ref re),some (.ref wa),x4,x5]) (Keep [re,wa] H2 H') (Ex2 λ(ks wl:Nd)=>Aj9 (H' re=some (.dK (marks ks))) (H' wa=some (.lst (wl.map V.str))) ks.Nodup wl.Nodup (∀z∈wl,z∈ks) (∀z∈ks,z∈es.map (·.1)∧lab z=lab x) (x∈ks) (∀z∈ks,z∉wl→∀y∈row (rsOf es) z,y∈ks) (m=es.length+wl.length-ks.length)),
   ⟨_,⟨none,none,rfl⟩,Keep.refl,[x],[x],gw,nX,Qv.mpr ⟨by simp,Zk⟩,Qv.mpr ⟨by simp,Zk⟩,λz h=>h,λz h=>(by rw[Qb.mp h];exact⟨hx,rfl⟩),Qc,λz h h'=>absurd h h',rfl⟩,?_⟩
  rintro m σ H3 ⟨⟨x4,x5,rfl⟩,k3,ks,wl,cY,kJ,bx,jG,me,c9,iC,iK,rfl⟩
  have hkle:ks.length≤es.length:=by
   have:=zba bx (m:=es.map (·.1)) λz hz=>(c9 z hz).1
   rwa[Qa]at this
  have nU:wl.length≤ks.length:=zba jG me
  refine⟨_,rfl,_,.inl ⟨_,SqL.of kJ,rfl⟩,?_⟩
  rcases Jw wl with cR | ⟨ini,z,cR⟩
  ·-- all are reached
   subst cR
   refine za5 rfl ?_
   refine⟨_,rfl,re,_,ks,rfl,.inl cY,mkeys ks,λl zs hl ae ao=>?_⟩
   have kf:Keep [] H H3:=λc u ec _=>k3 c u (k2 c u ec (by simp)) (by simp[zaa ec c8,zaa ec kH])
   refine k l zs _ zab (ae.nodup_iff.mpr bx) (ao (by omega)) (λy=>?_) (zbi kf hl (by simp)) (kf.trans (Keep.new hl))
   rw[ae.mem_iff]
   constructor
   ·exact c9 y
   ·rintro ⟨h1,h2⟩
    have hc:Conn (row (rsOf es)) x y:=C.co x hx y h1 h2.symm
    clear h1 h2
    induction hc with
    |refl=>exact iC
    |step _ hz ih=>exact iK _ ih (by simp) _ hz
  ·rw [Jx] at cR
   subst cR
   refine zb6 (by rw[Qs];cases ini<;>rfl) ?_
   refine⟨_,λ σ' H' zz=>zz,?_⟩
   have dz:z∈ks:=me z (Qi _ Qc)
   obtain⟨en,az,fM⟩:=Qk.mp (c9 z dz).1
   have gh:en.1=z:=fM
   rw[Qy]at jG
   obtain⟨ai,_,uW⟩:=jG
   have ma:z∉ini:=λq=>uW z q z Qc rfl
   have d8:((ini++[z]).map V.str)[((ini++[z]).map V.str).length-1]?=some (.str z):=by
    rw[Qs,Qo,Ux (by simp)]
    simp
   have jT:((ini++[z]).map V.str).dropLast=ini.map V.str:=by rw[Qs];exact List.dropLast_concat
   refine⟨_,rfl,.inl ⟨rfl,_,SqL.of kJ⟩,wa,_,_,rfl,rfl,kJ,d8,?_⟩
   rw[jT]
   have k4:Keep [re,wa] H2 (upd H3 wa (.lst (ini.map V.str))):=k3.trans (Keep.wr (by simp))
   have nV:(upd H3 wa (.lst (ini.map V.str))) wa=some (.lst (ini.map V.str)):=zab
   have gv:(upd H3 wa (.lst (ini.map V.str))) re=some (.dK (marks ks)):=by rw[zad qB];exact cY
   generalize upd H3 wa (.lst (ini.map V.str))=H4 at k4 nV gv
   have T4:TAt H4 d es:=T2.keep k4 (by simp[iU,ndw]) λe he=>by simp[(rowne e he).1,(rowne e he).2]
   have dg:DGet H4 d (.str z) (some (.ref en.2.2)):=by
    have:=DGet.k (k:=Sum.inr en.1) T4.dc
    rw[zbv T4.nd az,gh]at this
    exact this
   have og:row (rsOf es) z=en.2.1:=by rw[←gh];exact af en az
   refine⟨_,rfl,_,rfl,d,_,rfl,dg,en.2.2,rfl,⟨_,SqT.of (T4.ro en az)⟩,for_tup (xs:=en.2.1.map V.str) (λj σ H'=>Aj3 (Ex1 λx5=>σ=[some (.ref d),some (.str x),some (.ref re),some (.ref wa),some (.str z),x5]) (Keep [re,wa] H2 H') (Ex1 λ(nw:Nd)=>Aj5 (H' re=some (.dK (marks (ks++nw)))) (H' wa=some (.lst ((ini++nw).map V.str))) ((ks++nw).Nodup) (∀y∈nw,y∈es.map (·.1)∧lab y=lab x) (∀y∈en.2.1.take j,y∈ks++nw)))
    ⟨⟨_,rfl⟩,k4,[],by rw[Zv];exact gv,by rw[Zv];exact nV,by rw[Zv];exact bx,λy hy=>(by cases hy),λy hy=>(by cases hy)⟩
    (λj σ H' _ hh=>SqT.of (hh.2 _ _ (T2.ro en az) (by simp[(rowne en az).1,(rowne en az).2]))) ?_ ?_⟩
   ·rintro j y σ H5 hy ⟨⟨y5,rfl⟩,k5,nw,cx,iX,dH,fh,gm⟩
    have hj:j<en.2.1.length:=by
     have:=(Zb.mp hy).1
     rwa[Qa]at this
    have iz:y=.str en.2.1[j]:=by
     rw[Qz,Qg hj]at hy
     exact(Qp hy).symm
    subst iz
    have hyr:en.2.1[j]∈row (rsOf es) z:=by rw[og];exact Qq hj
    have aP:en.2.1.take (j+1)=en.2.1.take j++[en.2.1[j]]:=Qn hj
    have hsz:(ks++nw).length≤es.length:=by
     have:=zba dH (m:=es.map (·.1)) λq hq=>by
      rcases Qe.mp hq with h | h
      ·exact(c9 q h).1
      ·exact(fh q h).1
     rwa[Qa]at this
    have lQ:=DGet.k (k:=Sum.inr en.2.1[j]) cx
    by_cases ai:en.2.1[j]∈ks++nw
    ·rw [valM_in ai] at lQ
     refine⟨_,rfl,_,rfl,re,_,rfl,lQ,_,rfl,za5 rfl ?_⟩
     refine⟨⟨_,rfl⟩,k5,nw,cx,iX,dH,fh,λq hq=>?_⟩
     rw[aP]at hq
     rcases Qe.mp hq with h | h
     ·exact gm q h
     ·rw[Qb.mp h];exact ai
    ·rw [zhm ai] at lQ
     refine⟨_,rfl,_,rfl,re,_,rfl,lQ,_,rfl,zb6 rfl ?_⟩
     refine⟨_,rfl,_,rfl,re,_,rfl,DPut.k (k:=Sum.inr en.2.1[j]) cx (by unfold marks;rw[List.length_map];lia),?_⟩
     rw[putM_new ai]
     have kI:(upd H5 re (.dK (marks (ks++nw++[en.2.1[j]])))) wa=some (.lst ((ini++nw).map V.str)):=by rw[zad (Zc qB)];exact iX
     have eT:(upd H5 re (.dK (marks (ks++nw++[en.2.1[j]])))) re=some (.dK (marks (ks++nw++[en.2.1[j]]))):=zab
     have k6:Keep [re,wa] H2 (upd H5 re (.dK (marks (ks++nw++[en.2.1[j]])))):=k5.trans (Keep.wr (by simp))
     generalize upd H5 re (.dK (marks (ks++nw++[en.2.1[j]])))=H6 at kI eT k6
     rw[Qo]at hsz
     rw[Qo,Qx,Wu]at nU
     refine⟨_,rfl,.inl ⟨rfl,_,SqL.of kI⟩,_,rfl,wa,_,_,rfl,rfl,kI,(by rw[Qa,Qo];lia),?_⟩
     refine⟨⟨_,rfl⟩,k6.trans (Keep.wr (by simp)),nw++[en.2.1[j]],by rw[zad qB,←Qt];exact eT,by rw[zab,←Qt,Qs (l₂:=[en.2.1[j]])];rfl,?_,λq hq=>?_,λq hq=>?_⟩
     ·rw [← Qt,Qy]
      refine⟨dH,Qv.mpr ⟨by simp,Zk⟩,λa ha b hb e=>?_⟩
      rw[Qb.mp hb]at e
      exact ai (e▸ha)
     ·rcases Qe.mp hq with h | h
      ·exact fh q h
      ·rw [Qb.mp h]
       exact⟨C.inn' hyr,(C.la z _ hyr).trans (c9 z dz).2⟩
     ·rw [aP] at hq
      rw[←Qt]
      rcases Qe.mp hq with h | h
      ·exact Ql _ (gm q h)
      ·exact Qi _ h
   ·rintro σ H5 ⟨⟨y5,rfl⟩,k5,nw,cx,iX,dH,fh,gm⟩
    rw[Qa,Qr (Qf _)]at gm
    have hsz:(ks++nw).length≤es.length:=by
     have:=zba dH (m:=es.map (·.1)) λq hq=>by
      rcases Qe.mp hq with h | h
      ·exact(c9 q h).1
      ·exact(fh q h).1
     rwa[Qa]at this
    have gG:=dH
    rw[Qy]at gG
    refine⟨es.length+(ini++nw).length-(ks++nw).length,?_,⟨_,_,rfl⟩,k5,ks++nw,ini++nw,cx,iX,dH,?_,?_,?_,Ql _ iC,?_,rfl⟩
    ·rw [Qo] at hsz
     rw[Qo,Qo,Qo,Qx,Wu]
     rw[Qo,Qx,Wu]at nU
     lia
    ·rw [Qy]
     refine⟨ai,gG.2.1,λa ha b hb e=>gG.2.2 a (me a (Ql _ ha)) b hb e⟩
    ·intro q hq
     rcases Qe.mp hq with h | h
     ·exact Ql _ (me q (Ql _ h))
     ·exact Qi _ h
    ·intro q hq
     rcases Qe.mp hq with h | h
     ·exact c9 q h
     ·exact fh q h
    ·intro q hq ot y hy
     rw[Qe,not_or]at ot
     rcases Qe.mp hq with h | h
     ·by_cases hqz:q=z
      ·rw[hqz,og]at hy;exact gm y hy
      ·exact Ql _ (iK q h (by rw[Qe,not_or,Qb];exact⟨ot.1,hqz⟩) y hy)
     ·exact absurd h ot.2
end
def zgr(ns:Nd)(lab:Nu)(zs:Nd):Prop:=zs.Nodup∧∃s∈ns,∀y,y∈zs↔y∈ns∧lab y=lab s
structure InRow(ns:Nd)(zss:List (List Str)):Prop where
 so:∀zs∈zss,zs.Pairwise leS
 hd:zss.Pairwise λa b=>∀x∈a.head?,∀y∈b.head?,leS x y
 al:∀y∈ns,∃zs∈zss,y∈zs
def zfd(H:Hp)(a:Nc)(zs:Nd):Prop:=H a=some (.lst (zs.map V.str))
inductive IspPieces(vs:List V)(H:Hp)(Q:VK):Prop
 |mk (d:Nc) (es:List Ent) (cs:List (List (Str×Str))) (lab:Nu) (h0:vs=[.ref d]) (h1:TAt H d es) (h2:es.length≤60) (h3:Cert (es.map (·.1)) (row (rsOf es)) cs lab) (h4:∀(l:Nc) (as:Nk) (zss:List (List Str)) (H':Hp),H' l=some (.lst (as.map V.ref))→Paired (zfd H') as zss→(∀zs∈zss,zgr (es.map (·.1)) lab zs)→InRow (es.map (·.1)) zss→Keep [] H H'→Q (.ref l) H'):IspPieces vs H Q
def zho:Sp:=λvs H Q _=>IspPieces vs H Q
section
variable{P:Nj}{w:Nl}{K:Na}{mg:Ng}{base:Nm}
def zdk:zaq ["rounds", "found", "reached", "start", "piece", "place"] ["rounds"] (zag zfx):=⟨rfl,rfl,rfl,by decide +kernel,rfl,by decide +kernel,by decide +kernel⟩
def ok_pieces(F:Fun K "pieces_of" "pieces_of" zfx f fd)(FP:Fun K "piece_from" "piece_from" sPiece fp fdp)(bP:Binds K fdp ["rounds", "start"] [])(mP:mg "piece_from" = some (.ref fp))(GP:FnOk P w K mg base CX0 1 fp fdp ["rounds", "start"] spPiece)(ay:mg "sorted" = none):FnOk P w K mg base CX0 2 f fd ["rounds"] zho:=by
 refine F.ok zdk (λvs H Q E h=>?_) (λcdv A outer s H vs Q E hr h=>?_)
 ·obtain ⟨d,es,cs,lab,rfl,_⟩:=h
  rfl
 ·obtain ⟨d,es,cs,lab,rfl,T,aN,C,k⟩:=h
  have hu:=zb9 hr
  have aG:sizeLine=16777216:=sizeLine_eq
  refine⟨_,zae (zam (i:=1) zdk.nd rfl (Or.inl rfl) (zbh zaf))
   (zae (zam (i:=2) zdk.nd rfl (Or.inl rfl) zfl)
   (zae (zbc Zh rfl (zav (zai (zbs rfl) (by rfl) ay Yd (zac (pv 0) zaf))) (zaj (i:=3) zdk.nd rfl (Or.inl rfl))
    (zah (zb5 (zdq (zbz hu (pv 3) (pv 2)))
     (zae (zam (i:=4) zdk.nd rfl (Or.inl rfl) (zak GP hr rfl mP FP.kp bP .nil zaw (zac (pv 0) (zac (pv 3) zaf))))
     (zae (za6 (zd9 Zm Yo Yn zb0 (pv 1) (zac (pv 4) zaf)))
     (zah (zbc Zh rfl (zav (pv 4)) (zaj (i:=5) zdk.nd rfl (Or.inl rfl))
      (zah (zce hu (pv 2) (pv 5) pe_bl rfl)))))) za0)))
   (zah (zbe (pv 1))))),?_⟩
  refine⟨(by show 0≤sizeLine;decide),λfo dq re c8=>?_⟩
  have gu:H re=none:=zbi (xs:=[]) (Keep.new dq) c8 (by simp)
  have iT:fo≠re:=zaa (o:=_) zab c8
  have k1:Keep [] H (upd (upd H fo (.lst [])) re (.dK [])):=(Keep.new dq).trans (Keep.new c8)
  have cH:(upd (upd H fo (.lst [])) re (.dK [])) fo=some (.lst []):=by rw[zad iT];exact zab
  have eU:(upd (upd H fo (.lst [])) re (.dK [])) re=some (.dK []):=zab
  generalize upd (upd H fo (.lst [])) re (.dK [])=H1 at k1 cH eU
  have T1:TAt H1 d es:=T.keep k1 (by simp) (λ_ _=>by simp)
  refine⟨_,rfl,d,_,es.map (·.1),rfl,.inl T1.dc,zee es,λl ws hl ae ao=>?_⟩
  replace ao:=ao (by rw[Qa];omega)
  have k2:Keep [] H1 (upd H1 l (.lst (ws.map V.str))):=Keep.new hl
  have ah:(upd H1 l (.lst (ws.map V.str))) l=some (.lst (ws.map V.str)):=zab
  have nlf:l≠fo:=Zc (zaa cH hl)
  generalize upd H1 l (.lst (ws.map V.str))=H2 at k2 ah
  have dO:=k2 _ _ cH (by simp)
  have gw:=k2 _ _ eU (by simp)
  have nlr:l≠re:=zay ah gw (by intro z;cases z)
  have T2:TAt H2 d es:=T1.keep k2 (by simp) (λ_ _=>by simp)
  have iw:Keep [] H H2:=k1.trans k2
  have ndf:d≠fo:=zaa T.dc dq
  have iU:d≠re:=zaa T.dc gu
  have cR:ws.length=es.length:=by rw[ae.length_eq,Qa]
  refine⟨l,rfl,⟨_,SqL.of ah⟩,zco (zs:=ws) (λi σ H'=>Aj3 (Ex3 λx3 x4 x5=>σ=[some (.ref d),some (.ref fo),some (.ref re),x3,x4,x5]) (Keep [fo,re] H2 H') (Ex3 λ(as:Nk) (zss:List (List Str)) (ks:Nd)=>Aj8 (H' fo=some (.lst (as.map V.ref))) (H' re=some (.dK (marks ks))) (Paired (zfd H') as zss) (∀zs∈zss,zgr (es.map (·.1)) lab zs) (as.length≤i) ks.Nodup (∀z∈ks,z∈es.map (·.1)) (Aj7 (∀a∈as,a≠fo) (∀y∈ws.take i,y∈ks) (∀y∈ks,∃zs∈zss,y∈zs) (∀zs∈zss,∀y∈zs,y∈ks) (∀zs∈zss,∀x∈zs.head?,x∈ws.take i) (zss.Pairwise λa b=>∀x∈a.head?,∀y∈b.head?,leS x y) (∀zs∈zss,zs.Pairwise leS))))
   ⟨⟨_,_,_,rfl⟩,Keep.refl,[],[],[],dO,gw,.nil,λzs h=>(by cases h),Zi _,Zk,λz h=>(by cases h),λz h=>(by cases h),λz h=>(by cases h),λz h=>(by cases h),λz h=>(by cases h),λz h=>(by cases h),List.Pairwise.nil,λz h=>(by cases h)⟩ (λi σ H' _ hh=>SqL.of (hh.2 _ _ ah (by simp[nlf,nlr]))) ?_ ?_⟩
  ·rintro i hi σ H3 ⟨⟨x3,x4,x5,rfl⟩,k3,as,zss,ks,aL,cY,dF,e9,vc,bx,qV,jo,c1,c2,c6,c3,c4,c5⟩
   have dg:=DGet.k (k:=Sum.inr ws[i]) cY
   have T3:TAt H3 d es:=T2.keep k3 (by simp[ndf,iU]) λe he=>by
    have h1:=T.ro e he
    simp[zaa h1 dq,zaa h1 gu]
   by_cases ai:ws[i]∈ks
   ·rw [valM_in ai] at dg
    refine⟨_,rfl,_,rfl,re,_,rfl,dg,_,rfl,za5 rfl ?_⟩
    refine⟨⟨_,_,_,rfl⟩,k3,as,zss,ks,aL,cY,dF,e9,by exact zar16 ‹_›,bx,qV,jo,λy hy=>?_,c2,c6,λzs h x hx=>We (i:=i) (by rw[List.take_take,Nat.min_eq_left (Jk i)];exact c3 zs h x hx),c4,c5⟩
    rw[Qn hi]at hy
    rcases Qe.mp hy with h | h
    ·exact c1 y h
    ·rw[Qb.mp h];exact ai
   ·rw [zhm ai] at dg
    refine⟨_,rfl,_,rfl,re,_,rfl,dg,_,rfl,zb6 rfl ?_⟩
    have iW:=ae.mem_iff.mp (Qq hi)
    refine⟨_,rfl,_,rfl,d,es,cs,lab,ws[i],rfl,T3,aN,C,iW,λp zs H4 aI fM nM dy jf k4=>?_⟩
    obtain⟨jB,ua⟩:∃jB,jB=ks:=⟨_,rfl⟩
    rw[←ua]at cY bx qV ai c1 c2 c6
    have bq:=k4 _ _ aL (by simp)
    have gv:=k4 _ _ cY (by simp)
    have npf:p≠fo:=Zc (zaa aL jf)
    have npr:p≠re:=zay aI gv (by intro z;cases z)
    refine⟨_,rfl,.inl ⟨rfl,_,SqL.of bq⟩,_,rfl,fo,_,_,rfl,rfl,bq,(by rw[Qa];lia),?_⟩
    have k5:Keep [fo,re] H2 (upd H4 fo (.lst (as.map V.ref++[.ref p]))):=(k3.trans (k4.sub (by simp))).trans (Keep.wr (by simp))
    have ca:(upd H4 fo (.lst (as.map V.ref++[.ref p]))) fo=some (.lst ((as++[p]).map V.ref)):=by rw[zab,Qs];rfl
    have cx:(upd H4 fo (.lst (as.map V.ref++[.ref p]))) re=some (.dK (marks jB)):=by rw[zad (Zc iT)];exact gv
    have ax:(upd H4 fo (.lst (as.map V.ref++[.ref p]))) p=some (.lst (zs.map V.str)):=by rw[zad npf];exact aI
    have jh:Paired (zfd (upd H4 fo (.lst (as.map V.ref++[.ref p])))) (as++[p]) (zss++[zs]):=by
     refine zbg ?_ (.cons ax .nil)
     have:∀{as:Nk} {zss:List (List Str)},Paired (zfd H3) as zss→(∀a∈as,a≠fo)→Paired (zfd (upd H4 fo (.lst (as.map V.ref++[.ref p])))) as zss:=λ{as zss} r ha=>by
      have h2:∀(L:List V),Paired (zfd (upd H4 fo (.lst L))) as zss:=λL=>by
       induction r with
       |nil=>exact .nil
       |cons h t ih=>exact .cons (by unfold zfd;rw[zad (ha _ List.mem_cons_self)];exact k4 _ _ h (by simp)) (ih λa h=>ha a (List.mem_cons_of_mem _ h))
      exact h2 _
     exact this dF jo
    have pY:∀a∈as++[p],a≠fo:=λa ha=>by
     rcases Qe.mp ha with h | h
     ·exact jo a h
     ·rw[Qb.mp h];exact npf
    generalize upd H4 fo (.lst (as.map V.ref++[.ref p]))=H5 at k5 ca cx ax jh
    refine⟨_,rfl,p,rfl,⟨_,SqL.of ax⟩,zbr (xs:=zs.map V.str) (λj σ H'=>Aj3 (Ex1 λx5=>σ=[some (.ref d),some (.ref fo),some (.ref re),some (.str ws[i]),some (.ref p),x5]) (Keep [re] H5 H') (Ex1 λ(ks:Nd)=>Aj4 (H' re=some (.dK (marks ks))) ks.Nodup (∀z∈ks,z∈es.map (·.1)) (∀z,z∈ks↔z∈jB∨z∈zs.take j)))
     ⟨⟨_,rfl⟩,Keep.refl,jB,cx,bx,qV,λz=>⟨.inl,λh=>h.elim id λh=>(by cases h)⟩⟩ (λj σ H' _ hh=>SqL.of (hh.2 _ _ ax (by simpa using npr))) ?_ ?_⟩
    ·rintro j y σ H6 hy ⟨⟨y5,rfl⟩,k6,kr,eT,gQ,gT,cZ⟩
     have hj:j<zs.length:=by
      have:=(Zb.mp hy).1
      rwa[Qa]at this
     obtain⟨z,hz,rfl,ez⟩:∃z,z∈zs∧y=V.str z∧z=zs[j]:=by
      rw[Qz,Qg hj]at hy
      exact⟨zs[j],Qq hj,(Qp hy).symm,rfl⟩
     have step:∀q,(q∈kr∨q=z)↔q∈jB∨q∈zs.take (j+1):=λq=>by
      rw[cZ,Qn hj,Qe,Qb,ez,or_assoc]
     have hsz:kr.length≤es.length:=by
      have:=zba gQ gT
      rwa[Qa]at this
     refine⟨_,rfl,_,rfl,re,_,rfl,DPut.k (k:=Sum.inr z) eT (by unfold marks;rw[List.length_map];lia),⟨_,rfl⟩,k6.trans (Keep.wr (by simp)),?_⟩
     by_cases dz:z∈kr
     ·exact⟨kr,by rw[zab,putM_old dz],gQ,gT,λq=>by rw[←step q];exact⟨.inl,λh=>h.elim id λe=>e▸dz⟩⟩
     ·refine ⟨kr++[z],by rw [zab,putM_new dz],?_,fun q hq=>?_,fun q=>by rw [← step q,Qe,Qb]⟩
      ·rw [Qy]
       refine⟨gQ,Qv.mpr ⟨by simp,Zk⟩,λa ha b hb e=>?_⟩
       rw[Qb.mp hb]at e
       exact dz (e▸ha)
      ·rcases Qe.mp hq with h | h
       ·exact gT q h
       ·rw[Qb.mp h];exact((dy z).mp hz).1
    ·rintro σ H6 ⟨⟨y5,rfl⟩,k6,kr,eT,gQ,gT,cZ⟩
     rw[Qa,Qr (Qf _)]at cZ
     have nQ:ws[i]∈zs:=(dy _).mpr ⟨iW,rfl⟩
     have jN:zs.head?=some ws[i]:=by
      cases qD:zs with
      |nil=>rw[qD]at nQ;cases nQ
      | cons m t =>
       have hmz:m∈zs:=by rw[qD];exact Qc
       obtain⟨hmn,hml⟩:=(dy m).mp hmz
       obtain⟨j,hj,ej⟩:=Zo (ae.mem_iff.mpr hmn)
       have h1:leS m ws[i]:=by
        rw[qD]at nQ nM
        rcases Qd.mp nQ with q | q
        ·rw[q];exact λz=>Ya _ z
        ·exact(Uc.mp nM).1 _ q
       have cN:i≤j:=Xe λaa=>by
        have jL:m∈jB:=c1 m (by rw[←ej,←Ws (j:=i) (h:=by rw[Zn];omega)];exact Qq _)
        obtain⟨kj,dW,tW⟩:=c2 m jL
        obtain⟨_,s,_,hs⟩:=e9 kj dW
        exact ai (c6 kj dW _ ((hs _).mpr ⟨iW,hml.symm.trans ((hs m).mp tW).2⟩))
       have h2:leS ws[i] m:=by
        rcases Nat.lt_or_eq_of_le cN with q | q
        ·rw[←ej];exact Wf.mp ao i j hi hj q
        ·subst q;rw[ej];exact λz=>Ya _ z
       rw[zfm _ _ h1 h2];rfl
     have tk:ws.take (i+1)=ws.take i++[ws[i]]:=Qn hi
     refine⟨⟨_,_,_,rfl⟩,k5.trans (k6.sub (by simp)),as++[p],zss++[zs],kr,k6 _ _ ca (by simpa using iT),eT,Paired.imp' (λa zs h=>k6 _ _ h (by simpa using zay h cx (by intro z;cases z))) jh,λq hq=>?_,by rw[Qo];show _+1≤_;exact zar4 ‹_›,gQ,gT,pY,λy hy=>?_,λy hy=>?_,λq hq y hy=>?_,λq hq x hx=>?_,?_,λq hq=>?_⟩
     ·rcases Qe.mp hq with h | h
      ·exact e9 q h
      ·rw[Qb.mp h];exact⟨fM,ws[i],iW,dy⟩
     ·rw [tk] at hy
      rcases Qe.mp hy with h | h
      ·exact(cZ y).mpr (.inl (c1 y h))
      ·rw[Qb.mp h];exact(cZ _).mpr (.inr nQ)
     ·rcases (cZ y).mp hy with h | h
      ·obtain ⟨z,hz,iz⟩:=c2 y h
       exact⟨z,Ql _ hz,iz⟩
      ·exact⟨zs,Qi _ Qc,h⟩
     ·rcases Qe.mp hq with h | h
      ·exact(cZ y).mpr (.inl (c6 q h y hy))
      ·rw[Qb.mp h]at hy;exact(cZ y).mpr (.inr hy)
     ·rw [tk]
      rcases Qe.mp hq with h | h
      ·exact Ql _ (c3 q h x hx)
      ·rw [Qb.mp h,jN] at hx
       rw[←Qp hx];exact Qi _ Qc
     ·rw [List.pairwise_append]
      refine⟨c4,Yj _ _,λa ha b hb x hx y hy=>?_⟩
      rw[Qb.mp hb,jN]at hy
      rw[←Qp hy]
      obtain⟨j,hj,ej⟩:=Zo (c3 a ha x hx)
      rw[Zn]at hj
      rw[←ej,Ws]
      exact Wf.mp ao j i (by omega) hi (by omega)
     ·rcases Qe.mp hq with h | h
      ·exact c5 q h
      ·rw[Qb.mp h];exact nM
  ·rintro σ H3 ⟨⟨x3,x4,x5,rfl⟩,k3,as,zss,ks,aL,cY,dF,e9,vc,bx,qV,jo,c1,c2,c6,c3,c4,c5⟩
   rw[Qa,Qr (Qf _)]at c1
   refine⟨_,rfl,k fo as zss H3 aL dF e9 ⟨c5,c4,λy hy=>c2 y (c1 y (ae.mem_iff.mpr hy))⟩ λc u ec _=>k3 c u (iw c u ec (by simp)) (by simp[zaa ec dq,zaa ec gu])⟩
end
end K21
end
section
namespace L2
open PySem
def lc_filt(T:St→Prop)(q:V→Bool)(ha:SqL K H a xs)(hn:xs.length≤sizeLine)(h0:T τ)(hs:∀x∈xs,∀τ,T τ→∀(k1:V→St→Hp→Prop) (k0:St→Hp→Prop),(q x=true→∀τ2,T τ2→k1 x τ2 H)→(q x=false→∀τ2,T τ2→k0 τ2 H)→g x τ H λ τ2 H2=>tc τ2 H2 λb H3=>if b=true then te τ2 H3 λy H4=>k1 y τ2 H4 else k0 τ2 H3)(hq:∀D,H D=none→Q (.ref D) (upd H D (.lst (xs.filter q)))):rLC g tc te Q (Itl K a) τ H:=by
 refine⟨λi m ys τ H1=>Aj5 (H1=H) (T τ) (m=xs.length-i) (i≤xs.length) (ys=(xs.take i).filter q),⟨_,rfl,h0,rfl,Zi _,rfl⟩,?_⟩
 rintro i m ys τ H1 ⟨rfl,ht,rfl,hi,rfl⟩
 by_cases aa:i<xs.length
 ·have my:((xs.take i).filter q).length≤i:=Zd (Ur _ _) (by rw [Zn];lia)
  refine .inr ⟨⟨xs,xs[i],ha,Qg aa⟩,by lia,?_⟩
  rintro x H' ⟨rfl,hx⟩
  have eO:=hx xs ha
  rw[Qg aa]at eO
  have qF:xs[i]=x:=Qp eO
  have aP:xs.take (i+1)=xs.take i++[x]:=by rw[Qn aa,qF]
  refine hs x (qF▸Qq aa) τ ht (λy τ2 H4=>∃m',m'<xs.length-i∧Aj5 (H4=H') (T τ2) (m'=xs.length-(i+1)) (i+1≤xs.length) ((xs.take i).filter q++[y]=(xs.take (i+1)).filter q))
   (λ τ2 H4=>∃m',m'<xs.length-i∧Aj5 (H4=H') (T τ2) (m'=xs.length-(i+1)) (i+1≤xs.length) ((xs.take i).filter q=(xs.take (i+1)).filter q)) (λjJ τ2 h2=>?_) λjJ τ2 h2=>?_
  ·exact⟨_,by exact zar1 ‹_›,rfl,h2,rfl,aa,by rw[aP,Yq,Zt jJ,Uh]⟩
  ·exact⟨_,by exact zar1 ‹_›,rfl,h2,rfl,aa,by rw[aP,Yq,Zu (by rw[jJ];decide),Uh,Zv]⟩
 ·have e:i=xs.length:=by exact zar3 ‹_› ‹_›
  subst e
  refine .inl ⟨⟨xs,ha,Qf _⟩,λD hD=>?_⟩
  rw[Qr (Qf _)]
  exact hq D hD
end L2
namespace K21
open PySem L2 Wb
def sum_filter{α:Type}{p:α→Bool}{f:α→Int}:∀l:List α,(l.map λx=>if p x=true then f x else 0).sum=((l.filter p).map f).sum:=by
 intro l
 induction l with
 |nil=>rfl
 |cons a t ih =>
  rw[Qm,Zf,ih]
  by_cases h:p a=true
  ·rw[if_pos h,Zt h,Qm,Zf]
  ·rw[if_neg h,Zu h];lia
def sum_parts{α:Type}{f:α→List Str}:∀l:List α,(l.map λx=>(2:Int)+(if f x=[] then 2 else 0)-((f x).length:Int)).sum=2*(l.length:Int)+2*((l.filter λx=>(f x).isEmpty).length:Int)-(((l.map λx=>(f x).length).sum:Nat):Int):=by
 intro l
 induction l with
 |nil=>rfl
 |cons a t ih =>
  rw[Qm,Zf,ih,Qm,Zf,Qx]
  by_cases h:f a=[]
  ·rw[Zt (by rw[h];rfl),Qx,if_pos h];lia
  ·rw[Zu (by rw[List.isEmpty_iff];exact h),if_neg h];lia
def sum_twos{α:Type}{p:α→Bool}:∀l:List α,(l.map λx=>if p x=true then(2:Int) else 0).sum=2*((l.filter p).length:Int):=by
 intro l
 induction l with
 |nil=>rfl
 |cons a t ih =>
  rw[Qm,Zf,ih]
  by_cases h:p a=true
  ·rw[if_pos h,Zt h,Qx];lia
  ·rw[if_neg h,Zu h];lia
def iso_eq{es:List Ent}(nd:(es.map (·.1)).Nodup):zex es=(es.map (·.1)).filter λx=>(row (rsOf es) x).isEmpty:=by
 unfold zex
 rw[List.filter_map]
 congr 1
 exact Uv λe he=>by
  show e.2.1.isEmpty=(row (rsOf es) e.1).isEmpty
  rw[zbb nd he]
def piece_count{es:List Ent}{cs cs':List (List (Str×Str))}{lab:Nu}(C:Cert (es.map (·.1)) (row (rsOf es)) cs lab){zs hd hc:Nd}(hz:zgr (es.map (·.1)) lab zs)(hh:hd.Perm (zex es++hc))(iJ:cs'.Perm cs)(hp:Paired (fun h c=>∃ s∈c,s.1=h) hc cs') :
  2*zs.length+2*(hd.filter λh=>decide (h∈zs)).length=(zs.map λx=>(row (rsOf es) x).length).sum+4:=by
 obtain⟨fM,s,hs,dy⟩:=hz
 have heu:=C.eu s hs
 have p1:((es.map (·.1)).filter λx=>decide (lab x=lab s)).Perm zs:=(Uw (Wh Kk C.nd) fM).mpr λy=>by
  rw[Zj,decide_eq_true_iff,dy]
 have e1:wt (es.map (·.1)) (row (rsOf es)) lab (lab s)=2*(zs.length:Int)+2*((zs.filter λx=>(row (rsOf es) x).isEmpty).length:Int)-(((zs.map λx=>(row (rsOf es) x).length).sum:Nat):Int):=by
  unfold wt
  have:=sum_filter (p:=λx=>decide (lab x=lab s)) (f:=λx=>(2:Int)+(if row (rsOf es) x=[] then 2 else 0)-((row (rsOf es) x).length:Int)) (es.map (·.1))
  simp only[decide_eq_true_eq]at this
  rw[this,zh1 (p1.map _),sum_parts]
 have e2:ct cs lab (lab s)=2*((cs.filter λc=>c.any λu=>decide (lab u.1=lab s)).length:Int):=sum_twos _
 have e3:(hd.filter λh=>decide (h∈zs)).length=((zex es).filter λh=>decide (h∈zs)).length+(hc.filter λh=>decide (h∈zs)).length:=by
  rw[(hh.filter _).length_eq,Yq,Qo]
 have e4:((zex es).filter λh=>decide (h∈zs)).length=(zs.filter λx=>(row (rsOf es) x).isEmpty).length:=by
  refine List.Perm.length_eq ((Uw ?_ (Wh Kk fM)).mpr λy=>?_)
  ·rw [iso_eq C.nd]
   exact Wh Kk (Wh Kk C.nd)
  ·rw [iso_eq C.nd,Zj,Zj,Zj,decide_eq_true_iff]
   exact⟨λ⟨⟨_,a⟩,b⟩=>⟨b,a⟩,λ⟨a,b⟩=>⟨⟨((dy y).mp a).1,b⟩,a⟩⟩
 have e5:(hc.filter λh=>decide (h∈zs)).length=(cs'.filter λc=>c.any λu=>decide (lab u.1=lab s)).length:=by
  have ai:∀c∈cs',c∈cs:=λc h=>iJ.mem_iff.mp h
  clear iJ e3 e4 hh
  induction hp with
  |nil=>rfl
  | cons h t ih =>
   rename_i h0 c0 _ _
   have iht:=ih λc hc=>ai c (Qh _ hc)
   obtain⟨u,hu,rfl⟩:=h
   have mK:=ai c0 Qc
   have hun:u.1∈es.map (·.1):=C.inn' (C.inc mK hu)
   by_cases hz:u.1∈zs
   ·have hl:=((dy _).mp hz).2
    have dj:(c0.any λu=>decide (lab u.1=lab s))=true:=Ym.mpr ⟨u,hu,decide_eq_true hl⟩
    rw[Zt (by simpa using hz),Zt (p:=λc:List (Str×Str)=>c.any λu=>decide (lab u.1=lab s)) dj,Qx,Qx,iht]
   ·rw [Zu (by simpa using hz),Zu,iht]
    intro q
    obtain⟨v,hv,e⟩:=Ym.mp q
    exact hz ((dy _).mpr ⟨hun,(C.one_lab mK hv hu).trans (of_decide_eq_true e)⟩)
 have e6:=(iJ.filter λc=>c.any λu=>decide (lab u.1=lab s)).length_eq
 lia
def ix_listK(hK:X.K=K):IxR X (rIxL K):=hK▸zbu
def zeu(hK:X.K=K):OpR X (compareOp .In) (rIn K false):=hK▸op_in_seq
def zis(hK:X.K=K):zb4 X (.builtin "len") (λxs H Q=>Ex2 λp ys=>Aj3 (xs=[.ref p]) (SqL K H p ys∨SqT K H p ys) (Q (.int ys.length) H)):=hK▸zan
abbrev zgt:Stmt:=top 26
inductive IspFlat(vs:List V)(H:Hp)(Q:VK):Prop
 |mk (d:Nc) (es:List Ent) (cs:List (List (Str×Str))) (lab:Nu) (h0:vs=[.ref d]) (h1:TAt H d es) (h2:es.length≤60) (h3:(∀e∈es,e.2.1.length≤100)) (h4:Cert (es.map (·.1)) (row (rsOf es)) cs lab) (h5:∀H',Keep [] H H'→Q .non H'):IspFlat vs H Q
def spFlat:Sp:=λvs H Q _=>IspFlat vs H Q
abbrev csFlA:Scope:=scOf (aOf 0 (aOf 0 (eOf (bAt (sAt zgt 1) 1))))
abbrev csFlB:Scope:=scOf (aOf 0 (eOf (bAt (sAt zgt 1) 2)))
def csFlA_k:csFlA.kind=.function:=by rfl
def csFlA_c:∀y∈csFlA.names,y.2≠.cell:=by decide +kernel
def csFlA_n:∀y∈csFlA.names,y.2=.local→csFlA.names.lookup y.1=some .local:=by decide +kernel
def csFlA_f:∀y∈csFlA.names,y.2=.free→(zag zgt).names.lookup y.1=some .cell∨(zag zgt).names.lookup y.1=some .free:=by decide +kernel
def csFlA_l:csFlA.names.lookup ("rounds" : Str)=some NameKind.free:=by decide +kernel
def csFlB_k:csFlB.kind=.function:=by rfl
def csFlB_c:∀y∈csFlB.names,y.2≠.cell:=by decide +kernel
def csFlB_n:∀y∈csFlB.names,y.2=.local→csFlB.names.lookup y.1=some .local:=by decide +kernel
def csFlB_f:∀y∈csFlB.names,y.2=.free→(zag zgt).names.lookup y.1=some .cell∨(zag zgt).names.lookup y.1=some .free:=by decide +kernel
def csFlB_l:csFlB.names.lookup ("piece" : Str)=some NameKind.free:=by decide +kernel
def ndFB:(["face", "piece"]:List Str).Nodup:=by decide +kernel
def inPc(H:Hp)(zs:Nd):V→Bool
 |.ref a=>match H a with
  |some (.lst (.str h::_))=>decide (h∈zs)
  |_=>false
 |_=>false
def inPc_ref(e:zc5 H a h):inPc H zs (.ref a)=decide (h∈zs):=by
 obtain⟨t,e⟩:=e
 show(match H a with | some (.lst (.str h::_))=>decide (h∈zs) | _=>false)=_
 rw[e];rfl
def filt_len(r:Paired (zc5 H) as hd):((as.map V.ref).filter (inPc H zs)).length=(hd.filter λh=>decide (h∈zs)).length:=by
 induction r with
 |nil=>rfl
 |cons h t ih =>
  rename_i a b _ _
  rw[Qm]
  have e:=inPc_ref (zs:=zs) h
  by_cases hz:b∈zs
  ·rw[Zt (by rw[e];simpa using hz),Zt (by simpa using hz),Qx,Qx,ih]
  ·rw[Zu (by rw[e];simpa using hz),Zu (by simpa using hz),ih]
def sum_cast(ns:List Nat):(ns.map λn:Nat=>(n:Int)).sum=((ns.sum:Nat):Int):=by
 induction ns with
 |nil=>rfl
 |cons a t ih=>rw[Qm,Zf,Zf,ih];lia
section
variable{P:Nj}{w:Nl}{K:Na}{mg:Ng}{base:Nm}
def zg0:zaq ["rounds", "found", "piece", "many_places", "many_ties", "many_faces"] ["rounds"] (zag zgt):=⟨rfl,rfl,rfl,by decide +kernel,rfl,by decide +kernel,by decide +kernel⟩
def ok_flat(F:Fun K "refuse_not_flat" "refuse_not_flat" zgt f fd)(FF:Fun K "faces_of" "faces_of" ze6 ff fdf)(bF:Binds K fdf ["rounds"] [])(mF:mg "faces_of" = some (.ref ff))(GF:FnOk P w K mg base CX0 2 ff fdf ["rounds"] spFaces)(FP:Fun K "pieces_of" "pieces_of" zfx fp fdp)(bP:Binds K fdp ["rounds"] [])(mP:mg "pieces_of" = some (.ref fp))(GP:FnOk P w K mg base CX0 2 fp fdp ["rounds"] zho)(a9:mg "len" = none)(sV:mg "sum" = none):FnOk P w K mg base CX0 3 f fd ["rounds"] spFlat:=by
 refine F.ok zg0 (λvs H Q E h=>?_) (λcdv A outer s H vs Q E hr h=>?_)
 ·obtain ⟨d,es,cs,lab,rfl,_⟩:=h
  rfl
 ·obtain ⟨d,es,cs,lab,rfl,T,aN,aR,C,k⟩:=h
  have hu:=zb9 hr
  have aG:sizeLine=16777216:=sizeLine_eq
  refine⟨_,zae (zam (i:=1) zg0.nd rfl (Or.inl rfl) (zak GF hr rfl mF FF.kp bF .nil zaw (zac (pv 0) zaf)))
   (zah (zbc Zh rfl (zav (zak GP hr rfl mP FP.kp bP .nil zaw (zac (pv 0) zaf))) (zaj (i:=2) zg0.nd rfl (Or.inr rfl))
    (zae (zam (i:=3) zg0.nd rfl (Or.inl rfl) (zai zan (by rfl) a9 Zx (zac (pv 2) zaf)))
    (zae (zam (i:=4) zg0.nd rfl (Or.inl rfl) (zbd op_fdiv (zai (call_sum rfl) (by rfl) sV PyProof.Rows.boot_sum (zac (zf3 (M:=["place", "rounds"]) (ix:=[none,some 0]) ⟨csFlA_k,csFlA_c,csFlA_n,csFlA_f,rfl,by decide +kernel,λj i x h1 h2=>by
       match j,h1,h2 with
       |0,_,h2=>cases h2
       |1,h1,h2=>cases h1;cases h2;exact⟨rfl,csFlA_l⟩
       |n+2,h1,_=>cases h1⟩ rfl (zav (pv 2)) (λC a0 ex s H=>zaj (i:=0) ndF rfl (Or.inl rfl) (Or.inr rfl)) (λC a0 ex s H=>zci)
       (λC a0 ex s H=>zai (zis (K:=K) rfl) (by rfl) (by exact a9) Zx (zac (zat (by exact hu) (pv 1) (pv 0) (λ_ _=>rfl)) zaf))) zaf)) zal))
    (zae (zam (i:=5) zg0.nd rfl (Or.inl rfl) (zai zan (by rfl) a9 Zx (zac (zf3 (M:=["face", "piece"]) (ix:=[none,some 2]) ⟨csFlB_k,csFlB_c,csFlB_n,csFlB_f,rfl,by decide +kernel,λj i x h1 h2=>by
       match j,h1,h2 with
       |0,_,h2=>cases h2
       |1,h1,h2=>cases h1;cases h2;exact⟨rfl,csFlB_l⟩
       |n+2,h1,_=>cases h1⟩ rfl (zav (pv 1)) (λC a0 ex s H=>zaj (i:=0) ndFB rfl (Or.inl rfl) (Or.inr rfl))
       (λC a0 ex s H=>zes (zas (zeu (K:=K) rfl) (zck (ix_listK (K:=K) rfl) (pv 0) zal (λ_ _=>rfl)) (pv 1) rfl)) (λC a0 ex s H=>pv 0)) zaf)))
    (zah (zb5 (zas op_ne (zbd zc9 (pv 3) (pv 5)) (zbd zc9 (pv 4) zal) (zbf _)) (zah zfe) za0)))))))  ,?_⟩
  refine⟨_,rfl,d,es,cs,lab,rfl,T,aN,aR,C,λfo fas hd hc cs' H1 cH hfal hhd hhp iJ fZ k1=>?_⟩
  have T1:TAt H1 d es:=T.keep k1 (by simp) (λ_ _=>by simp)
  refine⟨_,rfl,d,es,cs,lab,rfl,T1,aN,C,λl as zss H2 ah fg e9 _ k2=>?_⟩
  have T2:TAt H2 d es:=T1.keep k2 (by simp) (λ_ _=>by simp)
  have dO:=k2 _ _ cH (by simp)
  have um:Paired (zc5 H2) fas hd:=zcx (D:=d) (g:=d) k2 hhd (λ_ _ _ _=>by simp)
  refine⟨l,rfl,⟨_,SqL.of ah⟩,zbr (xs:=as.map V.ref) (λi σ H'=>Aj2 (Keep [] H2 H') (Ex4 λx2 x3 x4 x5=>σ=[some (.ref d),some (.ref fo),x2,x3,x4,x5])) ⟨Keep.refl,_,_,_,_,rfl⟩ (λi σ H' _ hh=>SqL.of (hh.1 _ _ ah (by simp))) ?_ ?_⟩
  ·rintro i y σ H3 hx ⟨k3,x2,x3,x4,x5,rfl⟩
   have hi:i<as.length:=by
    have:=(Zb.mp hx).1
    rwa[Qa]at this
   have gj:y=.ref as[i]:=by
    rw[Qz,Qg hi]at hx
    exact(Qp hx).symm
   subst gj
   obtain⟨ar,dP⟩:=za8 fg hi
   have qP:=e9 _ (Qq ar)
   have lF:=piece_count C qP hhp iJ fZ
   generalize zss[i]=zs at dP qP lF
   have dk:H3 as[i]=some (.lst (zs.map V.str)):=k3 _ _ dP (by simp)
   have kG:∀z∈zs,∃e∈es,e.1=z:=λz hz=>by
    obtain⟨_,s,_,hm⟩:=qP
    exact Qk.mp ((hm z).mp hz).1
   have lZ:zs.length≤100:=by
    have:=zba qP.1 (m:=es.map (·.1)) λz hz=>by
     obtain⟨e,he,rfl⟩:=kG z hz
     exact Qk.mpr ⟨e,he,rfl⟩
    rw[Qa]at this
    omega
   refine⟨_,rfl,as[i],_,rfl,.inl (SqL.of dk),?_⟩
   have T3:TAt H3 d es:=T2.keep k3 (by simp) (λ_ _=>by simp)
   refine⟨_,rfl,as[i],rfl,⟨_,SqL.of dk⟩,lc_at (xs:=zs.map V.str) (λ τ=>∃x0,τ=[x0,some (.ref d)]) ((zs.map λx=>((row (rsOf es) x).length:Int)).map V.int) (by rw[Qa,Qa,Qa]) (SqL.of dk) (by rw[Qa];lia) ⟨none,rfl⟩ ?_ (λD hD=>?_)⟩
   ·rintro j hj mw τ ⟨x0,rfl⟩ kk hk
    rw[Qa]at hj
    rw[Zs]
    obtain⟨en,az,aD⟩:=kG _ (Qq hj)
    have dg:DGet H3 d (.str zs[j]) (some (.ref en.2.2)):=by
     have:=DGet.k (k:=Sum.inr en.1) T3.dc
     rw[zbv T3.nd az,aD]at this
     exact this
    refine⟨_,rfl,_,rfl,d,_,rfl,dg,en.2.2,_,rfl,.inr (SqT.of (T3.ro en az)),?_⟩
    have e:((zs.map λx=>((row (rsOf es) x).length:Int)).map V.int)[j]=V.int ((en.2.1.map V.str).length:Int):=by
     rw[Zs,Zs,←aD,zbb T3.nd az,Qa]
    rw[e]at hk
    exact hk _ ⟨_,rfl⟩
   ·have k4:Keep [] H3 (upd H3 D (.lst ((zs.map fun x=>((row (rsOf es) x).length:Int)).map V.int))):=Keep.new hD
    have hD4:(upd H3 D (.lst ((zs.map λx=>((row (rsOf es) x).length:Int)).map V.int))) D=some (.lst ((zs.map λx=>((row (rsOf es) x).length:Int)).map V.int)):=zab
    generalize upd H3 D (.lst ((zs.map λx=>((row (rsOf es) x).length:Int)).map V.int))=H4 at k4 hD4
    refine⟨D,_,rfl,SqL.of hD4,by rw[Qa];lia,λn hn=>?_,?_⟩
    ·obtain ⟨z,hz,rfl⟩:=Qk.mp hn
     obtain⟨en,az,aD⟩:=kG z hz
     have h1:=aR en az
     rw[←aD,zbb T3.nd az]
     lia
    ·have oe:(zs.map fun x=>((row (rsOf es) x).length:Int)).sum=(((zs.map fun x=>(row (rsOf es) x).length).sum:Nat):Int):=by
      rw[←sum_cast,Zq];rfl
     rw[oe]
     refine⟨_,_,rfl,rfl,⟨by decide,by decide⟩,?_⟩
     have bq:=k4 _ _ (k3 _ _ dO (by simp)) (by simp)
     have jt:=k4 _ _ dk (by simp)
     have pe:Paired (zc5 H4) fas hd:=zcx (D:=d) (g:=d) (k3.trans k4) um (λ_ _ _ _=>by simp)
     refine⟨_,rfl,fo,rfl,⟨_,SqL.of bq⟩,lc_filt (xs:=fas.map V.ref) (λ τ=>∃x0,τ=[x0,some (.ref as[i])]) (inPc H4 zs) (SqL.of bq) (by rw[Qa];lia) ⟨none,rfl⟩ ?_ (λD2 dr=>?_)⟩
     ·rintro x hx τ ⟨x0,rfl⟩ kk1 kk0 oU oV
      obtain⟨a,ha,rfl⟩:=Qk.mp hx
      obtain⟨j,hj,rfl⟩:=Zo ha
      obtain⟨iG,jZ⟩:=za8 pe hj
      have ai:=inPc_ref (zs:=zs) jZ
      obtain⟨t,et⟩:=jZ
      refine⟨_,rfl,fas[j],_,_,_,rfl,rfl,SqL.of et,zbo (j:=0) rfl,_,rfl,as[i],_,rfl,.inl (SqL.of jt),rfl,zcc zs,_,rfl,?_⟩
      cases hb:decide (hd[j]∈zs) with
      |true=>exact zb6 (show inV _ _=true by rw[zey];exact hb) ⟨_,rfl,oU (ai.trans hb) _ ⟨_,rfl⟩⟩
      |false=>exact za5 (show inV _ _=false by rw[zey];exact hb) (oV (ai.trans hb) _ ⟨_,rfl⟩)
     ·have k5:Keep [] H4 (upd H4 D2 (.lst ((fas.map V.ref).filter (inPc H4 zs)))):=Keep.new dr
      refine⟨D2,_,rfl,.inl (SqL.of zab),?_⟩
      rw[filt_len pe]
      refine⟨_,rfl,_,rfl,_,_,rfl,rfl,_,rfl,_,_,rfl,rfl,rfl,_,rfl,za5 ?_ ?_⟩
      ·rw [Bool.not_eq_false',decide_eq_true_iff]
       refine congrArg V.int ?_
       rw[Qa]
       lia
      ·exact⟨(k3.trans k4).trans k5,_,_,_,_,rfl⟩
  ·rintro σ H3 ⟨k3,x2,x3,x4,x5,rfl⟩
   exact k H3 ((k1.trans k2).trans k3)
end
end K21
end
section
namespace K21
open PySem L2 Wb
abbrev sInit:Stmt:=inClass sWeb 0
abbrev zhi:List Ent→List Ent→Prop:=Paired λt e=>t.1=e.1∧∃k,t.2.1=e.2.1.drop k++e.2.1.take k
inductive IspInit(C:Nc)(vs:List V)(H:Hp)(Q:VK):Prop
 |mk (x dx l:Nc) (as:Nk) (es:List Ent) (cs:List (List (Str×Str))) (lab:Nu) (h0:vs=[.ref x,.ref l]) (h1:H x=some (.ins C dx [])) (h2:RwAt H l as es) (h3:es.length≤30) (h4:(∀e∈es,zds e.1)) (h5:Cert (es.map (·.1)) (row (rsOf es)) cs lab) (h6:∀(d:Addr) (ts aE:List Ent) (H':Hp),WAt H' C x dx d ts→aE.Perm es→zhi ts aE→Keep [x] H H'→Q .non H'):IspInit C vs H Q
def spInit(C:Nc):Sp:=λvs H Q _=>IspInit C vs H Q
def zbj(h:zhi ts es):ts.map (·.1)=es.map (·.1):=by
 induction h with
 |nil=>rfl
 |cons h t ih=>rw[Qm,Qm,h.1,ih]
def zem(h:zhi ts es)(ht:t∈ts):∃e∈es,t.1=e.1∧∃k,t.2.1=e.2.1.drop k++e.2.1.take k:=by
 induction h with
 |nil=>cases ht
 | cons h _ ih =>
  rcases Qd.mp ht with z | z
  ·subst z;exact⟨_,Qc,h⟩
  ·obtain ⟨e,he,r⟩:=ih z
   exact⟨e,Qh _ he,r⟩
def zcs(h:zhi ts aE)(hp:aE.Perm es)(nd:(es.map (·.1)).Nodup):∀x,∃k,row (rsOf ts) x=(row (rsOf es) x).drop k++(row (rsOf es) x).take k:=λx=>by
 have nd2:(ts.map (·.1)).Nodup:=by rw[zbj h];exact(hp.map _).nodup_iff.mpr nd
 by_cases hx:x∈ts.map (·.1)
 ·obtain ⟨t,ht,rfl⟩:=Qk.mp hx
  obtain⟨e,he,e1,k,e2⟩:=zem h ht
  refine⟨k,?_⟩
  rw[zbb nd2 ht,e1,zbb nd (hp.mem_iff.mp he),e2]
 ·refine ⟨0,?_⟩
  have hx2:x∉es.map (·.1):=λz=>hx (by rw[zbj h];exact(hp.map _).mem_iff.mpr z)
  have n1:x∉(rsOf ts).map (·.1):=by unfold rsOf;rw[List.map_map];exact hx
  have n2:x∉(rsOf es).map (·.1):=by unfold rsOf;rw[List.map_map];exact hx2
  rw[zf0 n1,zf0 n2];rfl
abbrev csInit:Scope:=scOf (eOf (sAt sInit 3))
def csInit_k:csInit.kind=.function:=by rfl
def csInit_c:∀y∈csInit.names,y.2≠.cell:=by decide +kernel
def csInit_n:∀y∈csInit.names,y.2=.local→csInit.names.lookup y.1=some .local:=by decide +kernel
def csInit_f:∀y∈csInit.names,y.2=.free→(zag sInit).names.lookup y.1=some .cell∨(zag sInit).names.lookup y.1=some .free:=by decide +kernel
section
variable{P:Nj}{w:Nl}{K:Na}{mg:Ng}{base:Nm}
def scInit:zaq ["self", "rows", "rounds"] ["self", "rows"] (zag sInit):=⟨rfl,rfl,rfl,by decide +kernel,rfl,by decide +kernel,by decide +kernel⟩
def ok_init(F:Fun K "__init__" "Web.__init__" sInit f fd)(cW:Cls K C)(nW:zdg K C "rounds")(FN:Fun K "refuse_no_names" "refuse_no_names" zfj fn fdn)(bN:Binds K fdn ["rows"] [])(mN:mg "refuse_no_names" = some (.ref fn))(GN:FnOk P w K mg base CX0 2 fn fdn ["rows"] spNoNames)(FT:Fun K "refuse_twice" "refuse_twice" zdp ft fdt)(bT:Binds K fdt ["rows"] [])(mT:mg "refuse_twice" = some (.ref ft))(GT:FnOk P w K mg base CX0 1 ft fdt ["rows"] spTwice)(FO:Fun K "refuse_one_way" "refuse_one_way" zhu fo fdo)(bO:Binds K fdo ["rows"] [])(mO:mg "refuse_one_way" = some (.ref fo))(GO:FnOk P w K mg base CX0 1 fo fdo ["rows"] spOneWay)(FL:Fun K "from_least" "from_least" sLeast fl fdl)(bL:Binds K fdl ["around"] [])(mL:mg "from_least" = some (.ref fl))(GL:FnOk P w K mg base CX0 1 fl fdl ["around"] spLeast)(FF:Fun K "refuse_not_flat" "refuse_not_flat" zgt ff fdf)(bF:Binds K fdf ["rounds"] [])(mF:mg "refuse_not_flat" = some (.ref ff))(GF:FnOk P w K mg base CX0 3 ff fdf ["rounds"] spFlat)(ay:mg "sorted" = none):FnOk P w K mg base CX0 4 f fd ["self", "rows"] (spInit C):=by
 refine F.ok scInit (λvs H Q E h=>?_) (λcdv A outer s H vs Q E hr h=>?_)
 ·obtain ⟨x,dx,l,as,es,cs,lab,rfl,_⟩:=h
  rfl
 ·obtain ⟨x,dx,l,as,es,cs,lab,rfl,hx,R,aN,hok,Ct,k⟩:=h
  have hu:=zb9 hr
  have aH:Room 1 _:=hr.mono (by decide)
  have bA:Room 2 _:=hr.mono (by decide)
  have aG:sizeLine=16777216:=sizeLine_eq
  refine⟨_,zae (za6 (zak GN bA rfl mN FN.kp bN .nil zaw (zac (pv 1) zaf)))
   (zae (za6 (zak GT aH rfl mT FT.kp bT .nil zaw (zac (pv 1) zaf)))
   (zae (za6 (zak GO aH rfl mO FO.kp bO .nil zaw (zac (pv 1) zaf)))
   (zae (ps_dc (i:=2) (M:=["place", "around"]) (ix:=[none,none]) scInit.nd rfl rfl (noB (n:=2) csInit_k csInit_c csInit_n csInit_f rfl ndPA) rfl
     (zav (zai zff (by rfl) ay Yd (zac (pv 1) zaf)))
     (λC a0 ex s H=>zh0 (K:=K) (n:=2) rfl rfl (zax (zaj (i:=0) ndPA rfl (Or.inl rfl) (Or.inr rfl)) (zax (zaj (i:=1) ndPA rfl (Or.inl rfl) (Or.inr rfl)) zcj)))
     (λC a0 ex s H=>zci) (λC a0 ex s H=>pv 0) (λC a0 ex s H=>zak GL (by exact aH) rfl (by exact mL) FL.kp bL .nil zaw (zac (pv 1) zaf)) rfl)
   (zae (za6 (zak GF hr rfl mF FF.kp bF .nil zaw (zac (pv 2) zaf)))
   (zah (ps_fld (pv 0) (pv 2) rfl)))))),?_⟩
  have aB:(es.map (·.1)).Nodup:=Ct.nd
  have af:∀e∈es,row (rsOf es) e.1=e.2.1:=λe he=>zbb aB he
  have qM:∀e∈es,e.2.1.Nodup:=λe he=>af e he▸Ct.rn e.1
  have cT:∀e∈es,∀y∈e.2.1,y∈es.map (·.1):=λe he y hy=>Ct.inn' (x:=e.1) (by rw[af e he];exact hy)
  have aR:∀e∈es,e.2.1.length≤30:=λe he=>by
   have:=zba (qM e he) (cT e he)
   rw[Qa]at this
   exact Zd ‹_› ‹_›
  refine⟨_,rfl,l,as,es,rfl,R,λe he=>⟨Zd (aR e he) (by decide),hok e he,λy hy=>?_⟩,λH1 k1=>?_⟩
  ·obtain ⟨e',br,rfl⟩:=Qk.mp (cT e he y hy)
   exact hok e' br
  have R1:=R.keep k1
  refine⟨_,rfl,l,as,es,rfl,R1,by lia,aB,λe he=>⟨Zd (aR e he) (by decide),qM e he⟩,λH2 k2=>?_⟩
  have R2:=R1.keep k2
  refine⟨_,rfl,l,as,es,rfl,R2,aB,λe he=>⟨?_,λy hy=>?_⟩,λH3 k3=>?_⟩
  ·rw[←af e he];exact Ct.ir e.1
  ·obtain ⟨e',br,bK⟩:=Qk.mp (cT e he y hy)
   have nP:e'.1=y:=bK
   refine⟨e',br,nP,?_⟩
   rw[←af e' br,nP]
   exact Ct.sy e.1 y (by rw[af e he];exact hy)
  have R3:=R2.keep k3
  have k03:Keep [] H H3:=(k1.trans k2).trans k3
  have jq:as.length=es.length:=Yb R3.ts
  refine⟨_,rfl,l,_,rfl,SqL.of R3.ls,λv hv=>?_,λv hv u hu e=>?_,λl2 wsV ah ae ao=>?_⟩
  ·obtain ⟨a,ha,rfl⟩:=Qk.mp hv
   obtain⟨i,hi,rfl⟩:=Zo ha
   obtain⟨ar,h⟩:=za8 R3.ts hi
   exact⟨_,_,_,rfl,h⟩
  ·obtain ⟨a,ha,rfl⟩:=Qk.mp hv
   obtain⟨b,hb,rfl⟩:=Qk.mp hu
   obtain⟨i,hi,rfl⟩:=Zo ha
   obtain⟨j,hj,rfl⟩:=Zo hb
   obtain⟨ar,h1⟩:=za8 R3.ts hi
   obtain⟨iG,h2⟩:=za8 R3.ts hj
   rw[zd6 h1,zd6 h2]at e
   have e':es[i].1=es[j].1:=by
    have q:es[i].1.cps.toList=es[j].1.cps.toList:=e
    generalize es[i].1=a1 at q ⊢
    generalize es[j].1=a2 at q ⊢
    cases a1;cases a2
    congr 1
    exact Xh.mp q
   have e2:(es.map (·.1))[i]'(by rw[Qa];exact ar)=(es.map (·.1))[j]'(by rw[Qa];exact iG):=by rw[Zs,Zs];exact e'
   have:=(Jb aB).mp e2
   subst this
   rfl
  ·obtain ⟨cJ,rfl,bo⟩:=zf1 ae
   obtain⟨aE,bn,eR⟩:=zc0 bo R3.ts
   have k4:Keep [] H3 (upd H3 l2 (.lst (cJ.map V.ref))):=Keep.new ah
   have cE:(upd H3 l2 (.lst (cJ.map V.ref))) l2=some (.lst (cJ.map V.ref)):=zab
   generalize upd H3 l2 (.lst (cJ.map V.ref))=H4 at k4 cE
   have j9:Paired (λa (e:Ent)=>H4 a=some (.tup [.str e.1,.ref e.2.2])) cJ aE:=Paired.imp' (λ_ _ h=>k4 _ _ h (by simp)) eR
   have gr:∀e∈aE,H4 e.2.2=some (.lst (e.2.1.map V.str)):=λe he=>k4 _ _ (R3.ro e (bn.mem_iff.mp he)) (by simp)
   have oJ:(aE.map (·.1)).Nodup:=(bn.map _).nodup_iff.mpr aB
   have vd:cJ.length=aE.length:=Yb j9
   have hel2:aE.length=es.length:=bn.length_eq
   refine⟨l2,rfl,⟨_,SqL.of cE⟩,λi m ys τ H'=>Aj5 (m=aE.length-i) (i≤aE.length) (Ex2 λx0 x1=>τ=[x0,x1]) (Keep [] H4 H') (Ex1 λ(ts:List Ent)=>Aj3 (ys=(ts.map λe=>((Sum.inr e.1:Key),V.ref e.2.2))) (∀e∈ts,H' e.2.2=some (.tup (e.2.1.map V.str))) (zhi ts (aE.take i))),
    ⟨aE.length,rfl,Zi _,⟨none,none,rfl⟩,Keep.refl,[],rfl,λe he=>(by cases he),.nil⟩,?_⟩
   rintro i m ys τ H5 ⟨rfl,hi,⟨x0,x1,rfl⟩,k5,ts,rfl,o6,cS⟩
   by_cases aa:i<aE.length
   ·have iD:=zbj cS
    have sP:ts.length≤i:=by
     have:=congrArg List.length iD
     rw[Qa,Qa,Zn]at this
     lia
    refine .inr ⟨⟨_,.ref cJ[i],SqL.of (k5 _ _ cE (by simp)),by rw[Qz,Qg (by exact zar6 ‹_› ‹_›)];rfl⟩,by rw[Qa];lia,?_⟩
    rintro v H6 ⟨rfl,hv⟩
    have jH:=hv _ (SqL.of (k5 _ _ cE (by simp)))
    rw[Qz,Qg (by exact zar6 ‹_› ‹_›)]at jH
    obtain rfl:V.ref cJ[i]=v:=Qp jH
    obtain⟨ar,dP⟩:=za8 j9 (by exact zar6 ‹_› ‹_›:i<cJ.length)
    have aT:aE[i]∈aE:=Qq aa
    have cV:=k5 _ _ (gr _ aT) (by simp)
    have oI:aE[i].1∉ts.map (·.1):=by
     rw[iD]
     have h1:(aE.map (·.1)).take (i+1)=(aE.map (·.1)).take i++[aE[i].1]:=by
      rw[Qn (by rw[Qa];exact aa),Zs]
     have h2:((aE.map (·.1)).take (i+1)).Nodup:=Wh (Jm _ _) oJ
     rw[h1,Qy,←Uj]at h2
     exact λz=>h2.2.2 _ z _ (Qb.mpr rfl) rfl
    refine⟨cJ[i],_,rfl,SqT.of (k5 _ _ dP (by simp)),rfl,_,_,rfl,_,_,rfl,rfl,_,rfl,_,rfl,aE[i].2.2,aE[i].2.1,rfl,cV,Zd (aR _ (bn.mem_iff.mp aT)) (by decide),λt j H7 hj ht7 htfr k7=>?_⟩
    refine⟨Sum.inr aE[i].1,rfl,aE.length-(i+1),by exact zar1 ‹_›,rfl,aa,⟨_,_,rfl⟩,k5.trans k7,ts++[(aE[i].1,aE[i].2.1.drop j++aE[i].2.1.take j,t)],put_new (r:=aE[i].2.1.drop j++aE[i].2.1.take j) oI,λe he=>?_,?_⟩
    ·rcases Qe.mp he with z | z
     ·exact k7 _ _ (o6 e z) (by simp)
     ·rw[Qb.mp z];exact ht7
    ·rw [Qn aa]
     exact zbg cS (.cons ⟨rfl,j,rfl⟩ .nil)
   ·have fA:i=aE.length:=by exact zar3 ‹_› ‹_›
    subst fA
    rw[Qr (Qf _)]at cS
    refine .inl ⟨⟨_,SqL.of (k5 _ _ cE (by simp)),by rw[Qa,vd];exact Qf _⟩,λd hd=>?_⟩
    have k6:Keep [] H5 (upd H5 d (.dK (ts.map λe=>((Sum.inr e.1:Key),V.ref e.2.2)))):=Keep.new hd
    have hd6:(upd H5 d (.dK (ts.map λe=>((Sum.inr e.1:Key),V.ref e.2.2)))) d=some (.dK (ts.map λe=>((Sum.inr e.1:Key),V.ref e.2.2))):=zab
    generalize upd H5 d (.dK (ts.map λe=>((Sum.inr e.1:Key),V.ref e.2.2)))=H6 at k6 hd6
    have iD:=zbj cS
    have T6:TAt H6 d ts:=⟨hd6,λe he=>k6 _ _ (o6 e he) (by simp),by rw[iD];exact oJ⟩
    have sP:ts.length=es.length:=by
     have:=congrArg List.length iD
     rw[Qa,Qa,bn.length_eq]at this
     exact this
    have C6:Cert (ts.map (·.1)) (row (rsOf ts)) cs lab:=zgo Ct (by rw[iD];exact bn.map _) (zcs cS bn aB)
    refine⟨_,rfl,d,ts,cs,lab,rfl,T6,by lia,λe he=>?_,C6,λH7 k7=>?_⟩
    ·obtain ⟨e',br,_,kk,e2⟩:=zem cS he
     rw[e2,(zfk _ kk).length_eq]
     exact Zd (aR e' (bn.mem_iff.mp br)) (by decide)
    ·have k07:Keep [] H H7:=(((k03.trans k4).trans k5).trans k6).trans k7
     have sE:=k07 _ _ hx (by simp)
     have T7:TAt H7 d ts:=T6.keep k7 (by simp) (λ_ _=>by simp)
     have nxd:d≠x:=zay T7.dc sE (by intro z;cases z)
     refine⟨_,rfl,_,rfl,x,C,dx,[],rfl,sE,cW,nW,(by decide),?_⟩
     refine k d ts aE _ ⟨zab,T7.keep (xs:=[x]) (Keep.wr (by simp)) (by simpa using nxd) λe he=>by simpa using zay (T7.ro e he) sE (by intro z;cases z)⟩ bn cS ((k07.sub (by simp)).trans (Keep.wr (by simp)))
end
abbrev sLWeb:Stmt:=top 39
inductive IspLWeb(C:Nc)(vs:List V)(H:Hp)(Q:VK):Prop
 |mk (p d:Nc) (b m:Int) (es:List Ent) (cs:List (List (Str×Str))) (lab:Nu) (h0:vs=[.ref p,.ref d]) (h1:Pot H p b m) (h2:RAt H d es) (h3:es.length≤30) (h4:(∀e∈es,zds e.1)) (h5:Cert (es.map (·.1)) (row (rsOf es)) cs lab) (h6:∀(x dx d2:Nc) (ts:List Ent) (b' m':Int) (H':Hp),WAt H' C x dx d2 ts→(ts.map (·.1)).Perm (es.map (·.1))→(∀y,(row (rsOf ts) y).Perm (row (rsOf es) y))→Cert (ts.map (·.1)) (row (rsOf ts)) cs lab→Pot H' p b' m'→Keep [p] H H'→Q (.ref x) H'):IspLWeb C vs H Q
def spLWeb(C:Nc):Sp:=λvs H Q _=>IspLWeb C vs H Q
def zf4:∀{as:List α} {bs:List β} (n:Nat),Paired R as bs→Paired R (as.take n) (bs.take n):=by
 intro as bs n r
 induction r generalizing n with
 |nil=>rw[List.take_nil,List.take_nil];exact .nil
 |cons h t ih =>
  cases n with
  |zero=>exact .nil
  |succ k=>exact .cons h (ih k)
def zf5:∀{as:List α} {bs:List β} (n:Nat),Paired R as bs→Paired R (as.drop n) (bs.drop n):=by
 intro as bs n r
 induction r generalizing n with
 |nil=>rw[List.drop_nil,List.drop_nil];exact .nil
 |cons h t ih =>
  cases n with
  |zero=>exact .cons h t
  |succ k=>exact ih k
section
variable{P:Nj}{w:Nl}{K:Na}{mg:Ng}{base:Nm}
def scLWeb:zaq ["_law_pot_here", "_law_rounds_here", "_law_rows", "_law_name", "_law_row", "_law_at"] ["_law_pot_here", "_law_rounds_here"] (zag sLWeb):=⟨rfl,rfl,rfl,by decide +kernel,rfl,by decide +kernel,by decide +kernel⟩
def ok_lweb(F:Fun K "_law_web" "_law_web" sLWeb f fd)(FT:Fun K "_law_take" "_law_take" zhr ft fdt)(bT:Binds K fdt ["_law_pot_here", "_law_many"] [])(mT:mg "_law_take" = some (.ref ft))(GT:FnOk P w K mg base CX0 1 ft fdt ["_law_pot_here", "_law_many"] zfu)(MW:Mk K C fi)(mW:mg "Web" = some (.ref C))(bI:Binds K fdi ["self", "rows"] [])(GI:FnOk P w K mg base CX0 4 fi fdi ["self", "rows"] (spInit C))(a9:mg "len" = none):FnOk P w K mg base CX0 6 f fd ["_law_pot_here", "_law_rounds_here"] (spLWeb C):=by
 refine F.ok scLWeb (λvs H Q E h=>?_) (λcdv A outer s H vs Q E hr h=>?_)
 ·obtain ⟨p,d,b,m,es,cs,lab,rfl,_⟩:=h
  rfl
 ·obtain ⟨p,d,b,m,es,cs,lab,rfl,hp,R,aN,hok,Ct,k⟩:=h
  have hu:=zb9 hr
  have aH:Room 1 _:=hr.mono (by decide)
  have aG:sizeLine=16777216:=sizeLine_eq
  refine⟨_,zae (zam (i:=2) scLWeb.nd rfl (Or.inl rfl) (zbh zaf))
   (zae (ps_thaw (zbc Zh rfl (zdw (pv 1)) (zaj (i:=3) scLWeb.nd rfl (Or.inl rfl))
    (zae (zam (i:=4) scLWeb.nd rfl (Or.inl rfl) (zat hu (pv 1) (pv 3) (λ_ _=>rfl)))
    (zae (zam (i:=5) scLWeb.nd rfl (Or.inl rfl) (zak GT aH rfl mT FT.kp bT .nil zaw (zac (pv 0) (zac (zbd zc9 (zai zan (by rfl) a9 Zx (zac (pv 4) zaf)) zal) zaf))))
    (zah (za6 (zd9 Zm PySem.F.slot_list_insert PySem.F.type_list_insert mt_insert (pv 2) (zac (zak GT aH rfl mT FT.kp bT .nil zaw (zac (pv 0) (zac (zbd zc9 (zai zan (by rfl) a9 Zx (zac (pv 2) zaf)) zal) zaf)))
     (zac (zdr (zac (pv 3) (zac (zbd zea (zbq zcd (pv 4) (zb8 (pv 5)) zby) (zbq zcd (pv 4) zby (zb8 (pv 5)))) zaf))) zaf)))))))))
   (zah (zbe (pe_make MW GI hr rfl mW bI .nil zaw (zac (pv 2) zaf))))),?_⟩
  have aB:(es.map (·.1)).Nodup:=R.nd
  have af:∀e∈es,row (rsOf es) e.1=e.2.1:=λe he=>zbb aB he
  have qM:∀e∈es,e.2.1.Nodup:=λe he=>af e he▸Ct.rn e.1
  have cT:∀e∈es,∀y∈e.2.1,y∈es.map (·.1):=λe he y hy=>Ct.inn' (x:=e.1) (by rw[af e he];exact hy)
  have aR:∀e∈es,e.2.1.length≤30:=λe he=>by
   have:=zba (qM e he) (cT e he)
   rw[Qa]at this
   exact Zd ‹_› ‹_›
  refine⟨(by show 0≤sizeLine;decide),λro cV=>?_⟩
  have nfz:∀o' u',H d≠some (.frz o' u'):=λo' u' z=>by rw[R.dc]at z;cases z
  have npd:p≠d:=Zc (zg4 hp R.dc)
  have npr:p≠ro:=zaa hp.1 cV
  have iU:d≠ro:=zaa R.dc cV
  have k1:Keep [] H (upd H ro (.lst [])):=Keep.new cV
  have oo:(upd H ro (.lst [])) ro=some (.lst []):=zab
  generalize upd H ro (.lst [])=H1 at k1 oo
  have R1:RAt H1 d es:=R.keep k1 (by simp) (λ_ _=>by simp)
  have fW:Pot H1 p b m:=hp.keep k1 (by simp)
  have rowne:∀e∈es,e.2.2∉[p,d,ro]:=λe he=>by
   have h1:=R.ro e he
   simp only[Qd,Wq,or_false,not_or]
   exact⟨zc7 hp h1,zay h1 R.dc (by intro z;cases z),zaa h1 cV⟩
  refine⟨_,rfl,d,_,rfl,R1.dc,λo=>for_dict (λi σ H'=>Aj4 (Ex3 λx3 x4 x5=>σ=[some (.ref p),some (.ref d),some (.ref ro),x3,x4,x5]) (H' d=some (.frz o (.dK (es.map λe=>((Sum.inr e.1:Key),V.ref e.2.2))))) (Keep [p,d,ro] H1 H') (Ex5 λ(b' m':Int) (as:Nk) (aJ ak:List Ent)=>Aj7 (Pot H' p b' m') (H' ro=some (.lst (as.map V.ref))) (Paired (λa (e:Ent)=>H' a=some (.tup [.str e.1,.ref e.2.2])) as aJ) (∀e∈aJ,H' e.2.2=some (.lst (e.2.1.map V.str))) (ak.Perm (es.take i)) (zhi aJ ak) (∀e∈aJ,e.2.2≠ro)))
   ⟨⟨_,_,_,rfl⟩,zab,Keep.wr (by simp),b,m,[],[],[],fW.keep (xs:=[d]) (Keep.wr (by simp)) (by simpa using npd),by rw[zad (Zc iU)];exact oo,.nil,λe he=>(by cases he),List.Perm.refl _,.nil,λe he=>(by cases he)⟩ (λi σ H' _ hh=>hh.2) ?_ ?_⟩
  ·rintro i pr σ H2 cM ⟨⟨x3,x4,x5,rfl⟩,hz,k2,b2,m2,as,aJ,ak,bo,kT,eR,gq,bn,cS,rowro⟩
   have hi:i<es.length:=by
    have:=(Zb.mp cM).1
    rwa[Qa]at this
   have g1:pr=((Sum.inr es[i].1:Key),V.ref es[i].2.2):=by
    rw[Qz,Qg hi]at cM
    exact(Qp cM).symm
   subst g1
   have aT:es[i]∈es:=Qq hi
   have tw:=aR _ aT
   have c7:=R1.ro _ aT
   have dA:=k2 _ _ c7 (rowne _ aT)
   have jq:as.length=i:=by
    rw[Yb eR,Yb cS,bn.length_eq,Zn];lia
   refine⟨_,rfl,_,rfl,d,.ref es[i].2.2,rfl,.inl ⟨_,Sum.inr es[i].1,.inr ⟨o,hz⟩,rfl,(zbv aB aT).symm⟩,?_⟩
   refine⟨_,rfl,_,rfl,es[i].2.2,_,rfl,.inl (SqL.of dA),_,_,rfl,rfl,p,b2,m2,_,rfl,bo,(by rw[Qa];lia),(by rw[Qa];lia),λj3 b3 m3 H3 hj3 uj aV sd=>?_⟩
   have k3:=zbt sd
   obtain⟨j,rfl⟩:=Yl hj3
   rw[Qa]at uj
   have hj:j≤es[i].2.1.length:=by lia
   have nrop:ro≠p:=Zc npr
   have kS:=k3 _ _ kT (by simpa using nrop)
   have jd:=k3 _ _ dA (by simpa using zc7 bo dA)
   have jE:=k3 _ _ hz (by simpa using Zc npd)
   have sM:Paired (λa (e:Ent)=>H3 a=some (.tup [.str e.1,.ref e.2.2])) as aJ:=Paired.imp' (λa e h=>k3 _ _ h (by simpa using zay h bo.1 (by intro z;cases z))) eR
   have oh:∀e∈aJ,H3 e.2.2=some (.lst (e.2.1.map V.str)):=λe he=>k3 _ _ (gq e he) (by simpa using zc7 bo (gq e he))
   refine⟨_,rfl,.inl ⟨rfl,_,SqL.of kS⟩,_,rfl,_,rfl,ro,_,rfl,.inl (SqL.of kS),_,_,rfl,rfl,p,b3,m3,_,rfl,aV,(by rw[Qa];lia),(by rw[Qa];lia),λj4 b4 m4 H4 hj4 p9 aI rZ=>?_⟩
   have k4:=zbt rZ
   obtain⟨n,rfl⟩:=Yl hj4
   rw[Qa]at p9
   have hn:n≤as.length:=by lia
   have gr:=k4 _ _ kS (by simpa using nrop)
   have kW:=k4 _ _ jd (by simpa using zc7 aV jd)
   have qE:=k4 _ _ jE (by simpa using Zc npd)
   have j9:Paired (λa (e:Ent)=>H4 a=some (.tup [.str e.1,.ref e.2.2])) as aJ:=Paired.imp' (λa e h=>k4 _ _ h (by simpa using zay h aV.1 (by intro z;cases z))) sM
   have tj:∀e∈aJ,H4 e.2.2=some (.lst (e.2.1.map V.str)):=λe he=>k4 _ _ (oh e he) (by simpa using zc7 aV (oh e he))
   refine⟨.str es[i].1,rfl,_,rfl,_,rfl,_,rfl,es[i].2.2,_,rfl,SqL.of kW,λq1 h1=>?_⟩
   have n1:es[i].2.2≠q1:=zaa kW h1
   refine⟨_,rfl,_,rfl,_,rfl,es[i].2.2,_,rfl,SqL.of (by rw[zad n1];exact kW),λq2 h2=>?_⟩
   have dS:q1≠q2:=zaa (o:=_) zab h2
   have aF:(es[i].2.1.map V.str).length=es[i].2.1.length:=Qa ..
   refine⟨q1,q2,_,_,rfl,rfl,(by rw[zad dS];exact zab),zab,?_,λq3 h3=>?_⟩
   ·have c1:=za2 (es[i].2.1.map V.str) (some (j:Int)) none
    have c2:=za2 (es[i].2.1.map V.str) none (some (j:Int))
    rw[aF]at c1 c2
    lia
   have ecut:cutV (es[i].2.1.map V.str) (some (j:Int)) none++cutV (es[i].2.1.map V.str) none (some (j:Int))=(es[i].2.1.drop j++es[i].2.1.take j).map V.str:=by
    rw[zca (by rw[aF];exact hj),zhd (by rw[aF];exact hj),Qs,Uk,Uj]
   rw[ecut]
   have k5:Keep [] H4 (upd (upd (upd H4 q1 (.lst (cutV (es[i].2.1.map V.str) (some (j:Int)) none))) q2 (.lst (cutV (es[i].2.1.map V.str) none (some (j:Int))))) q3 (.lst ((es[i].2.1.drop j++es[i].2.1.take j).map V.str))):=((Keep.new h1).trans (Keep.new h2)).trans (Keep.new h3)
   have ou:(upd (upd (upd H4 q1 (.lst (cutV (es[i].2.1.map V.str) (some (j:Int)) none))) q2 (.lst (cutV (es[i].2.1.map V.str) none (some (j:Int))))) q3 (.lst ((es[i].2.1.drop j++es[i].2.1.take j).map V.str))) q3=some (.lst ((es[i].2.1.drop j++es[i].2.1.take j).map V.str)):=zab
   generalize upd (upd (upd H4 q1 (.lst (cutV (es[i].2.1.map V.str) (some (j:Int)) none))) q2 (.lst (cutV (es[i].2.1.map V.str) none (some (j:Int))))) q3 (.lst ((es[i].2.1.drop j++es[i].2.1.take j).map V.str))=H5 at k5 ou
   refine⟨(by show 2≤sizeLine;decide),λt ht=>?_⟩
   have k6:Keep [] H4 (upd H5 t (.tup [.str es[i].1,.ref q3])):=k5.trans (Keep.new ht)
   have sS:(upd H5 t (.tup [.str es[i].1,.ref q3])) t=some (.tup [.str es[i].1,.ref q3]):=zab
   have dC:(upd H5 t (.tup [.str es[i].1,.ref q3])) q3=some (.lst ((es[i].2.1.drop j++es[i].2.1.take j).map V.str)):=by rw[zad (zaa ou ht)];exact ou
   generalize upd H5 t (.tup [.str es[i].1,.ref q3])=H6 at k6 sS dC
   have eS:=k6 _ _ gr (by simp)
   refine⟨ro,_,_,n,rfl,rfl,eS,by rw[Qa];lia,by rw[Qa];exact hn,?_⟩
   have einsert:(as.map V.ref).take n++V.ref t::(as.map V.ref).drop n=(as.take n++t::as.drop n).map V.ref:=by
    rw[Qs,Qm,Uj,Uk]
   have nq3ro:q3≠ro:=λz=>by
    have h6:=k5 _ _ gr (by simp)
    have dW:=(zaa (H:=upd (upd H4 q1 (.lst (cutV (es[i].2.1.map V.str) (some (j:Int)) none))) q2 (.lst (cutV (es[i].2.1.map V.str) none (some (j:Int))))) (a:=ro) (b:=q3) (((Keep.new (xs:=[]) h1).trans (Keep.new h2)) _ _ gr (by simp)) h3)
    exact dW z.symm
   have keepro:∀{a:Nc} {u:HO},H6 a=some u→a≠ro→(upd H6 ro (.lst ((as.map V.ref).take n++V.ref t::(as.map V.ref).drop n))) a=some u:=λ{a u} e ne=>by rw[zad ne];exact e
   have tupro:∀{a:Nc} {xs:List V},H6 a=some (.tup xs)→a≠ro:=λ{a xs} e=>zay e eS (by intro z;cases z)
   refine⟨⟨_,_,_,rfl⟩,by rw[zad iU];exact k6 _ _ qE (by simp),(((k2.trans (k3.sub (by simp))).trans (k4.sub (by simp))).trans (k6.sub (by simp))).trans (Keep.wr (by simp)),b4,m4,as.take n++t::as.drop n,aJ.take n++(es[i].1,es[i].2.1.drop j++es[i].2.1.take j,q3)::aJ.drop n,ak.take n++es[i]::ak.drop n,(aI.keep k6 (by simp)).keep (xs:=[ro]) (Keep.wr (by simp)) (by simpa using npr),by rw[zab,einsert],?_,λe he=>?_,?_,?_,λe he=>?_⟩
   ·have h6:Paired (fun a (e:Ent)=>(upd H6 ro (.lst ((as.map V.ref).take n++V.ref t::(as.map V.ref).drop n))) a=some (.tup [.str e.1,.ref e.2.2])) as aJ:=Paired.imp' (fun a e h=>keepro (k6 _ _ h (by simp)) (tupro (k6 _ _ h (by simp)))) j9
    exact zbg (zf4 n h6) (.cons (keepro sS (tupro sS)) (zf5 n h6))
   ·have br:e∈aJ∨e=(es[i].1,es[i].2.1.drop j++es[i].2.1.take j,q3):=by
     rcases Qe.mp he with z | z
     ·exact .inl (We z)
     ·rcases Qd.mp z with y | y
      ·exact .inr y
      ·exact .inl (Ui y)
    rcases br with z | z
    ·exact keepro (k6 _ _ (tj e z) (by simp)) (rowro e z)
    ·rw[z];exact keepro dC nq3ro
   ·rw [Qn hi]
    have:(ak.take n++es[i]::ak.drop n).Perm (es[i]::ak):=by
     refine Jy.trans ?_
     rw[Wc]
    exact this.trans ((List.Perm.cons _ bn).trans (List.perm_append_singleton _ _).symm)
   ·exact zbg (zf4 n cS) (.cons ⟨rfl,j,rfl⟩ (zf5 n cS))
   ·rcases Qe.mp he with z | z
    ·exact rowro e (We z)
    ·rcases Qd.mp z with y | y
     ·rw[y];exact nq3ro
     ·exact rowro e (Ui y)
  ·rintro σ H2 ⟨⟨x3,x4,x5,rfl⟩,hz,k2,b2,m2,as,aJ,ak,bo,kT,eR,gq,bn,cS,rowro⟩
   rw[Qa,Qr (Qf _)]at bn
   refine⟨d,o,_,hz,nfz,?_⟩
   have kf:Keep [p,ro] H1 (upd H2 d (.dK (es.map λe=>((Sum.inr e.1:Key),V.ref e.2.2)))):=λc u ec hc=>by
    by_cases au:c=d
    ·subst au
     rw[zab,←R1.dc];exact ec
    ·rw [zad au]
     refine k2 c u ec ?_
     simp only[Qd,Wq,or_false,not_or]at hc ⊢
     exact⟨hc.1,au,hc.2⟩
   have aV:Pot (upd H2 d (.dK (es.map λe=>((Sum.inr e.1:Key),V.ref e.2.2)))) p b2 m2:=bo.keep (xs:=[d]) (Keep.wr (by simp)) (by simpa using npd)
   have hR3:RwAt (upd H2 d (.dK (es.map λe=>((Sum.inr e.1:Key),V.ref e.2.2)))) ro as aJ:=⟨by rw[zad (Zc iU)];exact kT,Paired.imp' (λa e h=>by rw[zad (zay h hz (by intro z;cases z))];exact h) eR,λe he=>by rw[zad (zay (gq e he) hz (by intro z;cases z))];exact gq e he⟩
   generalize upd H2 d (.dK (es.map λe=>((Sum.inr e.1:Key),V.ref e.2.2)))=H3 at kf aV hR3
   refine⟨_,rfl,λx dx hx hdx ap=>?_⟩
   have k4:Keep [] H3 (upd (upd H3 dx (.own x)) x (.ins C dx [])):=λc u ec _=>by
    rw[zad (zaa ec hx),zad (zaa ec hdx)];exact ec
   have hx4:(upd (upd H3 dx (.own x)) x (.ins C dx [])) x=some (.ins C dx []):=zab
   generalize upd (upd H3 dx (.own x)) x (.ins C dx [])=H4 at k4 hx4
   have iD:=zbj cS
   have lA:aJ.length=es.length:=by rw[Yb cS,bn.length_eq]
   have C1:Cert (aJ.map (·.1)) (row (rsOf aJ)) cs lab:=zgo Ct (by rw[iD];exact bn.map _) (zcs cS bn aB)
   refine⟨x,dx,ro,as,aJ,cs,lab,rfl,hx4,hR3.keep k4,by lia,λe he=>?_,C1,λd2 ts aE H5 wt ax qI k5=>⟨rfl,?_⟩⟩
   ·obtain ⟨e',br,e1,_⟩:=zem cS he
    rw[e1];exact hok e' (bn.mem_iff.mp br)
   ·have oE:(ts.map (·.1)).Perm (es.map (·.1)):=by
     rw[zbj qI]
     refine(ax.map _).trans ?_
     rw[iD];exact bn.map _
    have npx:p≠x:=zaa aV.1 hx
    have oK:(aJ.map (·.1)).Nodup:=by rw[iD];exact(bn.map _).nodup_iff.mpr aB
    refine k x dx d2 ts b2 m2 H5 wt oE (λy=>?_) (zgo C1 (by rw[zbj qI];exact ax.map _) (zcs qI ax oK)) ((aV.keep k4 (by simp)).keep k5 (by simpa using npx)) ?_
    ·obtain ⟨k1,e1⟩:=zcs qI ax oK y
     obtain⟨k2,e2⟩:=zcs cS bn aB y
     rw[e1,e2]
     exact(zfk _ k1).trans (zfk _ k2)
    ·refine fun c u ec hc=>?_
     have ncp:c≠p:=λz=>hc (by simp[z])
     have h3:=kf c u (k1 c u ec (by simp)) (by simp[ncp,zaa ec cV])
     exact k5 c u (k4 c u h3 (by simp)) (by simpa using zaa h3 hx)
end
end K21
end
section
namespace HT
open PySem PyProof.Rows
section
open PySem.SeqAt
open PySem.AutoSeq1 (wpAny_loadPart')
open PySem.MeetsSeq PySem.MeetsSeq2 PySem.MeetsSeq3
end
section
variable{prog:Nj}{w:Nl}{A:Nn}{E:Nb}{s:Nh}
end
end HT
namespace PySem
section
variable{prog:Nj}{w:Nl}{A:Nn}{R:Nw}{I:Nc}{fp wr:Nk}{n:Nat}{P:Nat→Value→Prop}{St:Nat→Heap→Prop}
end
section
variable{prog:Nj}{w:Nl}{A:Nn}{E:Nb}{s:Nh}
end
end PySem
end
section
namespace L2
open PySem PySem.Spec PyProof.Rows
def zda(h1:leS x y)(h2:leS y x):x=y:=Tm.str_ext (List.le_antisymm (Kc.mp h1) (Kc.mp h2))
section
variable{X:Cx}
end
end L2
end
section
namespace Wb
open PySem L2
structure zaz(r:No)(rt:Str)(ks:Nd)(par:Np)(ds:Str→Nat):Prop where
 rk:rt∈ks
 r0:par rt=none
 d0:ds rt=0
 up:∀y∈ks,y≠rt→∃p,p∈ks∧par y=some p∧p∈r y∧ds y=ds p+1∧∀q∈ks,q∈r y→ds q+1=ds y→leS p q
 on:∀x∈ks,∀y∈r x,y∈ks∧ds y≤ds x+1
variable{r r':No}{rt:Str}{ks am:Nd}{par aq:Np}{ds bu:Str→Nat}
def zaz.le(hr:∀x y,y∈r x↔y∈r' x)(sy:∀x y,y∈r x→x∈r y)(a:zaz r rt ks par ds)(b:zaz r' rt am aq bu):∀n y,y∈am→bu y=n→y∈ks∧ds y≤n:=by
 intro n
 induction n using Nat.strongRecOn with
 | ind n ih =>
  intro y hy hn
  by_cases e:y=rt
  ·subst e
   exact⟨a.rk,by rw[a.d0];exact Zi _⟩
  ·obtain ⟨p,hp,_,cM,hd,_⟩:=b.up y hy e
   obtain⟨h1,h2⟩:=ih (bu p) (by omega) p hp rfl
   obtain⟨h3,h4⟩:=a.on p h1 y (sy _ _ ((hr y p).mpr cM))
   exact⟨h3,by omega⟩
def zaz.one(hr:∀x y,y∈r x↔y∈r' x)(sy:∀x y,y∈r x→x∈r y)(a:zaz r rt ks par ds)(b:zaz r' rt am aq bu):∀y∈ks,y∈am∧ds y=bu y∧par y=aq y:=by
 have sy':∀x y,y∈r' x→x∈r' y:=λx y h=>(hr y x).mp (sy _ _ ((hr x y).mpr h))
 have fS:∀x y,y∈r' x↔y∈r x:=λx y=>(hr x y).symm
 have uV:∀y∈ks,y∈am∧ds y=bu y:=λy hy=>by
  obtain⟨h1,h2⟩:=b.le fS sy' a _ y hy rfl
  obtain⟨h3,h4⟩:=a.le hr sy b _ y h1 rfl
  exact⟨h1,by omega⟩
 intro y hy
 obtain⟨h1,h2⟩:=uV y hy
 refine⟨h1,h2,?_⟩
 by_cases e:y=rt
 ·subst e
  rw[a.r0,b.r0]
 ·obtain ⟨p,hp,e1,cM,hd,hl⟩:=a.up y hy e
  obtain⟨p',aW,cO,tJ,iI,u9⟩:=b.up y h1 e
  have q1:=hl p' (a.le hr sy b _ p' aW rfl).1 ((hr _ _).mpr tJ) (by
   have:=(b.le fS sy' a _ p' (a.le hr sy b _ p' aW rfl).1 rfl).2
   have:=(a.le hr sy b _ p' aW rfl).2
   omega)
  have q2:=u9 p (uV p hp).1 ((hr _ _).mp cM) (by rw[←(uV p hp).2];omega)
  rw[e1,cO,zda q1 q2]
inductive zb7(par:Np):List Str→Str→Prop
 |rt {y}:par y=none→zb7 par [y] y
 |up {y p L}:par y=some p→zb7 par L p→zb7 par (L++[y]) y
def zb7.one(a:zb7 par L y):zb7 par L' y→L=L':=by
 induction a generalizing L' with
 |rt h =>
  intro b
  cases b with
  |rt _=>rfl
  |up h' _=>rw[h]at h';cases h'
 | up h _ ih =>
  intro b
  cases b with
  |rt h'=>rw[h]at h';cases h'
  |up h' b' =>
   rw[h]at h'
   cases h'
   rw[ih b']
def zaz.way(a:zaz r rt ks par ds):∀n y,y∈ks→ds y=n→∃L,zb7 par L y∧L.length=n+1:=by
 intro n
 induction n with
 | zero =>
  intro y hy hn
  by_cases e:y=rt
  ·subst e
   exact⟨[y],.rt a.r0,rfl⟩
  ·obtain ⟨p,_,_,_,hd,_⟩:=a.up y hy e
   omega
 |succ n ih =>
  intro y hy hn
  have e:y≠rt:=λe=>by rw[e,a.d0]at hn;omega
  obtain⟨p,hp,e1,_,hd,_⟩:=a.up y hy e
  obtain⟨L,h1,h2⟩:=ih p hp (by omega)
  exact⟨L++[y],.up e1 h1,by rw[Qo,Wd,h2]⟩
def zaz.wlen(a:zaz r rt ks par ds)(hy:y∈ks)(h:zb7 par L y):L.length=ds y+1:=by
 obtain⟨L',h1,h2⟩:=a.way _ y hy rfl
 rw[h.one h1,h2]
def zaz.pre(a:zaz r rt ks par ds)(h:zb7 par L y)(hy:y∈ks):∀z∈L,z∈ks∧∃M B,zb7 par M z∧L=M++B:=by
 induction h with
 |rt h =>
  intro z hz
  rw[Qb.mp hz]
  exact⟨hy,[_],[],.rt h,by simp⟩
 | @up y p L h w ih =>
  have e:y≠rt:=λe=>by rw[e,a.r0]at h;cases h
  obtain⟨p',aW,e1,_⟩:=a.up y hy e
  rw[h]at e1
  cases e1
  intro z hz
  rcases Qe.mp hz with q | q
  ·obtain ⟨h1,M,B,h2,h3⟩:=ih aW z q
   exact⟨h1,M,B++[y],h2,by rw[h3,Qt]⟩
  ·rw [Qb.mp q]
   exact⟨hy,L++[y],[],.up h w,by simp⟩
def Chn(r:No):List Str→Prop
 |[]=>True
 |[_]=>True
 |x::y::t=>x∈r y∧Chn r (y::t)
def chn_snoc(h:Chn r (L++[p]))(hp:p∈r y):Chn r (L++[p]++[y]):=by
 induction L with
 |nil=>exact⟨hp,trivial⟩
 |cons a t ih =>
  cases t with
  |nil=>exact⟨h.1,hp,trivial⟩
  |cons b t=>exact⟨h.1,ih h.2⟩
def zb7.last(a:zb7 par L y):∃M,L=M++[y]:=by
 cases a with
 |rt _=>exact⟨[],rfl⟩
 |up _ _=>exact⟨_,rfl⟩
def zaz.chn(a:zaz r rt ks par ds)(h:zb7 par L y)(hy:y∈ks):Chn r L∧L.Nodup:=by
 induction h with
 |rt h=>exact⟨trivial,Yj _ _⟩
 | @up y p L h w ih =>
  have e:y≠rt:=λe=>by rw[e,a.r0]at h;cases h
  obtain⟨p',aW,e1,cM,hd,_⟩:=a.up y hy e
  rw[h]at e1
  cases e1
  obtain⟨h1,h2⟩:=ih aW
  refine⟨?_,?_⟩
  ·obtain ⟨M,rfl⟩:=w.last
   exact chn_snoc h1 cM
  ·rw [Qy]
   refine⟨h2,Yj _ _,λz hz y' bK e2=>?_⟩
   rw[Qb.mp bK]at e2
   subst e2
   obtain⟨_,M,B,h3,h4⟩:=a.pre w aW z hz
   have l1:=a.wlen hy h3
   have l2:=a.wlen aW w
   rw[h4,Qo]at l2
   omega
end Wb
end
section
namespace Wb
open PySem L2
variable{r:No}{rt:Str}{ks:Nd}{par:Np}{ds:Str→Nat}
def chn_tail(h:Chn r (x::L)):Chn r L:=by
 cases L with
 |nil=>trivial
 |cons y t=>exact h.2
def chn_drop(h:Chn r L):∀A B,L=A++B→Chn r B:=by
 intro A
 induction A generalizing L with
 |nil=>intro B e;rw[e]at h;exact h
 |cons a t ih =>
  intro B e
  subst e
  exact ih (chn_tail h) B rfl
def chn_join(ha:Chn r (A++[x]))(hb:Chn r (y::B))(h:x∈r y):Chn r (A++[x]++y::B):=by
 induction A with
 |nil=>exact⟨h,hb⟩
 |cons a t ih =>
  cases t with
  |nil=>exact⟨ha.1,h,hb⟩
  |cons b t=>exact⟨ha.1,ih ha.2⟩
def chn_rev(sy:∀x y,y∈r x→x∈r y):∀{L:Nd},Chn r L→Chn r L.reverse:=by
 intro L
 induction L with
 |nil=>intro _;trivial
 | cons x t ih =>
  intro h
  rw[Jo]
  cases t with
  |nil=>trivial
  |cons y t =>
   have:=ih h.2
   rw[Jo]at this ⊢
   exact chn_snoc this (sy _ _ h.1)
def chn_pairs(sy:∀x y,y∈r x→x∈r y):∀{L:Nd} {h:Str},Chn r (L++[h])→∀p∈L.zip (L.drop 1++[h]),p.2∈r p.1:=by
 intro L
 induction L with
 |nil=>intro h _ p hp;cases hp
 | cons x t ih =>
  intro h hc p hp
  cases t with
  |nil =>
   have:p=(x,h):=by simpa using hp
   rw[this]
   exact sy _ _ hc.1
  |cons y t =>
   rw[List.drop_succ_cons,List.drop_zero,Um,List.zip_cons_cons]at hp
   rcases Qd.mp hp with z | z
   ·rw[z];exact sy _ _ hc.1
   ·exact ih hc.2 p z
def max_in{L:Nd}{P:Str→Prop}(f:Str→Nat):(∃ z∈L,P z)→∃ z∈L,P z∧∀ w∈L,P w→f w≤f z:=by
 induction L with
 |nil=>rintro⟨z,h,_⟩;cases h
 | cons a t ih =>
  rintro⟨z,hz,hp⟩
  by_cases ht:∃z∈t,P z
  ·obtain ⟨m,h1,h2,h3⟩:=ih ht
   by_cases ha:P a∧f m<f a
   ·refine ⟨a,Qc,ha.1,fun w hw eV=>?_⟩
    rcases Qd.mp hw with q | q
    ·rw[q];exact Qf _
    ·exact Zd (h3 w q eV) (Wx ha.2)
   ·refine ⟨m,Qh _ h1,h2,fun w hw eV=>?_⟩
    rcases Qd.mp hw with q | q
    ·subst q
     exact Xe λz=>ha ⟨eV,z⟩
    ·exact h3 w q eV
  ·rcases Qd.mp hz with q | q
   ·subst q
    refine⟨z,Qc,hp,λw hw eV=>?_⟩
    rcases Qd.mp hw with q | q
    ·rw[q];exact Qf _
    ·exact absurd ⟨w,q,eV⟩ ht
   ·exact absurd ⟨z,q,hp⟩ ht
def ze7(D B:Nd):List Str:=D.drop ((D.filter λz=>decide (z∈B)).length-1)++(B.drop (D.filter λz=>decide (z∈B)).length).reverse
structure zhl(r:No)(L:Nd):Prop where
 three:3≤L.length
 odd:L.length%2=1
 nd:L.Nodup
 tied:∀p∈L.zip (L.drop 1++L.take 1),p.2∈r p.1
def zaz.root_in(a:zaz r rt ks par ds)(h:zb7 par L y)(hy:y∈ks):rt∈L:=by
 induction h with
 | @rt y h =>
  by_cases e:y=rt
  ·rw[e];exact Qc
  ·obtain ⟨p,_,e1,_⟩:=a.up y hy e
   rw[h]at e1;cases e1
 |@up y p L h w ih =>
  have e:y≠rt:=λe=>by rw[e,a.r0]at h;cases h
  obtain⟨p',aW,e1,_⟩:=a.up y hy e
  rw[h]at e1
  cases e1
  exact Ql _ (ih aW)
def zaz.ring(a:zaz r rt ks par ds)(sy:∀ x y,y∈r x→x∈r y){D B:Nd}(hD:zb7 par D x)(hB:zb7 par B y)(hx:x∈ks)(hy:y∈ks)(bZ:x∈r y)(ap:x≠y)(hpar:ds x % 2=ds y % 2) :
  zhl r (ze7 D B)∧(∀z∈ze7 D B,z∈ks)∧1≤(D.filter λz=>decide (z∈B)).length:=by
 obtain⟨z,hzD,hzB,fj⟩:=max_in (L:=D) (P:=λz=>z∈B) ds ⟨rt,a.root_in hD hx,a.root_in hB hy⟩
 obtain⟨dz,M,D',hM,eD⟩:=a.pre hD hx z hzD
 obtain⟨_,M',B',vg,eB⟩:=a.pre hB hy z hzB
 obtain rfl:=hM.one vg
 obtain⟨cD,nD⟩:=a.chn hD hx
 obtain⟨cB,nB⟩:=a.chn hB hy
 have lM:=a.wlen dz hM
 have lD:=a.wlen hx hD
 have lB:=a.wlen hy hB
 subst eD
 subst eB
 rw[Qo]at lD lB
 have far:∀{N N':Nd} {u:Str},(N++N').Nodup→zb7 par (N++N') u→u∈ks→∀w∈N',N.length<ds w+1:=λ{N N' u} nn hw hu w hwN=>by
  obtain⟨me,W,W',h1,h2⟩:=a.pre hw hu w (Qi _ hwN)
  have l1:=a.wlen me h1
  obtain⟨W0,rfl⟩:=h1.last
  refine Nat.lt_of_not_le λiE=>?_
  have sH:w∈N:=by
   have e:N=(N++N').take N.length:=by rw[List.take_append_of_le_length (Qf _),Qr (Qf _)]
   rw[e,h2]
   have:W0++[w]=((W0++[w])++W').take (W0++[w]).length:=by rw[List.take_append_of_le_length (Qf _),Qr (Qf _)]
   have hs:((W0++[w])++W').take (W0++[w]).length <+: ((W0++[w])++W').take N.length:=List.take_prefix_take_left (by rw[l1];exact iE)
   rw[←this]at hs
   exact hs.subset (by simp)
  rw[Qy]at nn
  exact nn.2.2 w sH w hwN rfl
 have offD:∀w∈D',w∉M++B':=λw hw hwB=>by
  have h1:=far nD hD hx w hw
  have h2:=fj w (Qi _ hw) hwB
  omega
 have offB:∀w∈B',w∉M++D':=λw hw hwD=>by
  have h1:=far nB hB hy w hw
  have h2:=fj w hwD (Qi _ hw)
  omega
 have hf:(M++D').filter (λz=>decide (z∈M++B'))=M:=by
  rw[Yq,Jd.mpr λw hw=>decide_eq_true (Ql _ hw),List.filter_eq_nil_iff.mpr λw hw=>by simpa using offD w hw,Zv]
 obtain⟨M0,rfl⟩:=hM.last
 have cX:ze7 (M0++[z]++D') (M0++[z]++B')=z::D'++B'.reverse:=by
  unfold ze7
  rw[hf,Qo,Wd,Nat.add_sub_cancel]
  have e1:(M0++[z]++D').drop M0.length=z::D':=by rw[Qt,List.drop_left];rfl
  have e2:(M0++[z]++B').drop (M0.length+1)=B':=by
   have:M0.length+1=(M0++[z]).length:=by simp
   rw[this,List.drop_left]
  rw[e1,e2]
 have hM1:(M0++[z]).length=M0.length+1:=by simp
 rw[hM1]at lM lD lB
 have cD':Chn r (z::D'):=chn_drop cD M0 _ (by simp)
 have cB':Chn r (z::B'):=chn_drop cB M0 _ (by simp)
 obtain⟨X,eX⟩:=hD.last
 obtain⟨Y,eY⟩:=hB.last
 have lastD:∃A,z::D'=A++[x]:=by
  have h:=congrArg List.getLast? eX
  rcases Jw D' with e | ⟨t,w,e⟩
  ·rw [e] at h
   simp at h
   exact⟨[],by rw[e,h];rfl⟩
  ·rw [Jx] at e
   rw[e]at h
   simp[←List.append_assoc]at h
   exact⟨z::t,by rw[e,h];rfl⟩
 have lastB:∃A,z::B'=A++[y]:=by
  have h:=congrArg List.getLast? eY
  rcases Jw B' with e | ⟨t,w,e⟩
  ·rw [e] at h
   simp at h
   exact⟨[],by rw[e,h];rfl⟩
  ·rw [Jx] at e
   rw[e]at h
   simp[←List.append_assoc]at h
   exact⟨z::t,by rw[e,h];rfl⟩
 obtain⟨A1,vw⟩:=lastD
 obtain⟨A2,vt⟩:=lastB
 have closed:Chn r (z::D'++B'.reverse++[z]):=by
  have h1:Chn r (z::B').reverse:=chn_rev sy cB'
  rw[vt,List.reverse_append,List.reverse_singleton,Jv]at h1
  rw[vw]at cD'
  have:=chn_join cD' h1 bZ
  have e:A1++[x]++y::A2.reverse=z::D'++B'.reverse++[z]:=by
   rw[←vw]
   have:y::A2.reverse=(z::B').reverse:=by rw[vt,List.reverse_append];rfl
   rw[this,Jo,Qt]
  rw[e]at this
  exact this
 have nring:(z::D'++B'.reverse).Nodup:=by
  rw[Qy]
  refine⟨?_,?_,λu hu v hv e=>?_⟩
  ·have:(z::D').Sublist (M0++[z]++D'):=by rw [Qt];exact Kp _ _
   exact nD.sublist this
  ·rw [(Jn B').nodup_iff]
   exact nB.sublist (Kp _ _)
  ·subst e
   have jH:=List.mem_reverse.mp hv
   refine offB u jH ?_
   rcases Qd.mp hu with q | q
   ·rw[q];simp
   ·exact Qi _ q
 have hl:(z::D'++B'.reverse).length=D'.length+B'.length+1:=by
  rw[Qo,Qx,Kj];omega
 rw[cX]
 refine⟨⟨?_,?_,nring,?_⟩,λw hw=>?_,?_⟩
 ·rw [hl]
  have:D'.length+B'.length≠0:=λh0=>by
   have hd:D'=[]:=Uo (by omega)
   have hb:B'=[]:=Uo (by omega)
   subst hd
   subst hb
   have e1:=congrArg List.getLast? vw
   have e2:=congrArg List.getLast? vt
   simp at e1 e2
   exact ap (e1.symm.trans e2)
  omega
 ·rw[hl];omega
 ·exact chn_pairs sy (h:=z) closed
 ·rcases Qe.mp hw with q | q
  ·exact(a.pre hD hx w (by
    rcases Qd.mp q with q | q
    ·rw[q];simp
    ·exact Qi _ q)).1
  ·exact(a.pre hB hy w (Qi _ (List.mem_reverse.mp q))).1
 ·rw[hf,hM1];omega
end Wb
end
section
namespace Wb
open PySem L2 K21
def Rt(ns:Nd)(lab:Nu)(x:Str):Prop:=x∈ns∧∀y∈ns,lab y=lab x→leS x y
structure Clr(ns:Nd)(r:No)(lab:Nu)(c:Str→Int):Prop where
 b:∀x,c x=0∨c x=1
 t:∀x y,y∈r x→c y≠c x
 z:∀x,Rt ns lab x→c x=0
variable{ns:Nd}{r r':No}{lab:Nu}{rt:Str}{ks am:Nd}{par aq:Np}{ds bu:Str→Nat}{c:Str→Int}
def Clr.one(C:Clr ns r lab c)(h:y∈r x):c y=1-c x:=by
 have h1:=C.t x y h
 rcases C.b x with a | a<;>rcases C.b y with b | b<;>omega
def zaz.col(a:zaz r rt ks par ds)(sy:∀x y,y∈r x→x∈r y)(C:Clr ns r lab c)(cU:Rt ns lab rt):∀n y,y∈ks→ds y=n→c y=((n%2:Nat):Int):=by
 intro n
 induction n with
 | zero =>
  intro y hy hn
  by_cases e:y=rt
  ·subst e;exact C.z _ cU
  ·obtain ⟨p,_,_,_,hd,_⟩:=a.up y hy e
   omega
 |succ n ih =>
  intro y hy hn
  have e:y≠rt:=λe=>by rw[e,a.d0]at hn;omega
  obtain⟨p,hp,_,cM,hd,_⟩:=a.up y hy e
  have h1:=ih p hp (by omega)
  have h2:=C.one (sy _ _ cM)
  omega
def zaz.turn(hr:∀x y,y∈r x↔y∈r' x)(a:zaz r rt ks par ds):zaz r' rt ks par ds :=
 ⟨a.rk,a.r0,a.d0,fun y hy e=>by
  obtain⟨p,h1,h2,h3,h4,h5⟩:=a.up y hy e
  exact⟨p,h1,h2,(hr _ _).mp h3,h4,λq hq kX=>h5 q hq ((hr _ _).mpr kX)⟩,λx hx y hy=>a.on x hx y ((hr _ _).mpr hy)⟩
def zb7.turn(a:zaz r rt ks par ds)(hp:∀y∈ks,par y=aq y)(h:zb7 par L y)(hy:y∈ks):zb7 aq L y:=by
 induction h with
 |rt h=>exact .rt (by rw[←hp _ hy];exact h)
 |@up y p L h w ih =>
  have e:y≠rt:=λe=>by rw[e,a.r0]at h;cases h
  obtain⟨p',aW,e1,_⟩:=a.up y hy e
  rw[h]at e1
  cases e1
  exact .up (by rw[←hp _ hy];exact h) (ih aW)
structure Odd(r:No)(ks:Nd)(ds:Str→Nat)(q:Str×Str):Prop where
 k:q.1∈ks
 t:q.2∈r q.1
 l:ltS q.1 q.2=true
 o:ds q.1%2=ds q.2%2
structure zcb(ns:Nd)(r:No)(lab:Nu)(L:Nd):Prop where
 ex:∃rt ks par ds q D B,Rt ns lab rt∧zaz r rt ks par ds∧Odd r ks ds q∧zb7 par D q.1∧zb7 par B q.2∧L=ze7 D B ∧
  (∀gb am aq bu q',Rt ns lab gb→zaz r gb am aq bu→Odd r am bu q'→leS rt gb)∧∀q',Odd r ks ds q'→leP q q'
def zcb.turn(hr:∀x y,y∈r x↔y∈r' x)(a:zcb ns r lab L):zcb ns r' lab L:=by
 obtain⟨rt,ks,par,ds,q,D,B,h1,h2,h3,h4,h5,h6,h7,h8⟩:=a.ex
 have fS:∀x y,y∈r' x↔y∈r x:=λx y=>(hr x y).symm
 have od:∀{ks ds q},Odd r' ks ds q→Odd r ks ds q:=λo=>⟨o.k,(hr _ _).mpr o.t,o.l,o.o⟩
 exact⟨rt,ks,par,ds,q,D,B,h1,h2.turn hr,⟨h3.k,(hr _ _).mp h3.t,h3.l,h3.o⟩,h4,h5,h6,λgb am aq bu q' a1 a2 a3=>h7 gb am aq bu q' a1 (a2.turn fS) (od a3),λq' o=>h8 q' (od o)⟩
def zcb.one(sy:∀x y,y∈r x→x∈r y)(a:zcb ns r lab L)(b:zcb ns r lab L'):L=L':=by
 obtain⟨rt,ks,par,ds,q,D,B,h1,h2,h3,h4,h5,h6,h7,h8⟩:=a.ex
 obtain⟨gb,am,aq,bu,q',D',B',g1,g2,g3,g4,g5,g6,g7,g8⟩:=b.ex
 obtain rfl:rt=gb:=zda (h7 _ _ _ _ _ g1 g2 g3) (g7 _ _ _ _ _ h1 h2 h3)
 have t1:=h2.one (λ_ _=>Iff.rfl) sy g2
 have t2:=g2.one (λ_ _=>Iff.rfl) sy h2
 have o1:Odd r ks ds q':=⟨(t2 _ g3.k).1,g3.t,g3.l,by rw[←(t2 _ g3.k).2.1,←(t2 _ (g2.on _ g3.k _ g3.t).1).2.1];exact g3.o⟩
 have o2:Odd r am bu q:=⟨(t1 _ h3.k).1,h3.t,h3.l,by rw[←(t1 _ h3.k).2.1,←(t1 _ (h2.on _ h3.k _ h3.t).1).2.1];exact h3.o⟩
 obtain rfl:q=q':=leP_anti _ _ (h8 _ o1) (g8 _ o2)
 have w1:=zb7.turn h2 (λy hy=>(t1 y hy).2.2) h4 h3.k
 have w2:=zb7.turn h2 (λy hy=>(t1 y hy).2.2) h5 (h2.on _ h3.k _ h3.t).1
 rw[h6,g6,w1.one g4,w2.one g5]
end Wb
end
section
namespace Wb
open PySem L2 K21
structure BF(r:No)(rt:Str)(ks:Nd)(par:Np)(ds:Str→Nat)(n:Nat)(lay:Nd):Prop where
 rk:rt∈ks
 r0:par rt=none
 d0:ds rt=0
 up:∀y∈ks,y≠rt→∃p,p∈ks∧par y=some p∧p∈r y∧ds y=ds p+1∧∀q∈ks,q∈r y→ds q+1=ds y→leS p q
 le:∀y∈ks,ds y≤n
 ly:∀y,y∈lay↔y∈ks∧ds y=n
 cl:∀x∈ks,ds x<n→∀y∈r x,y∈ks∧ds y≤ds x+1
 nd:ks.Nodup
variable{r:No}{rt:Str}{ks old fo S lay:Nd}{par aq:Np}{ds bu:Str→Nat}{n:Nat}{don jw:Str→Str→Prop}
def BF.init(rt:Str):BF r rt [rt] (λ_=>none) (λ_=>0) 0 [rt] :=
 ⟨Qc,rfl,rfl,λy hy e=>absurd (Qb.mp hy) e,λ_ _=>Qf _,λy=>⟨λh=>⟨h,rfl⟩,λh=>h.1⟩,λ_ _ h=>absurd h (Nat.not_lt_zero _),Yj _ _⟩
def BF.tree(b:BF r rt ks par ds n []):zaz r rt ks par ds :=
 ⟨b.rk,b.r0,b.d0,b.up,λx hx=>b.cl x hx (Nat.lt_of_le_of_ne (b.le x hx) λe=>by cases(b.ly x).mpr ⟨hx,e⟩)⟩
def BF.congr(b:BF r rt ks par ds n lay)(hp:∀y∈ks,aq y=par y)(hd:∀y∈ks,bu y=ds y):BF r rt ks aq bu n lay:=by
 refine⟨b.rk,(hp _ b.rk).trans b.r0,(hd _ b.rk).trans b.d0,λy hy e=>?_,λy hy=>by rw[hd y hy];exact b.le y hy,λy=>?_,λx hx h y hy=>?_,b.nd⟩
 ·obtain ⟨p,h1,h2,h3,h4,h5⟩:=b.up y hy e
  exact⟨p,h1,(hp y hy).trans h2,h3,by rw[hd y hy,hd p h1];exact h4,λq hq kX bm=>h5 q hq kX (by rw[hd q hq,hd y hy]at bm;exact bm)⟩
 ·rw [b.ly]
  exact⟨λh=>⟨h.1,by rw[hd y h.1];exact h.2⟩,λh=>⟨h.1,by rw[←hd y h.1];exact h.2⟩⟩
 ·rw [hd x hx] at h ⊢
  obtain⟨h1,h2⟩:=b.cl x hx h y hy
  exact⟨h1,by rw[hd y h1];exact h2⟩
structure BG(r:No)(rt:Str)(old fo:Nd)(par:Np)(ds:Str→Nat)(n:Nat)(S:Nd)(don:Str→Str→Prop):Prop where
 bf:BF r rt old par ds n S
 f1:∀y∈fo,y∉old∧ds y=n+1∧∃p,p∈S∧par y=some p∧p∈r y∧∀q∈S,q∈r y→leS p q
 f2:fo.Nodup
 f3:∀x y,don x y→y∈old++fo
def BG.init(b:BF r rt old par ds n lay)(h:∀y,y∈S↔y∈lay)(hd:∀x y,¬don x y):BG r rt old [] par ds n S don :=
 ⟨⟨b.rk,b.r0,b.d0,b.up,b.le,λy=>(h y).trans (b.ly y),b.cl,b.nd⟩,λy hy=>(by cases hy),Zk,λx y h=>absurd h (hd x y)⟩
def BG.had(b:BG r rt old fo par ds n S don)(ho:o∈old++fo)(hd:∀x y,jw x y→don x y∨x=p∧y=o):BG r rt old fo par ds n S jw :=
 ⟨b.bf,b.f1,b.f2,λx y h=>(hd x y h).elim (b.f3 x y) λe=>e.2▸ho⟩
def BG.new(b:BG r rt old fo par ds n S don)(ho:o∉old++fo)(hp:p∈S)(hpo:p∈r o)(hl:∀q∈S,q∈r o→leS p q)(hd:∀x y,jw x y→don x y∨x=p∧y=o) :
  BG r rt old (fo++[o]) (λy=>if y=o then some p else par y) (λy=>if y=o then n+1 else ds y) n S jw:=by
 rw[Qe,not_or]at ho
 have ne:∀y∈old,y≠o:=λy hy e=>ho.1 (e▸hy)
 refine⟨b.bf.congr (λy hy=>if_neg (ne y hy)) (λy hy=>if_neg (ne y hy)),λy hy=>?_,?_,λx y h=>?_⟩
 ·rcases Qe.mp hy with z | z
  ·have e:y≠o:=fun e=>ho.2 (e ▸ z)
   obtain⟨h1,h2,p',h3,h4⟩:=b.f1 y z
   refine⟨h1,(if_neg e).trans h2,p',h3,?_⟩
   rw[if_neg e]
   exact h4
  ·have e:=Qb.mp z
   refine⟨by rw[e];exact ho.1,if_pos e,p,hp,if_pos e,by rw[e];exact hpo,by rw[e];exact hl⟩
 ·rw [Qy]
  exact⟨b.f2,Yj _ _,λa ha b' hb e=>ho.2 (by rw[←Qb.mp hb,←e];exact ha)⟩
 ·rw [← Qt]
  rcases hd x y h with z | z
  ·exact Ql _ (b.f3 x y z)
  ·rw[z.2];exact Qi _ Qc
def BG.done(b:BG r rt old fo par ds n S don)(hd:∀ x∈S,∀ y∈r x,don x y):BF r rt (old++fo) par ds (n+1) fo:=by
 have sO:∀x,x∈S→x∈old∧ds x=n:=λx hx=>(b.bf.ly x).mp hx
 refine⟨Ql _ b.bf.rk,b.bf.r0,b.bf.d0,λy hy e=>?_,λy hy=>?_,λy=>?_,λx hx aa y hy=>?_,?_⟩
 ·rcases Qe.mp hy with z | z
  ·obtain ⟨p,h1,h2,h3,h4,h5⟩:=b.bf.up y z e
   refine⟨p,Ql _ h1,h2,h3,h4,λq hq kX bm=>?_⟩
   rcases Qe.mp hq with u | u
   ·exact h5 q u kX bm
   ·have a1:=(b.f1 q u).2.1
    have a2:=b.bf.le y z
    omega
  ·obtain ⟨h1,h2,p,h3,h4,h5,h6⟩:=b.f1 y z
   refine⟨p,Ql _ (sO p h3).1,h4,h5,by rw[h2,(sO p h3).2],λq hq kX bm=>?_⟩
   rcases Qe.mp hq with u | u
   ·exact h6 q ((b.bf.ly q).mpr ⟨u,by omega⟩) kX
   ·have a1:=(b.f1 q u).2.1
    omega
 ·rcases Qe.mp hy with z | z
  ·exact Nat.le_succ_of_le (b.bf.le y z)
  ·rw[(b.f1 y z).2.1];exact Qf _
 ·constructor
  ·exact λh=>⟨Qi _ h,(b.f1 y h).2.1⟩
  ·rintro ⟨h1,h2⟩
   rcases Qe.mp h1 with z | z
   ·have:=b.bf.le y z
    omega
   ·exact z
 ·have hxo:x∈old:=by
   rcases Qe.mp hx with z | z
   ·exact z
   ·have:=(b.f1 x z).2.1
    omega
  by_cases h:ds x<n
  ·obtain ⟨h1,h2⟩:=b.bf.cl x hxo h y hy
   exact⟨Ql _ h1,h2⟩
  ·have md:ds x=n:=by omega
   have h1:=b.f3 x y (hd x ((b.bf.ly x).mpr ⟨hxo,md⟩) y hy)
   refine⟨h1,?_⟩
   rcases Qe.mp h1 with z | z
   ·have:=b.bf.le y z
    omega
   ·rw[(b.f1 y z).2.1,md];exact Qf _
 ·rw [Qy]
  exact⟨b.bf.nd,b.f2,λa ha b' hb e=>(b.f1 b' hb).1 (e▸ha)⟩
end Wb
end
section
namespace L2
open PySem PySem.Spec PyProof.Rows
section
variable{X:Cx}
theorem fm_some{β γ:Type}{f:β→Option γ}{g:β→γ}:∀{l:List β},(∀x∈l,f x=some (g x))→l.filterMap f=l.map g
 |[],_=>rfl
 |a::t,h=>by rw[List.filterMap_cons,h a Qc,Qm,fm_some λx hx=>h x (Qh _ hx)]
def pick_rev(a7:Ni):slicePick a7.toArray none none (some (-1))=a7.reverse.toArray:=by
 unfold slicePick sliceBounds
 simp only[Option.getD_some,show ¬((-1:Int)>0) by decide,if_false,Qw]
 congr 1
 unfold sliceRange
 simp only[show ¬((-1:Int)>0) by decide,if_false]
 have hc:(if((a7.length:Int)-1) > -1 then(((a7.length:Int)-1) - -1 - -1-1)/(- -1) else 0).toNat=a7.length:=by
  split
  ·rw[show(- (-1:Int))=1 from rfl,Int.ediv_one];omega
  ·omega
 rw[hc,List.filterMap_map]
 have hk:∀k∈List.range a7.length,((a7.toArray[·]?)∘λ(k:Nat)=>(((a7.length:Int)-1)+-1*(k:Int)).toNat) k=some (a7.reverse.getD k .none):=λk hk=>by
  have hk:=Ud.mp hk
  have e:(((a7.length:Int)-1)+-1*(k:Int)).toNat=a7.length-1-k:=by omega
  show a7.toArray[(((a7.length:Int)-1)+-1*(k:Int)).toNat]?=_
  rw[e,List.getElem?_toArray,Yh,List.getElem?_reverse hk]
  rw[Qg (by omega)]
  rfl
 rw[fm_some hk]
 apply List.ext_getElem
 ·simp
 ·intro i h1 h2
  have h3:i<a7.reverse.length:=h2
  rw[Zs,List.getElem_range,Yh,Qg h3]
  rfl
def pe_rev(he:PE X e te):PE X (.Subscript e (.Slice none none (some (.UnaryOp .USub (.Constant (.int 1) k p4) p3)) p2) pos) (λ σ H Q=>te σ H λx H1=>Ex2 λa xs=>Aj3 (x=.ref a) (SqL X.K H1 a xs) (∀p,H1 p=none→Q (.ref p) (upd H1 p (.lst xs.reverse)))):=by
 intro a0 s σ H Q I h
 refine Subscript_ (thn (he a0 s σ H _ I h) λv s1 ⟨x,H1,I1,r1,a,xs,ex,hx,q⟩=>?_)
 subst ex
 cases r1
 refine wpAny_Slice (thn (zby (X:=X) a0 s1 σ H1 (λo H'=>o=none∧H'=H1) I1 ⟨rfl,rfl⟩) λvl s2 ⟨l,H2,I2,pl,el,eh⟩=>?_)
 subst el;subst eh
 refine thn (zby (X:=X) a0 s2 σ H2 (λo H'=>o=none∧H'=H2) I2 ⟨rfl,rfl⟩) λvu s3 ⟨l,H3,I3,pu,el,eh⟩=>?_
 subst el;subst eh
 refine thn (zb8 (X:=X) (pe_un un_neg (zal (X:=X))) a0 s3 σ H3 (λo H'=>o=some (-1)∧H'=H3) I3 ⟨_,rfl,_,rfl,rfl,rfl⟩) λvs s4 ⟨l,H4,I4,ps,el,eh⟩=>?_
 subst el;subst eh
 have I5:Inv X a0 σ H4 {s4 with heap:=s4.heap.push {cls:=.type "slice",data:=.fields #[vl,vu,vs]}}:=I4.kept (t':=s4.toks) λb ob q=>Qj _ q
 obtain⟨a7,r,ht,hz⟩:=I5.list hx
 have a9:=r.length
 show wpAny (model X.prog X.w) X.A (subscriptTail e (.Slice none none (some (.UnaryOp .USub (.Constant (.int 1) k p4) p3)) p2) (.ref a) (.ref s4.heap.objs.size)) (EP X a0 σ Q) X.xe {s4 with heap:=s4.heap.push {cls:=.type "slice",data:=.fields #[vl,vu,vs]}}
 refine tail_any (ops:=[.ref a,.ref s4.heap.objs.size]) ht.isList.typeIs slot_list_getitem.lookup ?_ (by with_unfolding_all rfl)
 refine wpAny_getItem_list_slice ht.isList (Heap.IsSliceOf.new ..) pl pu ps (by decide) ?_ (by rw[Qw]<;>exact zdz ‹_› ‹_›)
 rw[pick_rev]
 refine⟨.ref _,_,I5.laid (t':=s4.toks) (o:=.lst xs.reverse) (λb ob q=>Qj _ q) (Qf _) ?_,rfl,q _ (I5.hok.fresh (Qf _))⟩
 exact⟨by rw[Kj];exact hz,_,0,r.reverse,Za _ rfl⟩
def any_range(bs:List Bool):(List.range bs.length).any (λi=>bs.getD i true)=bs.any id:=by
 rw[Yf,Ym,Ym]
 constructor
 ·rintro ⟨i,hi,h⟩
  have dM:=Ud.mp hi
  simp[List.getD,dM]at h
  exact⟨_,Qq dM,h⟩
 ·rintro ⟨x,hx,h⟩
  obtain⟨i,hi,e⟩:=Zo hx
  refine⟨i,Ud.mpr hi,?_⟩
  simp[List.getD,hi,e]
  exact h
def call_any(hc:X.calm=true):zb4 X (.builtin "any") (λxs H Q=>Ex2 λ(p:Nc) (bs:List Bool)=>Aj3 (xs=[.ref p]) (SqL X.K H p (bs.map V.bl)) (Q (.bl (bs.any id)) H)):=by
 intro a0 s σ H xs us Q I r h
 obtain⟨p,bs,rfl,hq,q⟩:=h
 obtain⟨u,rfl,rx⟩:=vals1 r
 cases rx
 refine call_any_walk (zfg hc I hq λa7 It h1 rv W st lt keep=>⟨It,_,_,_,_,_,λi=>bs.getD i true,rfl,W,st,λi v s' Q' E' e q'=>?_,λh' tk k=>⟨.bl (bs.any id),H,keep h' tk k,?_,q⟩⟩)
 ·have e':=zel rv i v (by simpa using e)
  subst e'
  exact wpAny_truthy_bool q'
 ·have ah:=rv.length
  rw[Qa]at ah
  show Value.bool _=Value.bool _
  rw[Qw,←ah,any_range]
inductive RrDClear(x:V)(vs:List V)(H:Hp)(Q:VK):Prop
 |mk (a:Nc) (kvs:List (Key×V)) (h0:x=.ref a) (h1:vs=[]) (h2:H a=some (.dK kvs)) (h3:Q .non (upd H a (.dK []))):RrDClear x vs H Q
def rDClear:V→List V→Hp→VK→Prop:=λx vs H Q=>RrDClear x vs H Q
def mt_dclear:MtM X "dict.clear" rDClear:=by
 intro a0 s σ H x vs v us Q I rx rv h
 obtain⟨a,kvs,rfl,rfl,e,q⟩:=h
 cases rx
 have iY:=rv.zero
 subst iY
 obtain⟨z,hd,vs,rel,dd⟩:=dk_of I.hok e
 refine call_meetsIn PySem.F.slot_dict_clear dd.typeIs PySem.F.entry_dict_clear (PySem.F.args_dict_clear_1 _) (meets_dict_clear (zap X.prog X.w) a) ⟨vs,dd,by rw[←rel.length];exact z,λh' iS hs=>?_⟩
 have he:∃q,h'.get? a=some q:=let⟨q,_,_,hq,_⟩:=iS;⟨q,hq⟩
 exact⟨.non,_,zih (t':=s.toks) I (by rw[e];exact True.intro) hs he (dk_new (kvs:=[]) (Zi _) hd .nil iS),rfl,q⟩
end
end L2
end
section
namespace K21
open PySem L2 Wb
abbrev zht:Stmt:=inClass sWeb 2
abbrev sTree:Stmt:=top 15
def dof(ks:Nd)(F:Str→V):List (Key×V):=ks.map λy=>((Sum.inr y:Key),F y)
def zgm(h:x∉ks):valV (dof ks F) (Sum.inr x)=none:=by
 unfold dof
 induction ks with
 |nil=>rfl
 |cons a t ih =>
  rw[Qd,not_or]at h
  rw[Qm,zbm]
  ·exact ih h.2
  ·intro q;exact h.1 (Wr q).symm
def zcp(h:x∈ks):valV (dof ks F) (Sum.inr x)=some (F x):=by
 unfold dof
 induction ks with
 |nil=>cases h
 | cons a t ih =>
  rw[Qm]
  by_cases e:a=x
  ·rw[zcl (by rw[e]),e]
  ·rw [zbm (fun q=>e (Wr q))]
   rcases Qd.mp h with z | z
   ·exact absurd z.symm e
   ·exact ih z
def zdc(h:∀y∈ks,F y=G y):dof ks F=dof ks G:=Yz λy hy=>by rw[h y hy]
def dof_new(h:x∉ks):putK (dof ks F) (Sum.inr x) (F x)=dof (ks++[x]) F:=by
 rw[zd7 _ (zgm h)];unfold dof;rw[List.map_append];rfl
def dof_put(h:x∉ks)(v:V):putK (dof ks F) (Sum.inr x) v=dof (ks++[x]) λy=>if y=x then v else F y:=by
 rw[zdc (G:=λy=>if y=x then v else F y) λy hy=>by rw[if_neg (λe=>h (by rw[←e];exact hy))]]
 have:=dof_new (F:=λy=>if y=x then v else F y) h
 rw[if_pos rfl]at this
 exact this
def ze0(ks:Nd)(F:Str→V):(dof ks F).length=ks.length:=Qa ..
def Keep.fr(k:Keep [] H H')(h:H a=none):Keep [] H (upd H' a o):=λc u ec hc=>by rw[zad (zaa ec h)];exact k c u ec hc
inductive zhj(C:Nc)(vs:List V)(H:Hp)(Q:VK):Prop
 |mk (x dx d:Nc) (es:List Ent) (e:Ent) (h0:vs=[.ref x,.str e.1]) (h1:WAt H C x dx d es) (h2:e∈es) (h3:∀l,H l=none→Q (.ref l) (upd H l (.lst (e.2.1.map V.str)))):zhj C vs H Q
def spRoundOf(C:Nc):Sp:=λvs H Q _=>zhj C vs H Q
def parV(par:Np)(y:Str):V:=match par y with
 |none=>.non
 |some p=>.str p
inductive IspTree(C:Nc)(vs:List V)(H:Hp)(Q:VK):Prop
 |mk (x dx d:Nc) (es:List Ent) (rt:Str) (h0:vs=[.ref x,.str rt]) (h1:WAt H C x dx d es) (h2:es.length≤60) (h3:rt∈es.map (·.1)) (h4:∀a b,b∈row (rsOf es) a→a∈row (rsOf es) b) (h5:∀a b,b∈row (rsOf es) a→b∈es.map (·.1)) (h6:∀e∈es,e.2.1.length≤100)
  (h7:∀(l:Nc) (ks:Nd) (par:Np) (ds:Str→Nat) (H':Hp),H' l=some (.dK (dof ks (parV par)))→zaz (row (rsOf es)) rt ks par ds→ks.Nodup→(∀y∈ks,y∈es.map (·.1))→H l=none→Keep [] H H'→Q (.ref l) H'):IspTree C vs H Q
def spTree(C:Nc):Sp:=λvs H Q _=>IspTree C vs H Q
section
variable{P:Nj}{w:Nl}{K:Na}{mg:Ng}{base:Nm}
def scRoundOf:zaq ["self", "place"] ["self", "place"] (zag zht):=⟨rfl,rfl,rfl,by decide +kernel,rfl,by decide +kernel,by decide +kernel⟩
def ok_roundof(F:Fun K "round_of" "Web.round_of" zht f fd)(cW:Cls K C)(nW:zdg K C "rounds")(d7:mg "list" = none):FnOk P w K mg base CX0 1 f fd ["self", "place"] (spRoundOf C):=by
 refine F.ok scRoundOf (λvs H Q E h=>?_) (λcdv A outer s H vs Q E hr h=>?_)
 ·obtain ⟨x,dx,d,es,e,rfl,_⟩:=h
  rfl
 ·obtain ⟨x,dx,d,es,e,rfl,wt,he,k⟩:=h
  have hu:=zb9 hr
  refine⟨_,zae (zb5 (zdq (zbz hu (pv 1) (zg5 (pv 0) rfl))) (zah zfe) za0)
   (zah (zbe (zct call_list_of (by rfl) d7 Xi (zac (zat hu (zg5 (pv 0) rfl) (pv 1) (λ_ _=>rfl)) zaf)))),?_⟩
  have g:=DGet.k (k:=Sum.inr e.1) wt.ta.dc
  rw[zbv wt.ta.nd he]at g
  refine⟨_,rfl,_,rfl,x,C,dx,_,_,rfl,wt.ob,cW,nW,rfl,d,_,rfl,g,_,rfl,za5 rfl ?_⟩
  exact⟨_,rfl,x,C,dx,_,_,rfl,wt.ob,cW,nW,rfl,_,rfl,d,_,rfl,g,e.2.2,_,rfl,.inr (SqT.of (wt.ta.ro e he)),k⟩
def zfv:zaq ["web", "root", "parents", "layer", "found", "place", "other"] ["web", "root"] (zag sTree):=⟨rfl,rfl,rfl,by decide +kernel,rfl,by decide +kernel,by decide +kernel⟩
def ok_tree(F:Fun K "tree" "tree" sTree f fd)(cW:Cls K C)(nW:zdg K C "rounds")(mR:Meth K C "round_of" fr)(bR:Binds K fdr ["self", "place"] [])(GR:FnOk P w K mg base CX0 1 fr fdr ["self", "place"] (spRoundOf C))(ay:mg "sorted" = none):FnOk P w K mg base CX0 2 f fd ["web", "root"] (spTree C):=by
 refine F.ok zfv (λvs H Q E h=>?_) (λcdv A outer s H vs Q E hr h=>?_)
 ·obtain ⟨x,dx,d,es,rt,rfl,_⟩:=h
  rfl
 ·obtain ⟨x,dx,d,es,rt,rfl,wt,aN,cU,sy,inn,aR,k⟩:=h
  have hu:=zb9 hr
  have aG:sizeLine=16777216:=sizeLine_eq
  refine⟨_,zae (zb5 (zdq (zbz hu (pv 1) (zg5 (pv 0) rfl))) (zah zfe) za0)
   (zae (zam (i:=2) zfv.nd rfl (Or.inl rfl) (pe_disp (pps_cons (pv 1) pe_non pps_nil) rfl rfl (by decide) (by decide)))
   (zae (zam (i:=3) zfv.nd rfl (Or.inl rfl) (zbh (zac (pv 1) zaf)))
   (zae (zdl Zh (zd8 (pv 3) (fun _=>rfl))
    (zae (zam (i:=4) zfv.nd rfl (Or.inl rfl) (zbh zaf))
    (zae (zbc Zh rfl (zav (zai zc4 (by rfl) ay Yd (zac (pv 3) zaf))) (zaj (i:=5) zfv.nd rfl (Or.inl rfl))
     (zah (zbc Zh rfl (zav (pe_meth (pl:=_) (pv 0) cW mR GR hr bR .nil zaw (zac (pv 5) zaf))) (zaj (i:=6) zfv.nd rfl (Or.inl rfl))
      (zah (zb5 (zdq (zbz hu (pv 6) (pv 2)))
       (zae (zce hu (pv 2) (pv 6) (pv 5) rfl)
       (zah (za6 (zd9 Zm Yo Yn zb0 (pv 4) (zac (pv 6) zaf))))) za0)))))
    (zah (zam (i:=3) zfv.nd rfl (Or.inl rfl) (pv 4))))))
   (zah (zbe (pv 2)))))),?_⟩
  have aB:(es.map (·.1)).Nodup:=wt.ta.nd
  have af:∀e∈es,row (rsOf es) e.1=e.2.1:=λe he=>zbb aB he
  generalize row (rsOf es)=r at sy inn k af
  generalize bG:es.map (·.1)=ns at aB cU inn k
  have ji:ns.length=es.length:=by rw[←bG,Qa]
  obtain⟨e0,uU,her⟩:=Qk.mp (by rw[bG];exact cU:rt∈es.map (·.1))
  have uP:e0.1=rt:=her
  have g0:=DGet.k (k:=Sum.inr e0.1) wt.ta.dc
  rw[zbv wt.ta.nd uU,uP]at g0
  refine⟨_,rfl,_,rfl,x,C,dx,_,_,rfl,wt.ob,cW,nW,rfl,d,_,rfl,g0,_,rfl,za5 rfl ?_⟩
  refine λpa fg=>⟨_,rfl,zab,[(Sum.inr rt,.non)],rfl,(by show 1≤15;decide),?_⟩
  have jL:(zge [] [((Sum.inr rt:Key),V.non)])=dof [rt] (parV λ_=>none):=rfl
  rw[jL]
  have k1:Keep [] H (upd (upd H pa (.dK [])) pa (.dK (dof [rt] (parV λ_=>none)))):=by rw[upd_upd];exact Keep.new fg
  have fW:(upd (upd H pa (.dK [])) pa (.dK (dof [rt] (parV λ_=>none)))) pa=some (.dK (dof [rt] (parV λ_=>none))):=zab
  generalize upd (upd H pa (.dK [])) pa (.dK (dof [rt] (parV λ_=>none)))=H1 at k1 fW
  refine⟨_,rfl,(by show 1≤sizeLine;decide),λl1 aS=>?_⟩
  have npl:pa≠l1:=zaa fW aS
  refine⟨λm σ H'=>Ex7 λ(lay ks:Nd) (par:Np) (ds:Str→Nat) (n:Nat) (la:Nc) (fo:Nc)=>Aj9 (m=2*(ns.length-ks.length)+(if lay=[] then 0 else 1)) (Ex3 λx4 x5 x6=>σ=[some (.ref x),some (.str rt),some (.ref pa),some (.ref la),x4,x5,x6]) (H' pa=some (.dK (dof ks (parV par)))) (H' la=some (.lst (lay.map V.str))) (BF r rt ks par ds n lay) (∀y∈ks,y∈ns) (la≠pa) lay.Nodup (Keep [] H H'),
   ⟨_,[rt],[rt],_,_,0,l1,l1,rfl,⟨none,none,none,rfl⟩,by rw[zad npl];exact fW,zab,BF.init rt,λy hy=>(by rw[Qb.mp hy];exact cU),Zc npl,Yj _ _,k1.trans (Keep.new aS)⟩,?_⟩
  rintro m σ H2 ⟨lay,ks,par,ds,n,la,_,rfl,⟨x4,x5,x6,rfl⟩,bo,lj,bf,aZ,nlp,oP,k2⟩
  refine⟨_,rfl,_,.inl ⟨_,SqL.of lj,rfl⟩,?_⟩
  have c9:ks.length≤ns.length:=zba bf.nd aZ
  by_cases iE:lay=[]
  ·subst iE
   refine za5 rfl ⟨_,rfl,k pa ks par ds H2 bo bf.tree bf.nd aZ fg k2⟩
  ·refine zb6 (by cases lay with
    |nil=>exact absurd rfl iE
    |cons _ _=>rfl) ?_
   refine⟨_,λ σ' H' zz=>zz,?_⟩
   refine⟨(by show 0≤sizeLine;decide),λfo dq=>?_⟩
   have npf:pa≠fo:=zaa bo dq
   have nlf:la≠fo:=zaa lj dq
   have ffo:H fo=none:=zbi k2 dq (by simp)
   have k3:Keep [] H (upd H2 fo (.lst [])):=k2.trans (Keep.new dq)
   have aV:(upd H2 fo (.lst [])) pa=some (.dK (dof ks (parV par))):=by rw[zad npf];exact bo
   have oQ:(upd H2 fo (.lst [])) la=some (.lst (lay.map V.str)):=by rw[zad nlf];exact lj
   have aL:(upd H2 fo (.lst [])) fo=some (.lst (([]:List Str).map V.str)):=zab
   generalize upd H2 fo (.lst [])=H3 at k3 aV oQ aL
   refine⟨_,rfl,la,lay,rfl,SqL.of oQ,λls S qU rh hSs=>?_⟩
   have npls:pa≠ls:=zaa aV qU
   have nfls:fo≠ls:=zaa aL qU
   have k4:Keep [] H (upd H3 ls (.lst (S.map V.str))):=k3.trans (Keep.new qU)
   have li:(upd H3 ls (.lst (S.map V.str))) ls=some (.lst (S.map V.str)):=zab
   have aI:(upd H3 ls (.lst (S.map V.str))) pa=some (.dK (dof (ks++[]) (parV par))):=by rw[zad npls,Zv];exact aV
   have bq:(upd H3 ls (.lst (S.map V.str))) fo=some (.lst (([]:List Str).map V.str)):=by rw[zad nfls];exact aL
   have fls:H ls=none:=zbi k3 qU (by simp)
   generalize upd H3 ls (.lst (S.map V.str))=H4 at k4 li aI bq
   have hSl:S.length≤60:=by
    rw[rh.length_eq]
    have:=zba oP λy hy=>aZ y ((bf.ly y).mp hy).1
    omega
   refine⟨ls,rfl,⟨_,SqL.of li⟩,zco (zs:=S) (λi σ H'=>Ex3 λ(fl:Nd) (par:Np) (ds:Str→Nat)=>Aj7 (Ex2 λx5 x6=>σ=[some (.ref x),some (.str rt),some (.ref pa),some (.ref la),some (.ref fo),x5,x6]) (H' pa=some (.dK (dof (ks++fl) (parV par)))) (H' fo=some (.lst (fl.map V.str))) (H' ls=some (.lst (S.map V.str))) (BG r rt ks fl par ds n S λx y=>x∈S.take i∧y∈r x) (∀y∈fl,y∈ns) (Keep [] H H'))
    ⟨[],par,ds,⟨_,_,rfl⟩,aI,bq,li,BG.init bf (λy=>rh.mem_iff) (λx y h=>by cases h.1),λy hy=>(by cases hy),k4⟩ (λi σ H' _ hh=>by obtain⟨_,_,_,h⟩:=hh;exact SqL.of h.h3) ?_ ?_⟩
   ·rintro i hi σ H5 ⟨fl,kq,vG,⟨x5,x6,rfl⟩,ax,ca,lh,bg,my,k5⟩
    have rj:S[i]∈S:=Qq hi
    have hSn:S[i]∈ns:=aZ _ ((bf.ly _).mp (rh.mem_iff.mp rj)).1
    obtain⟨en,az,uR⟩:=Qk.mp (by rw[bG];exact hSn:S[i]∈es.map (·.1))
    have jR:en.1=S[i]:=uR
    have c8:r S[i]=en.2.1:=by rw[←jR];exact af en az
    have lA:=aR en az
    have np:WAt H5 C x dx d es:=wt.keep k5 (by simp) (by simp) (λ_ _=>by simp)
    refine⟨_,rfl,x,dx,_,rfl,np.ob,rfl,_,rfl,x,dx,d,es,en,by rw[jR];rfl,np,az,λq hq=>?_⟩
    have fq:H q=none:=zbi k5 hq (by simp)
    have npq:pa≠q:=zaa ax hq
    have nfq:fo≠q:=zaa ca hq
    have nlq:ls≠q:=zaa lh hq
    refine⟨q,rfl,⟨_,SqL.of zab⟩,zco (zs:=en.2.1) (λj σ H'=>Ex3 λ(fl:Nd) (par:Np) (ds:Str→Nat)=>Aj8 (Ex1 λx6=>σ=[some (.ref x),some (.str rt),some (.ref pa),some (.ref la),some (.ref fo),some (.str S[i]),x6]) (H' pa=some (.dK (dof (ks++fl) (parV par)))) (H' fo=some (.lst (fl.map V.str))) (H' ls=some (.lst (S.map V.str))) (H' q=some (.lst (en.2.1.map V.str))) (BG r rt ks fl par ds n S λx y=>x∈S.take i∧y∈r x∨x=S[i]∧y∈en.2.1.take j) (∀y∈fl,y∈ns) (Keep [] H H'))
     ⟨fl,kq,vG,⟨_,rfl⟩,by rw[zad npq];exact ax,by rw[zad nfq];exact ca,by rw[zad nlq];exact lh,zab,⟨bg.bf,bg.f1,bg.f2,λx y h=>h.elim (bg.f3 x y) λh=>by cases h.2⟩,my,k5.trans (Keep.new hq)⟩ (λj σ H' _ hh=>by obtain⟨_,_,_,h⟩:=hh;exact SqL.of h.h4) ?_ ?_⟩
    ·rintro j hj σ H6 ⟨du,bd,vF,⟨y6,rfl⟩,aX,df,jk,dC,ig,dh,k6⟩
     have jK:en.2.1[j]∈r S[i]:=by rw[c8];exact Qq hj
     have tk:en.2.1.take (j+1)=en.2.1.take j++[en.2.1[j]]:=Qn hj
     generalize en.2.1[j]=o at jK tk
     have pI:∀x y,(x∈S.take i∧y∈r x∨x=S[i]∧y∈en.2.1.take (j+1))→(x∈S.take i∧y∈r x∨x=S[i]∧y∈en.2.1.take j)∨x=S[i]∧y=o:=λx y h=>by
      rcases h with h | ⟨h1,h2⟩
      ·exact .inl (.inl h)
      ·rw [tk] at h2
       rcases Qe.mp h2 with z | z
       ·exact .inl (.inr ⟨h1,z⟩)
       ·exact .inr ⟨h1,Qb.mp z⟩
     have g6:=DGet.k (k:=Sum.inr o) aX
     by_cases ho:o∈ks++du
     ·rw [zcp ho] at g6
      refine⟨_,rfl,_,rfl,pa,_,rfl,g6,_,rfl,za5 rfl ?_⟩
      exact⟨du,bd,vF,⟨_,rfl⟩,aX,df,jk,dC,ig.had ho pI,dh,k6⟩
     ·rw [zgm ho] at g6
      have u4:(ks++du).length≤ns.length:=zba (by
       rw[Qy]
       exact⟨ig.bf.nd,ig.f2,λa ha b hb e=>(ig.f1 b hb).1 (e▸ha)⟩) λy hy=>(Qe.mp hy).elim (aZ y) (dh y)
      refine⟨_,rfl,_,rfl,pa,_,rfl,g6,_,rfl,zb6 rfl ?_⟩
      refine⟨_,rfl,_,rfl,_,rfl,pa,_,rfl,DPut.k (k:=Sum.inr o) aX (by rw[ze0];omega),?_⟩
      have ed:putK (dof (ks++du) (parV bd)) (Sum.inr o) (V.str S[i])=dof (ks++(du++[o])) (parV λy=>if y=o then some S[i] else bd y):=by
       rw[dof_put ho,Qt]
       congr 1
       funext y
       unfold parV
       by_cases e:y=o
       ·rw[if_pos e];dsimp only;rw[if_pos e]
       ·rw[if_neg e];dsimp only;rw[if_neg e]
      rw[ed]
      have rT:fo≠pa:=Zc npf
      have fF:(upd H6 pa (.dK (dof (ks++(du++[o])) (parV λy=>if y=o then some S[i] else bd y)))) fo=some (.lst (du.map V.str)):=by rw[zad rT];exact df
      have oO:(upd H6 pa (.dK (dof (ks++(du++[o])) (parV λy=>if y=o then some S[i] else bd y)))) ls=some (.lst (S.map V.str)):=by rw[zad (Zc npls)];exact jk
      have hq7:(upd H6 pa (.dK (dof (ks++(du++[o])) (parV λy=>if y=o then some S[i] else bd y)))) q=some (.lst (en.2.1.map V.str)):=by rw[zad (Zc npq)];exact dC
      have bw:(upd H6 pa (.dK (dof (ks++(du++[o])) (parV λy=>if y=o then some S[i] else bd y)))) pa=some (.dK (dof (ks++(du++[o])) (parV λy=>if y=o then some S[i] else bd y))):=zab
      have k7:Keep [] H (upd H6 pa (.dK (dof (ks++(du++[o])) (parV λy=>if y=o then some S[i] else bd y)))):=k6.fr fg
      generalize upd H6 pa (.dK (dof (ks++(du++[o])) (parV λy=>if y=o then some S[i] else bd y)))=H7 at fF oO hq7 bw k7
      refine⟨_,rfl,.inl ⟨rfl,_,SqL.of fF⟩,_,rfl,fo,_,_,rfl,rfl,fF,by rw[Qo]at u4;rw[Qa];omega,?_⟩
      refine⟨du++[o],_,_,⟨_,rfl⟩,by rw[zad npf];exact bw,by rw[zab,Qs];rfl,by rw[zad (Zc nfls)];exact oO,by rw[zad (Zc nfq)];exact hq7,ig.new ho rj (sy _ _ jK) (λz hz nM=>?_) pI,λy hy=>?_,k7.fr ffo⟩
      ·obtain ⟨t,ht,rfl⟩:=Zo hz
       rcases Kt t i with c | c | c
       ·refine absurd (ig.f3 S[t] o (.inl ⟨?_,sy _ _ nM⟩)) ho
        rw[←Ws (j:=i) (h:=by rw[Zn];omega)]
        exact Qq _
       ·subst c;exact λz=>Ya _ z
       ·exact Wf.mp (hSs (by rw[←rh.length_eq];omega)) i t hi ht c
      ·rcases Qe.mp hy with z | z
       ·exact dh y z
       ·rw[Qb.mp z];exact inn _ _ jK
    ·rintro σ H6 ⟨du,bd,vF,⟨y6,rfl⟩,aX,df,jk,dC,ig,dh,k6⟩
     refine⟨du,bd,vF,⟨_,_,rfl⟩,aX,df,jk,⟨ig.bf,ig.f1,ig.f2,λx y h=>ig.f3 x y ?_⟩,dh,k6⟩
     rw[Qa,Qr (Qf _)]
     rw[Qn hi]at h
     rcases Qe.mp h.1 with z | z
     ·exact .inl ⟨z,h.2⟩
     ·have e:=Qb.mp z
      exact .inr ⟨e,by rw[←c8,←e];exact h.2⟩
   ·rintro σ H5 ⟨fl,kq,vG,⟨x5,x6,rfl⟩,ax,ca,lh,bg,my,k5⟩
    have hb:=bg.done λx hx y hy=>⟨by rw[Qa,Qr (Qf _)];exact hx,hy⟩
    have u4:(ks++fl).length≤ns.length:=zba hb.nd λy hy=>(Qe.mp hy).elim (aZ y) (my y)
    rw[Qo]at u4
    refine⟨_,rfl,_,?_,fl,ks++fl,kq,vG,n+1,fo,fo,rfl,⟨_,_,_,rfl⟩,ax,ca,hb,λy hy=>(Qe.mp hy).elim (aZ y) (my y),Zc npf,bg.f2,k5⟩
    rw[if_neg iE,Qo]
    by_cases mz:fl=[]
    ·rw[if_pos mz,mz,Wu];omega
    ·rw [if_neg mz]
     have:=Ul.mpr mz
     omega
end
abbrev sWay:Stmt:=top 16
abbrev sRing:Stmt:=top 17
abbrev sPcs:Stmt:=top 6
inductive IspWay(vs:List V)(H:Hp)(Q:VK):Prop
 |mk (u:Nc) (r:No) (rt:Str) (ks:Nd) (par:Np) (ds:Str→Nat) (y:Str) (h0:vs=[.ref u,.str y]) (h1:H u=some (.dK (dof ks (parV par)))) (h2:zaz r rt ks par ds) (h3:y∈ks) (h4:ks.length≤100)
  (h5:∀(l:Nc) (L:Nd) (H':Hp),H' l=some (.lst (L.map V.str))→zb7 par L y→H l=none→Keep [] H H'→Q (.ref l) H'):IspWay vs H Q
def spWay:Sp:=λvs H Q _=>IspWay vs H Q
inductive IspRing(vs:List V)(H:Hp)(Q:VK):Prop
 |mk (u:Nc) (r:No) (rt:Str) (ks:Nd) (par:Np) (ds:Str→Nat) (y z:Str) (h0:vs=[.ref u,.str y,.str z]) (h1:H u=some (.dK (dof ks (parV par)))) (h2:zaz r rt ks par ds) (h3:y∈ks) (h3':z∈ks) (h4:ks.length≤100)
  (h5:∀(l:Nc) (D B:Nd) (H':Hp),H' l=some (.lst ((ze7 D B).map V.str))→zb7 par D y→zb7 par B z→H l=none→Keep [] H H'→Q (.ref l) H'):IspRing vs H Q
def spRing:Sp:=λvs H Q _=>IspRing vs H Q
inductive IspPcs(C:Nc)(vs:List V)(H:Hp)(Q:VK):Prop
 |mk (x dx d:Nc) (es:List Ent) (cs:List (List (Str×Str))) (lab:Nu) (h0:vs=[.ref x]) (h1:WAt H C x dx d es) (h2:es.length≤60) (h3:Cert (es.map (·.1)) (row (rsOf es)) cs lab)
  (h4:∀(l:Nc) (as:Nk) (zss:List (List Str)) (H':Hp),H' l=some (.lst (as.map V.ref))→Paired (zfd H') as zss→(∀zs∈zss,zgr (es.map (·.1)) lab zs)→InRow (es.map (·.1)) zss→Keep [] H H'→Q (.ref l) H'):IspPcs C vs H Q
def spPcs(C:Nc):Sp:=λvs H Q _=>IspPcs C vs H Q
abbrev zhf:Scope:=scOf (aOf 0 (eOf (sAt sRing 2)))
def csRing_k:zhf.kind=.function:=by rfl
def csRing_c:∀y∈zhf.names,y.2≠.cell:=by decide +kernel
def csRing_n:∀y∈zhf.names,y.2=.local→zhf.names.lookup y.1=some .local:=by decide +kernel
def csRing_f:∀y∈zhf.names,y.2=.free→(zag sRing).names.lookup y.1=some .cell∨(zag sRing).names.lookup y.1=some .free:=by decide +kernel
def csRing_l:zhf.names.lookup ("beside" : Str)=some NameKind.free:=by decide +kernel
def ndRi:(["place", "beside"]:List Str).Nodup:=by decide +kernel
section
variable{P:Nj}{w:Nl}{K:Na}{mg:Ng}{base:Nm}
def scWay:zaq ["parents", "place", "way"] ["parents", "place"] (zag sWay):=⟨rfl,rfl,rfl,by decide +kernel,rfl,by decide +kernel,by decide +kernel⟩
def ok_way(F:Fun K "way_to" "way_to" sWay f fd):FnOk P w K mg base CX0 1 f fd ["parents", "place"] spWay:=by
 refine F.ok scWay (λvs H Q E h=>?_) (λcdv A outer s H vs Q E hr h=>?_)
 ·obtain ⟨u,r,rt,ks,par,ds,y,rfl,_⟩:=h
  rfl
 ·obtain ⟨u,r,rt,ks,par,ds,y,rfl,nZ,T,hy,c9,k⟩:=h
  have hu:=zb9 hr
  have aG:sizeLine=16777216:=sizeLine_eq
  refine⟨_,zae (zam (i:=2) scWay.nd rfl (Or.inl rfl) (zbh zaf))
   (zae (zdl Zh (zas op_notN (pv 1) pe_non (zbf _))
    (zae (za6 (zd9 Zm Yo Yn zb0 (pv 2) (zac (pv 1) zaf)))
    (zah (zam (i:=1) scWay.nd rfl (Or.inl rfl) (zat hu (pv 0) (pv 1) (λ_ _=>rfl))))))
   (zah (zbe (pe_rev (pv 2))))),?_⟩
  obtain⟨L,hL,_⟩:=T.way _ y hy rfl
  have vh:L.length≤100:=Zd (zba (T.chn hL hy).2 λz hz=>(T.pre hL hy z hz).1) c9
  refine⟨(by show 0≤sizeLine;decide),λwa kK=>?_⟩
  have nuw:u≠wa:=zaa nZ kK
  refine⟨λm σ H'=>Ex2 λ(ad:Nd) (v:V)=>Aj5 (σ=[some (.ref u),some v,some (.ref wa)]) (H' wa=some (.lst (ad.map V.str))) (H' u=some (.dK (dof ks (parV par)))) (Keep [] H H') ((∃z M,v=.str z∧z∈ks∧zb7 par M z∧L=M++ad.reverse∧m=M.length)∨v=.non∧L=ad.reverse∧m=0),
   ⟨L.length,[],.str y,rfl,zab,by rw[zad nuw];exact nZ,Keep.new kK,.inl ⟨y,L,rfl,hy,hL,by simp,rfl⟩⟩,?_⟩
  rintro m σ H1 ⟨ad,v,rfl,sJ,eQ,k1,hv⟩
  rcases hv with⟨z,M,rfl,hz,hM,eL,rfl⟩ | ⟨rfl,eL,rfl⟩
  ·have jq:ad.length≤100:=by
    have:=congrArg List.length eL
    rw[Qo,Kj]at this
    omega
   refine⟨_,rfl,rfl,_,rfl,zb6 (by rfl) ?_⟩
   refine⟨_,λ σ' H' zz=>zz,?_⟩
   refine⟨_,rfl,.inl ⟨rfl,_,SqL.of sJ⟩,_,rfl,wa,_,_,rfl,rfl,sJ,by rw[Qa];omega,?_⟩
   have dX:(upd H1 wa (.lst (ad.map V.str++[V.str z]))) u=some (.dK (dof ks (parV par))):=by rw[zad nuw];exact eQ
   have sI:(upd H1 wa (.lst (ad.map V.str++[V.str z]))) wa=some (.lst ((ad++[z]).map V.str)):=by rw[zab,Qs];rfl
   have k2:Keep [] H (upd H1 wa (.lst (ad.map V.str++[V.str z]))):=k1.fr kK
   generalize upd H1 wa (.lst (ad.map V.str++[V.str z]))=H2 at dX sI k2
   have g:=DGet.k (k:=Sum.inr z) dX
   rw[zcp hz]at g
   refine⟨_,rfl,_,rfl,u,_,rfl,g,?_⟩
   cases hM with
   |rt h =>
    refine⟨0,by simp,ad++[z],.non,by unfold parV;rw[h];rfl,sI,dX,k2,.inr ⟨rfl,by rw[eL,List.reverse_append];rfl,rfl⟩⟩
   |@up _ p M' h vg =>
    obtain⟨p',aW,e1,_⟩:=T.up z hz (λe=>by rw[e,T.r0]at h;cases h)
    rw[h]at e1
    cases e1
    refine⟨M'.length,by simp,ad++[z],.str p,by unfold parV;rw[h];rfl,sI,dX,k2,.inl ⟨p,M',rfl,aW,vg,by rw[eL,List.reverse_append,List.append_assoc];rfl,rfl⟩⟩
  ·refine ⟨_,rfl,rfl,_,rfl,za5 (by rfl) ?_⟩
   refine⟨_,rfl,wa,_,rfl,SqL.of sJ,λl hl=>k l L _ ?_ hL (zbi k1 hl (by simp)) (k1.trans (Keep.new hl))⟩
   rw[zab,eL,List.map_reverse]
def scRing:zaq ["parents", "one", "other", "down", "beside", "shared"] ["parents", "one", "other"] (zag sRing):=⟨rfl,rfl,rfl,by decide +kernel,rfl,by decide +kernel,by decide +kernel⟩
def ok_ring(F:Fun K "ring_in" "ring_in" sRing f fd)(FW:Fun K "way_to" "way_to" sWay fw fdw)(bW:Binds K fdw ["parents", "place"] [])(mW:mg "way_to" = some (.ref fw))(GW:FnOk P w K mg base CX0 1 fw fdw ["parents", "place"] spWay)(a9:mg "len" = none):FnOk P w K mg base CX0 2 f fd ["parents", "one", "other"] spRing:=by
 refine F.ok scRing (λvs H Q E h=>?_) (λcdv A outer s H vs Q E hr h=>?_)
 ·obtain ⟨u,r,rt,ks,par,ds,y,z,rfl,_⟩:=h
  rfl
 ·obtain ⟨u,r,rt,ks,par,ds,y,z,rfl,nZ,T,hy,hz,c9,k⟩:=h
  have aG:sizeLine=16777216:=sizeLine_eq
  refine⟨_,zae (zam (i:=3) scRing.nd rfl (Or.inl rfl) (zak GW hr rfl mW FW.kp bW .nil zaw (zac (pv 0) (zac (pv 1) zaf))))
   (zae (zam (i:=4) scRing.nd rfl (Or.inr rfl) (zak GW hr rfl mW FW.kp bW .nil zaw (zac (pv 0) (zac (pv 2) zaf))))
   (zae (zam (i:=5) scRing.nd rfl (Or.inl rfl) (zai zan (by rfl) a9 Zx (zac (zf3 (M:=["place", "beside"]) (ix:=[none,some 4]) ⟨csRing_k,csRing_c,csRing_n,csRing_f,rfl,by decide +kernel,λj i x h1 h2=>by
       match j,h1,h2 with
       |0,_,h2=>cases h2
       |1,h1,h2=>cases h1;cases h2;exact⟨rfl,csRing_l⟩
       |n+2,h1,_=>cases h1⟩ rfl (zav (pv 3)) (λC a0 ex s H=>zaj (i:=0) ndRi rfl (Or.inl rfl) (Or.inr rfl))
       (λC a0 ex s H=>zes (zas (zeu (K:=K) rfl) (pv 0) (pv 1) rfl)) (λC a0 ex s H=>pv 0)) zaf)))
   (zah (zbe (zbd zea (zbq zcd (pv 3) (zb8 (zbd op_sub (pv 5) zal)) zby) (pe_rev (zbq zcd (pv 4) (zb8 (pv 5)) zby))))))),?_⟩
  refine⟨_,rfl,_,rfl,u,r,rt,ks,par,ds,y,rfl,nZ,T,hy,c9,λdn D H1 rB wD fdn k1=>?_⟩
  have eQ:=k1 _ _ nZ (by simp)
  refine⟨_,rfl,_,rfl,u,r,rt,ks,par,ds,z,rfl,eQ,T,hz,c9,λbe B H2 vq wB fbe k2=>?_⟩
  have dr:=k2 _ _ rB (by simp)
  have hDl:D.length≤100:=Zd (zba (T.chn wD hy).2 λz dW=>(T.pre wD hy z dW).1) c9
  have hBl:B.length≤100:=Zd (zba (T.chn wB hz).2 λz dW=>(T.pre wB hz z dW).1) c9
  have kC:Keep [] H H2:=k1.trans k2
  refine⟨_,rfl,dn,rfl,⟨_,SqL.of dr⟩,lc_filt (xs:=D.map V.str) (λ τ=>∃x0,τ=[x0,some (.ref be)]) (λv=>inV v (B.map V.str)) (SqL.of dr) (by rw[Qa];omega) ⟨none,rfl⟩ ?_ (λD2 lO=>?_)⟩
  ·rintro x hx τ ⟨x0,rfl⟩ kk1 kk0 oU oV
   obtain⟨a,ha,rfl⟩:=Qk.mp hx
   refine⟨_,rfl,_,rfl,be,_,rfl,.inl (SqL.of vq),rfl,zcc B,_,rfl,?_⟩
   cases hb:inV (V.str a) (B.map V.str) with
   |true=>exact zb6 rfl ⟨_,rfl,oU hb _ ⟨_,rfl⟩⟩
   |false=>exact za5 rfl (oV hb _ ⟨_,rfl⟩)
  ·have ef:(D.map V.str).filter (fun v=>inV v (B.map V.str))=(D.filter fun z=>decide (z∈B)).map V.str:=by
    rw[List.filter_map]
    congr 1
    refine Uv λa _=>?_
    show inV (V.str a) _=_
    rw[zey]
   rw[ef]
   refine⟨D2,_,rfl,.inl (SqL.of zab),?_⟩
   have fX:1≤(D.filter λz=>decide (z∈B)).length:=Yc (Zj.mpr ⟨T.root_in wD hy,decide_eq_true (T.root_in wB hz)⟩)
   have hnD:(D.filter λz=>decide (z∈B)).length≤D.length:=Ur ..
   have hnB:(D.filter λz=>decide (z∈B)).length≤B.length:=zba ((T.chn wD hy).2.filter _) λx hx=>of_decide_eq_true (Zj.mp hx).2
   have ering:ze7 D B=D.drop ((D.filter λz=>decide (z∈B)).length-1)++(B.drop (D.filter λz=>decide (z∈B)).length).reverse:=rfl
   have aF:∀l:List Str,(l.map V.str).length=l.length:=λl=>Qa ..
   have nd2:dn≠D2:=zaa dr lO
   have nb2:be≠D2:=zaa vq lO
   have ju:(upd H2 D2 (.lst ((D.filter λz=>decide (z∈B)).map V.str))) dn=some (.lst (D.map V.str)):=by rw[zad nd2];exact dr
   have vp:(upd H2 D2 (.lst ((D.filter λz=>decide (z∈B)).map V.str))) be=some (.lst (B.map V.str)):=by rw[zad nb2];exact vq
   have k3:Keep [] H (upd H2 D2 (.lst ((D.filter λz=>decide (z∈B)).map V.str))):=kC.trans (Keep.new lO)
   generalize upd H2 D2 (.lst ((D.filter λz=>decide (z∈B)).map V.str))=H3 at ju vp k3
   rw[aF]
   generalize(D.filter λz=>decide (z∈B)).length=n at fX hnD hnB ering
   have ei:((n:Nat):Int)-1=((n-1:Nat):Int):=by omega
   refine⟨_,rfl,_,rfl,_,_,rfl,rfl,_,rfl,dn,_,rfl,SqL.of ju,λp1 h1=>?_⟩
   have n1:be≠p1:=zaa vp h1
   refine⟨_,rfl,_,rfl,_,rfl,be,_,rfl,SqL.of (by rw[zad n1];exact vp),λp2 h2=>?_⟩
   refine⟨p2,_,rfl,SqL.of zab,λp3 h3=>?_⟩
   have dS:p1≠p2:=zaa (o:=_) zab h2
   have n13:p1≠p3:=zaa (by rw[zad dS];exact zab) h3
   refine⟨p1,p3,_,_,rfl,rfl,(by rw[zad n13,zad dS];exact zab),zab,?_,λp4 h4=>?_⟩
   ·rw [ei,zca (by rw [aF];omega),zca (by rw [aF];omega),Kj,Ja,Ja,aF,aF]
    omega
   ·refine k p4 D B _ ?_ wD wB (zbi (xs:=[]) (((k3.trans (Keep.new h1)).trans (Keep.new h2)).trans (Keep.new h3)) h4 (by simp)) ((((k3.trans (Keep.new h1)).trans (Keep.new h2)).trans (Keep.new h3)).trans (Keep.new h4))
    rw[zab,ei,zca (by rw[aF];omega),zca (by rw[aF];omega),ering,Qs,List.map_reverse,Uk,Uk]
def scPcs:zaq ["web"] ["web"] (zag sPcs):=⟨rfl,rfl,rfl,by decide +kernel,rfl,by decide +kernel,by decide +kernel⟩
def ok_pcs(F:Fun K "pieces" "pieces" sPcs f fd)(cW:Cls K C)(nW:zdg K C "rounds")(FP:Fun K "pieces_of" "pieces_of" zfx fp fdp)(bP:Binds K fdp ["rounds"] [])(mP:mg "pieces_of" = some (.ref fp))(GP:FnOk P w K mg base CX0 2 fp fdp ["rounds"] zho):FnOk P w K mg base CX0 3 f fd ["web"] (spPcs C):=by
 refine F.ok scPcs (λvs H Q E h=>?_) (λcdv A outer s H vs Q E hr h=>?_)
 ·obtain ⟨x,dx,d,es,cs,lab,rfl,_⟩:=h
  rfl
 ·obtain ⟨x,dx,d,es,cs,lab,rfl,wt,aN,hC,k⟩:=h
  refine⟨_,zah (zbe (zak GP hr rfl mP FP.kp bP .nil zaw (zac (zg5 (pv 0) rfl) zaf))),?_⟩
  exact⟨_,rfl,x,C,dx,_,_,rfl,wt.ob,cW,nW,rfl,d,es,cs,lab,rfl,wt.ta,aN,hC,λl as zss H' h1 h2 h3 h4 h5=>k l as zss H' h1 h2 h3 h4 h5⟩
end
end K21
end
section
namespace Wb
open PySem L2 K21
variable{ns:Nd}{r:No}{cs:List (List (Str×Str))}{lab:Nu}{rt:Str}{ks:Nd}{par:Np}{ds:Str→Nat}{c c':Str→Int}
def zaz.all(T:zaz r rt ks par ds)(C:Cert ns r cs lab)(cU:rt∈ns)(y:Str):y∈ks↔y∈ns∧lab y=lab rt:=by
 constructor
 ·have:∀ n y,y∈ks→ds y=n→y∈ns∧lab y=lab rt:=by
   intro n
   induction n with
   | zero =>
    intro y hy hn
    by_cases e:y=rt
    ·rw[e];exact⟨cU,rfl⟩
    ·obtain ⟨p,_,_,_,hd,_⟩:=T.up y hy e
     omega
   |succ n ih =>
    intro y hy hn
    have e:y≠rt:=λe=>by rw[e,T.d0]at hn;omega
    obtain⟨p,hp,_,cM,hd,_⟩:=T.up y hy e
    exact⟨C.inn cM,by rw[←C.la y p cM];exact(ih p hp (by omega)).2⟩
  exact λhy=>this _ y hy rfl
 ·rintro ⟨h1,h2⟩
  have hc:Conn r rt y:=C.co rt cU y h1 h2.symm
  clear h1 h2
  induction hc with
  |refl=>exact T.rk
  |step _ hz ih=>exact(T.on _ ih _ hz).1
structure Done(r:No)(c:Str→Int)(rt:Str):Prop where
 ex:∃ks par ds,zaz r rt ks par ds∧(∀y∈ks,c y=((ds y%2:Nat):Int))∧∀q,¬Odd r ks ds q
def Odd.turn(sy:∀x y,y∈r x→x∈r y)(T:zaz r rt ks par ds)(T':zaz r rt am aq bu)(o:Odd r ks ds q):Odd r am bu q:=by
 have t:=T.one (λ_ _=>Iff.rfl) sy T'
 exact⟨(t _ o.k).1,o.t,o.l,by rw[←(t _ o.k).2.1,←(t _ (T.on _ o.k _ o.t).1).2.1];exact o.o⟩
def Done.no(D:Done r c rt)(sy:∀x y,y∈r x→x∈r y)(T:zaz r rt ks par ds)(q:Str×Str):¬Odd r ks ds q:=λo=>by
 obtain⟨am,aq,bu,T',_,h⟩:=D.ex
 exact h q (o.turn sy T T')
def Done.keep(D:Done r c rt)(C:Cert ns r cs lab)(hr:rt∈ns)(h:∀y∈ns,lab y=lab rt→c' y=c y):Done r c' rt:=by
 obtain⟨am,aq,bu,T',h1,h2⟩:=D.ex
 exact⟨am,aq,bu,T',λy hy=>by rw[h y ((T'.all C hr y).mp hy).1 ((T'.all C hr y).mp hy).2];exact h1 y hy,h2⟩
def Rt.one(a:Rt ns lab x)(b:Rt ns lab y)(h:lab x=lab y):x=y:=zda (a.2 y b.1 h.symm) (b.2 x a.1 h)
def zet(h:zgr ns lab (a::t))(s:(a::t).Pairwise leS):Rt ns lab a∧∀y,y∈a::t↔y∈ns∧lab y=lab a:=by
 obtain⟨nd,z,hz,hm⟩:=h
 have ha:=(hm a).mp Qc
 refine⟨⟨ha.1,λy hy hl=>?_⟩,λy=>by rw[hm y,ha.2]⟩
 rcases Qd.mp ((hm y).mpr ⟨hy,hl.trans ha.2⟩) with e | e
 ·rw[e];exact λq=>Ya _ q
 ·exact(Uc.mp s).1 y e
def clr_of(C:Cert ns r cs lab)(h:∀ x,Rt ns lab x→Done r c x)(hx:∀ y∈ns,∃ x,Rt ns lab x∧lab x=lab y):Clr ns r lab (fun y=>if y∈ns then c y else 0):=by
 refine⟨λx=>?_,λx y bZ=>?_,λx hr=>?_⟩
 ·by_cases e:x∈ns
  ·obtain ⟨t,ht,hl⟩:=hx x e
   obtain⟨ks,par,ds,T,h1,_⟩:=(h t ht).ex
   rw[if_pos e,h1 x ((T.all C ht.1 x).mpr ⟨e,hl.symm⟩)]
   omega
  ·exact .inl (if_neg e)
 ·have md:=C.inn bZ
  have hyn:=C.inn' bZ
  rw[if_pos md,if_pos hyn]
  obtain⟨t,ht,hl⟩:=hx x md
  obtain⟨ks,par,ds,T,h1,h2⟩:=(h t ht).ex
  have kx:=(T.all C ht.1 x).mpr ⟨md,hl.symm⟩
  have ky:=(T.on x kx y bZ).1
  rw[h1 x kx,h1 y ky]
  intro e
  have e':ds y%2=ds x%2:=by omega
  have ap:x≠y:=λq=>by rw[q]at bZ;exact C.ir y bZ
  by_cases aa:leS x y
  ·exact h2 (x,y) ⟨kx,bZ,zeb aa ap,e'.symm⟩
  ·have:leS y x:=by
    exact λq=>aa λq2=>List.lt_asymm q q2
   exact h2 (y,x) ⟨ky,C.sy _ _ bZ,zeb this (Zc ap),e'⟩
 ·obtain ⟨ks,par,ds,T,h1,_⟩:=(h x hr).ex
  rw[if_pos hr.1,h1 x T.rk,T.d0]
  rfl
def Odd.none(C:Cert ns r cs lab)(hr:Rt ns lab rt)(T:zaz r rt ks par ds)(o:Odd r ks ds q):¬∃c,Clr ns r lab c:=by
 rintro⟨c,K⟩
 have h1:=T.col C.sy K hr _ q.1 o.k rfl
 have h2:=T.col C.sy K hr _ q.2 (T.on _ o.k _ o.t).1 rfl
 exact K.t _ _ o.t (by rw[h1,h2,o.o])
end Wb
end
section
namespace Wb
section
variable{α:Type}[DecidableEq α]
def zgl{A B:List α}{n:α}(h:n∉A):(A++n::B).erase n=A++B:=by
 rw[List.erase_append_right _ h,List.erase_cons_head]
def nxt_erase{zs:List α}(nd:zs.Nodup){n w:α}(hn:n∈zs)(hw:w∈zs)(jG:w≠n):nxt (zs.erase n) w=if nxt zs w=n then nxt zs n else nxt zs w:=by
 obtain⟨A,B,rfl,hA,hB⟩:=zbn hw nd
 have k1:=za3 (B:=B) hA
 rw[Qy,Qv]at nd
 obtain⟨nA,⟨_,nB⟩,nAB⟩:=nd
 rcases Qe.mp hn with h | h
 ·obtain ⟨A1,A2,rfl,h1,h2⟩:=zbn h nA
  have e0:(A1++n::A2)++w::B=A1++n::(A2++w::B):=by rw[Qt];rfl
  have hw':w∉A1++A2:=λz=>hA (by
   rcases Qe.mp z with q | q
   ·exact Ql _ q
   ·exact Qi _ (Qh _ q))
  have k2:=za3 (B:=B) hw'
  have e1:((A1++n::A2)++w::B).erase n=(A1++A2)++w::B:=by rw[e0,zgl h1,Qt]
  have k3:=za3 (B:=A2++w::B) h1
  rw[←e0]at k3
  rw[e1]
  cases B with
  |cons b t =>
   have q1:=Qp k1;have q2:=Qp k2
   rw[if_neg (λz=>nAB n h n (Qh _ (by rw[q1.trans z];exact Qc)) rfl)]
   exact q2.symm.trans q1
  | nil =>
   cases A1 with
   |cons a t =>
    have q1:=Qp k1;have q2:=Qp k2
    rw[if_neg (λz=>h1 (by rw[q1.trans z];exact Qc))]
    exact q2.symm.trans q1
   |nil =>
    have q1:=Qp k1
    rw[if_pos q1.symm]
    refine Qp (k2.symm.trans (Eq.trans ?_ k3))
    cases A2<;>rfl
 ·have h':n∈B:=by
   rcases Qd.mp h with z | z
   ·exact absurd z.symm jG
   ·exact z
  obtain⟨B1,B2,rfl,h1,h2⟩:=zbn h' nB
  have tU:n∉A:=λz=>nAB n z n h rfl
  have hm:n∉A++w::B1:=by
   simp only[Qe,Qd,not_or];exact⟨tU,λz=>jG z.symm,h1⟩
  have e0:A++w::(B1++n::B2)=(A++w::B1)++n::B2:=by rw[Qt];rfl
  have e1:(A++w::(B1++n::B2)).erase n=A++w::(B1++B2):=by rw[e0,zgl hm,Qt];rfl
  have k2:=za3 (B:=B1++B2) hA
  have k3:=za3 (B:=B2) hm
  rw[←e0]at k3
  rw[e1]
  cases B1 with
  |cons b t =>
   have q1:=Qp k1;have q2:=Qp k2
   rw[if_neg (λz=>h1 (by rw[q1.trans z];exact Qc))]
   exact q2.symm.trans q1
  |nil =>
   have q1:=Qp k1
   rw[if_pos q1.symm]
   refine Qp (k2.symm.trans (Eq.trans ?_ k3))
   cases B2 with
   |cons b t=>rfl
   |nil=>cases A<;>rfl
def zh4{zs:List α}(nd:zs.Nodup)(hw:w∈zs)(h:nxt zs w=w):zs=[w]:=by
 obtain⟨A,B,rfl,hA,hB⟩:=zbn hw nd
 have k:=za3 (B:=B) hA
 rw[h]at k
 cases B with
 |cons b t=>exact absurd (by rw[←Qp k];exact Qc) hB
 |nil =>
  cases A with
  |nil=>rfl
  |cons a t=>exact absurd (by rw[←Qp k];exact Qc) hA
structure Web(ns:List α)(r:α→List α)(cs:List (List (α×α))):Prop where
 nd:ns.Nodup
 ro:∀x,x∉ns→r x=[]
 rn:∀x,(r x).Nodup
 ir:∀x,x∉r x
 sy:∀x y,y∈r x→x∈r y
 cf:cs.flatten.Nodup
 cm:∀s,s∈cs.flatten↔s.1∈r s.2
 cy:∀c∈cs,Cyc (st r) c
def vl(r:α→List α)(x:α):Int:=2+(if r x=[] then 2 else 0)-((r x).length:Int)
def tot(ns:List α)(r:α→List α)(cs:List (List (α×α))):Int:=(ns.map (vl r)).sum+2*(cs.length:Int)
structure Flat(ns:List α)(r:α→List α)(cs:List (List (α×α))):Prop extends Web ns r cs where
 fl:∀T:List α,(∀t∈T,t∈ns)→T.Pairwise (λx y=>¬Conn r x y)→4*(T.length:Int)≤tot ns r cs
def Conn.symm{r:α→List α}(sy:∀x y,y∈r x→x∈r y)(h:Conn r x y):Conn r y x:=by
 induction h with
 |refl=>exact .refl
 |step a hz ih=>exact Conn.trans (.step .refl (sy _ _ hz)) ih
variable{ns:List α}{r r':α→List α}{cs:List (List (α×α))}
def Web.inn(C:Web ns r cs)(h:y∈r x):x∈ns:=Jc λz=>by rw[C.ro x z]at h;cases h
structure Less(r r':α→List α)(v u:α):Prop where
 tie:u∈r v
 one:r' v=(r v).erase u
 two:r' u=(r u).erase v
 els:∀x,x≠v→x≠u→r' x=r x
section del
variable{v u:α}(C:Web ns r cs)(L:Less r r' v u)
include C L
theorem del_ne:v≠u:=λe=>C.ir u (by have:=L.tie;rwa[e]at this)
theorem zb1(s:α×α):s.1∈r' s.2↔s.1∈r s.2∧s≠(v,u)∧s≠(u,v):=by
 obtain⟨a,b⟩:=s
 have fP:=del_ne C L
 by_cases hb:b=v
 ·subst hb
  show a∈r' b↔a∈r b∧_
  rw[L.one,(C.rn b).mem_erase_iff]
  constructor
  ·rintro ⟨h1,h2⟩
   exact⟨h2,λe=>fP (congrArg Prod.snd e),λe=>h1 (congrArg Prod.fst e)⟩
  ·rintro ⟨h1,h2,h3⟩
   exact⟨λe=>h3 (by rw[e]),h1⟩
 ·by_cases ce:b=u
  ·subst ce
   show a∈r' b↔a∈r b∧_
   rw[L.two,(C.rn b).mem_erase_iff]
   constructor
   ·rintro ⟨h1,h2⟩
    exact⟨h2,λe=>h1 (congrArg Prod.fst e),λe=>hb (congrArg Prod.snd e)⟩
   ·rintro ⟨h1,h2,h3⟩
    exact⟨λe=>h2 (by rw[e]),h1⟩
  ·show a∈r' b↔a∈r b∧_
   rw[L.els b hb ce]
   exact⟨λh=>⟨h,λe=>ce (congrArg Prod.snd e),λe=>hb (congrArg Prod.snd e)⟩,λh=>h.1⟩
theorem del_st{s:α×α}(hs:s.1∈r' s.2):st r' s=if st r s=(v,u) then st r (u,v) else if st r s=(u,v) then st r (v,u) else st r s:=by
 have hm:=(zb1 C L s).mp hs
 obtain⟨a,b⟩:=s
 have fP:=del_ne C L
 obtain⟨ha,fX,bQ⟩:=hm
 by_cases hb:b=v
 ·subst hb
  have va:a≠u:=λe=>bQ (by rw[e])
  have k:=nxt_erase (C.rn b) L.tie ha va
  show(b,nxt (r' b) a)=if(b,nxt (r b) a)=(b,u) then(b,nxt (r b) u) else if(b,nxt (r b) a)=(u,b) then _ else(b,nxt (r b) a)
  rw[L.one,k]
  by_cases h:nxt (r b) a=u
  ·rw[if_pos h,if_pos (by rw[h])]
  ·rw[if_neg h,if_neg (λe=>h (congrArg Prod.snd e)),if_neg (λe=>fP (congrArg Prod.fst e))]
 ·by_cases ce:b=u
  ·subst ce
   have va:a≠v:=λe=>fX (by rw[e])
   have k:=nxt_erase (C.rn b) (C.sy _ _ L.tie) ha va
   show(b,nxt (r' b) a)=if(b,nxt (r b) a)=(v,b) then _ else if(b,nxt (r b) a)=(b,v) then(b,nxt (r b) v) else(b,nxt (r b) a)
   rw[L.two,k,if_neg (λe=>hb (congrArg Prod.fst e))]
   by_cases h:nxt (r b) a=v
   ·rw[if_pos h,if_pos (by rw[h])]
   ·rw[if_neg h,if_neg (λe=>h (congrArg Prod.snd e))]
  ·show (b,nxt (r' b) a)=if (b,nxt (r b) a)=(v,u) then _ else if (b,nxt (r b) a)=(u,v) then _ else (b,nxt (r b) a)
   rw[if_neg (λe=>hb (congrArg Prod.fst e)),if_neg (λe=>ce (congrArg Prod.fst e)),L.els b hb ce]
theorem del_web(hp:cs.flatten.Perm ((v,u)::(u,v)::cs'.flatten))(hc:∀c∈cs',Cyc (st r') c):Web ns r' cs':=by
 have fP:=del_ne C L
 have nd:=hp.nodup_iff.mp C.cf
 rw[Qv,Qv,Qd,not_or]at nd
 refine⟨C.nd,λx hx=>?_,λx=>?_,λx h=>?_,λx y h=>?_,nd.2.2,λs=>?_,hc⟩
 ·have hv:x≠v:=fun e=>hx (by rw [e];exact C.inn L.tie)
  have hu:x≠u:=λe=>hx (by rw[e];exact C.inn (C.sy _ _ L.tie))
  rw[L.els x hv hu,C.ro x hx]
 ·by_cases h1:x=v
  ·rw[h1,L.one];exact(C.rn v).erase _
  ·by_cases h2:x=u
   ·rw[h2,L.two];exact(C.rn u).erase _
   ·rw[L.els x h1 h2];exact C.rn x
 ·exact C.ir x ((zb1 C L (x,x)).mp h).1
 ·obtain ⟨h1,h2,h3⟩:=(zb1 C L (y,x)).mp h
  exact(zb1 C L (x,y)).mpr ⟨C.sy x y h1,λe=>h3 (by cases e;rfl),λe=>h2 (by cases e;rfl)⟩
 ·rw [zb1 C L,← C.cm,hp.mem_iff,Qd,Qd]
  constructor
  ·intro h
   exact⟨.inr (.inr h),λe=>nd.1.2 (e▸h),λe=>nd.2.1 (e▸h)⟩
  ·rintro ⟨h | h | h,h2,h3⟩
   ·exact absurd h h2
   ·exact absurd h h3
   ·exact h
theorem del_tot:tot ns r' cs'=tot ns r cs+2+(if r' v=[] then 2 else 0)+(if r' u=[] then 2 else 0)+2*((cs'.length:Int)-(cs.length:Int)):=by
 have fP:=del_ne C L
 have hv:=C.inn L.tie
 have hu:=C.inn (C.sy _ _ L.tie)
 have e1:=zen (g:=vl r) (g':=λx=>if x=v then vl r' v else vl r x) C.nd hv λx _ h=>if_neg h
 have e2:=zen (g:=λx=>if x=v then vl r' v else vl r x) (g':=vl r') C.nd hu λx _ h=>by
  show vl r' x=if x=v then vl r' v else vl r x
  by_cases hx:x=v
  ·rw[if_pos hx,hx]
  ·rw[if_neg hx];unfold vl;rw[L.els x hx h]
 have a1:(if v=v then vl r' v else vl r v)=vl r' v:=if_pos rfl
 have a2:(if u=v then vl r' v else vl r u)=vl r u:=if_neg λe=>fP e.symm
 have l1:=Yp L.tie
 have l2:=Yp (C.sy _ _ L.tie)
 have p1:=Yc L.tie
 have p2:=Yc (C.sy _ _ L.tie)
 have n1:r v≠[]:=λe=>by have:=L.tie;rw[e]at this;cases this
 have n2:r u≠[]:=λe=>by have:=C.sy _ _ L.tie;rw[e]at this;cases this
 have b1:vl r' v=vl r v+1+(if r' v=[] then 2 else 0):=by
  unfold vl;rw[if_neg n1];rw[←L.one]at l1;rw[l1];omega
 have b2:vl r' u=vl r u+1+(if r' u=[] then 2 else 0):=by
  unfold vl;rw[if_neg n2];rw[←L.two]at l2;rw[l2];omega
 unfold tot
 rw[e2,e1]
 show(_+((if v=v then vl r' v else vl r v)-vl r v))+(vl r' u-(if u=v then vl r' v else vl r u))+_=_
 rw[a1,a2,b1,b2];omega
theorem del_conn(h:Conn r x y):Conn r' x y∨(Conn r' x v∧Conn r' u y)∨(Conn r' x u∧Conn r' v y):=by
 induction h with
 |refl=>exact .inl .refl
 | @step y z a hz ih =>
  by_cases h1:(z,y)=(v,u)
  ·cases h1
   rcases ih with h | ⟨h,_⟩ | ⟨h,_⟩
   ·exact .inr (.inr ⟨h,.refl⟩)
   ·exact .inl h
   ·exact .inr (.inr ⟨h,.refl⟩)
  ·by_cases h2:(z,y)=(u,v)
   ·cases h2
    rcases ih with h | ⟨h,_⟩ | ⟨h,_⟩
    ·exact .inr (.inl ⟨h,.refl⟩)
    ·exact .inr (.inl ⟨h,.refl⟩)
    ·exact .inl h
   ·have dW:z∈r' y:=(zb1 C L (z,y)).mpr ⟨hz,h1,h2⟩
    rcases ih with h | ⟨h,k⟩ | ⟨h,k⟩
    ·exact .inl (.step h dW)
    ·exact .inr (.inl ⟨h,.step k dW⟩)
    ·exact .inr (.inr ⟨h,.step k dW⟩)
end del
end
section
variable{α:Type}[DecidableEq α]{ns:List α}{r r':α→List α}{cs:List (List (α×α))}
def Web.iso(C:Web ns r cs)(h:p∈r q):(r q).erase p=[]↔st r (p,q)=(q,p):=by
 constructor
 ·intro e
  have l:=Yp h
  rw[e]at l
  have p1:=Yc h
  obtain⟨a,ha⟩:=List.length_eq_one_iff.mp (show(r q).length=1 by simp at l;omega)
  rw[ha]at h
  have:p=a:=Qb.mp h
  show(q,nxt (r q) p)=_
  rw[ha,this,zh5]
 ·intro e
  have:=zh4 (C.rn q) h (congrArg Prod.snd e)
  rw[this,List.erase_cons_head]
section del
variable{v u:α}(C:Web ns r cs)(L:Less r r' v u)
include C L
theorem lk_del:∀{t:List (α×α)} {s:α×α},Lk (st r) s t x→(∀y,y=s∨y∈t→y.1∈r' y.2)→Lk (st r') s t (if x=(v,u) then st r (u,v) else if x=(u,v) then st r (v,u) else x):=by
 intro t
 induction t with
 |nil=>intro s k h;rw[←show st r s=x from k];exact del_st C L (h s (.inl rfl))
 |cons a t ih =>
  intro s k h
  refine⟨?_,ih k.2 λy hy=>h y (.inr (Qd.mpr hy))⟩
  have ha:=((zb1 C L a).mp (h a (.inr Qc))).2
  rw[del_st C L (h s (.inl rfl)),k.1,if_neg ha.1,if_neg ha.2]
theorem rest_cyc(hc:c∈cs)(h1:(v,u)∉c)(h2:(u,v)∉c):Cyc (st r') c:=by
 refine zeg (λy hy=>?_) (C.cy c hc)
 have hn:=zii (C.cy c hc) hy
 have bK:y.1∈r' y.2:=(zb1 C L y).mpr ⟨(C.cm y).mp (Zp.mpr ⟨c,hc,hy⟩),λe=>h1 (e▸hy),λe=>h2 (e▸hy)⟩
 rw[del_st C L bK,if_neg (show st r y≠(v,u) from λe=>h1 (by rw[←e];exact hn)),if_neg (show st r y≠(u,v) from λe=>h2 (by rw[←e];exact hn))]
theorem lk_conn(sy:∀x y,y∈r' x→x∈r' y):∀{t:List (α×α)} {s:α×α},Lk (st r) s t x→(∀y,y=s∨y∈t→y.1∈r' y.2)→Conn r' s.1 x.1:=by
 intro t
 induction t with
 |nil=>intro s k h;rw[←show st r s=x from k];exact .step .refl (sy _ _ (h s (.inl rfl)))
 |cons a t ih =>
  intro s k h
  refine Conn.trans (.step .refl (sy _ _ (h s (.inl rfl)))) ?_
  have:=ih k.2 λy hy=>h y (.inr (Qd.mpr hy))
  rwa[show a.1=s.2 by rw[←k.1];rfl]at this
end del
def filter_one{T:List α}{R:α→α→Prop}{P:α→Bool}(h:T.Pairwise fun x y=>¬ R x y)(hR:∀ x y,P x=false→P y=false→R x y):T.length≤(T.filter P).length+1:=by
 induction T with
 |nil=>exact Zi _
 | cons a t ih =>
  rw[Uc]at h
  by_cases ha:P a=true
  ·rw [Zt ha]
   have:=ih h.2
   rw[Qx,Qx];omega
  ·rw [Zu ha]
   have:t.filter P=t:=Jd.mpr λy hy=>by
    cases e:P y with
    |true=>rfl
    |false=>exact absurd (hR a y (by simpa using ha) e) (h.1 y hy)
   rw[this];exact Qf _
def web_less(C:Web ns r cs)(L:Less r r' v u):∃ cs',Web ns r' cs'∧(tot ns r' cs'=tot ns r cs∧Conn r' u v∨tot ns r' cs'=tot ns r cs+4):=by
 have fP:=del_ne C L
 have tY:v∈r u:=C.sy _ _ L.tie
 have ap:((u,v):α×α)≠(v,u):=λe=>fP (congrArg Prod.snd e)
 obtain⟨c,hc,hec⟩:=Zp.mp ((C.cm (v,u)).mpr tY)
 obtain⟨P,Q,ecq⟩:=Yx hec
 have k0:Lk (st r) (v,u) (Q++P) (v,u):=zdd (ecq▸C.cy c hc)
 have pc:c.Perm ((v,u)::(Q++P)):=by
  rw[ecq];exact Jy.trans ((Wg).cons _)
 by_cases hb:(u,v)∈c
 ·have g9:(u,v)∈Q++P:=by
   rcases Qd.mp (pc.mem_iff.mp hb) with z | z
   ·exact absurd z ap
   ·exact z
  obtain⟨A,B,eAB⟩:=Yx g9
  rw[eAB]at k0 pc
  obtain⟨kA,kB⟩:=lk_app.mp k0
  have qA:c.Perm ((v,u)::(u,v)::(A++B)):=pc.trans (Jy.cons _)
  let N:List (List (α×α)):=(if A=[] then[] else[A])++(if B=[] then[] else[B])
  have hN:N.flatten=A++B:=by
   show((if A=[] then[] else[A])++(if B=[] then[] else[B])).flatten=_
   rw[Wo]
   congr 1
   ·by_cases h:A=[]
    ·rw[if_pos h,h];rfl
    ·rw[if_neg h];simp
   ·by_cases h:B=[]
    ·rw[if_pos h,h];rfl
    ·rw[if_neg h];simp
  have hp:cs.flatten.Perm ((v,u)::(u,v)::(N++cs.erase c).flatten):=by
   rw[Wo,hN]
   refine(zbw hc).trans ((qA.append_right _).trans ?_)
   exact List.Perm.refl _
  have nd:=hp.nodup_iff.mp C.cf
  have ai:∀y,y∈(N++cs.erase c).flatten→y.1∈r' y.2:=λy hy=>by
   rw[Qv,Qv,Qd,not_or]at nd
   exact(zb1 C L y).mpr ⟨(C.cm y).mp (hp.mem_iff.mpr (Qh _ (Qh _ hy))),λe=>nd.1.2 (e▸hy),λe=>nd.2.1 (e▸hy)⟩
  have fu:∀y∈A,y.1∈r' y.2:=λy hy=>ai y (by rw[Wo,hN];exact Ql _ (Ql _ hy))
  have hJ:∀y∈B,y.1∈r' y.2:=λy hy=>ai y (by rw[Wo,hN];exact Ql _ (Qi _ hy))
  have cA:∀a t,A=a::t→Cyc (st r') A:=λa t e=>by
   subst e
   have k:=lk_del C L kA.2 λy hy=>fu y (Qd.mpr hy)
   rw[if_neg ap,if_pos rfl,kA.1]at k
   exact⟨a,t,rfl,k⟩
  have cB:∀a t,B=a::t→Cyc (st r') B:=λa t e=>by
   subst e
   have k:=lk_del C L kB.2 λy hy=>hJ y (Qd.mpr hy)
   rw[if_pos rfl,kB.1]at k
   exact⟨a,t,rfl,k⟩
  have pP:∀d∈N++cs.erase c,Cyc (st r') d:=λd hd=>by
   rcases Qe.mp hd with z | z
   ·rcases Qe.mp z with y | y
    ·cases A with
     |nil=>rw[if_pos rfl]at y;cases y
     |cons a t =>
      rw[if_neg (Xf _ _)]at y
      rw[Qb.mp y];exact cA a t rfl
    ·cases B with
     |nil=>rw[if_pos rfl]at y;cases y
     |cons a t =>
      rw[if_neg (Xf _ _)]at y
      rw[Qb.mp y];exact cB a t rfl
   ·rw [Qv,Qv,Qd,not_or] at nd
    have hf:∀y∈d,y∈(N++cs.erase c).flatten:=λy hy=>Zp.mpr ⟨d,hd,hy⟩
    exact rest_cyc C L (Ue z) (λy=>nd.1.2 (hf _ y)) (λy=>nd.2.1 (hf _ y))
  have W:=del_web C L hp pP
  have iA:r' u=[]↔A=[]:=by
   rw[L.two,C.iso tY]
   constructor
   ·intro e
    cases A with
    |nil=>rfl
    |cons a t =>
     have ha:a=(u,v):=kA.1.symm.trans e
     have:=((zb1 C L a).mp (fu a Qc)).2.2
     exact absurd ha this
   ·intro e;subst e;exact kA
  have iB:r' v=[]↔B=[]:=by
   rw[L.one,C.iso L.tie]
   constructor
   ·intro e
    cases B with
    |nil=>rfl
    |cons a t =>
     have ha:a=(v,u):=kB.1.symm.trans e
     have:=((zb1 C L a).mp (hJ a Qc)).2.1
     exact absurd ha this
   ·intro e;subst e;exact kB
  have ht:tot ns r' (N++cs.erase c)=tot ns r cs+4:=by
   rw[del_tot C L (cs':=N++cs.erase c)]
   have lc:=Yp hc
   have lp:=Yc hc
   have ln:N.length=(if A=[] then 0 else 1)+(if B=[] then 0 else 1):=by
    show((if A=[] then[] else[A])++(if B=[] then[] else[B])).length=_
    rw[Qo]
    congr 1
    ·by_cases h:A=[]
     ·rw[if_pos h,if_pos h];rfl
     ·rw[if_neg h,if_neg h];rfl
    ·by_cases h:B=[]
     ·rw[if_pos h,if_pos h];rfl
     ·rw[if_neg h,if_neg h];rfl
   rw[Qo,ln,lc]
   by_cases hA:A=[]
   ·by_cases hB:B=[]
    ·rw[if_pos (iA.mpr hA),if_pos (iB.mpr hB),if_pos hA,if_pos hB];omega
    ·rw[if_pos (iA.mpr hA),if_neg (λz=>hB (iB.mp z)),if_pos hA,if_neg hB];omega
   ·by_cases hB:B=[]
    ·rw[if_neg (λz=>hA (iA.mp z)),if_pos (iB.mpr hB),if_neg hA,if_pos hB];omega
    ·rw[if_neg (λz=>hA (iA.mp z)),if_neg (λz=>hB (iB.mp z)),if_neg hA,if_neg hB];omega
  exact⟨N++cs.erase c,W,.inr ht⟩
 ·obtain ⟨c2,r8,pH⟩:=Zp.mp ((C.cm (u,v)).mpr L.tie)
  have eI:c2≠c:=λe=>hb (e▸pH)
  have lG:c2∈cs.erase c:=(List.mem_erase_of_ne eI).mpr r8
  obtain⟨P2,Q2,qo⟩:=Yx pH
  have k2:Lk (st r) (u,v) (Q2++P2) (u,v):=zdd (qo▸C.cy c2 r8)
  have qA:c2.Perm ((u,v)::(Q2++P2)):=by
   rw[qo];exact Jy.trans ((Wg).cons _)
  generalize hA:Q++P=A at k0 pc
  generalize hB:Q2++P2=B at k2 qA
  have hp:cs.flatten.Perm ((v,u)::(u,v)::((A++B)::(cs.erase c).erase c2).flatten):=by
   rw[Ys]
   refine(zbw hc).trans ((pc.append_right _).trans ?_)
   rw[Um]
   refine List.Perm.cons _ ?_
   refine((zbw lG).append_left A).trans ?_
   refine((qA.append_right _).append_left A).trans ?_
   rw[Um]
   refine Jy.trans ?_
   rw[Qt]
  have nd:=hp.nodup_iff.mp C.cf
  have ai:∀y,y∈((A++B)::(cs.erase c).erase c2).flatten→y.1∈r' y.2:=λy hy=>by
   rw[Qv,Qv,Qd,not_or]at nd
   exact(zb1 C L y).mpr ⟨(C.cm y).mp (hp.mem_iff.mpr (Qh _ (Qh _ hy))),λe=>nd.1.2 (e▸hy),λe=>nd.2.1 (e▸hy)⟩
  have fu:∀y∈A,y.1∈r' y.2:=λy hy=>ai y (by rw[Ys];exact Ql _ (Ql _ hy))
  have hJ:∀y∈B,y.1∈r' y.2:=λy hy=>ai y (by rw[Ys];exact Ql _ (Qi _ hy))
  have nA:∃a t,A=a::t:=by
   cases A with
   |nil =>
    have:=congrArg Prod.fst (show st r (v,u)=(v,u) from k0)
    exact absurd this.symm fP
   |cons a t=>exact⟨a,t,rfl⟩
  have nB:∃a t,B=a::t:=by
   cases B with
   |nil =>
    have:=congrArg Prod.fst (show st r (u,v)=(u,v) from k2)
    exact absurd this fP
   |cons a t=>exact⟨a,t,rfl⟩
  obtain⟨a,tA,rfl⟩:=nA
  obtain⟨b,tB,rfl⟩:=nB
  have pP:∀d∈((a::tA)++(b::tB))::(cs.erase c).erase c2,Cyc (st r') d:=λd hd=>by
   rcases Qd.mp hd with z | z
   ·have k:=lk_del C L k0.2 fun y hy=>fu y (Qd.mpr hy)
    have k':=lk_del C L k2.2 λy hy=>hJ y (Qd.mpr hy)
    rw[if_pos rfl,k2.1]at k
    rw[if_neg ap,if_pos rfl,k0.1]at k'
    rw[z]
    exact⟨a,tA++b::tB,rfl,lk_app.mpr ⟨k,k'⟩⟩
   ·rw [Qv,Qv,Qd,not_or] at nd
    have hf:∀y∈d,y∈(((a::tA)++(b::tB))::(cs.erase c).erase c2).flatten:=λy hy=>Zp.mpr ⟨d,hd,hy⟩
    exact rest_cyc C L (Ue (Ue z)) (λy=>nd.1.2 (hf _ y)) (λy=>nd.2.1 (hf _ y))
  have W:=del_web C L hp pP
  have nu:r' u≠[]:=λe=>by
   rw[L.two,C.iso tY]at e
   have ha:a=(u,v):=k0.1.symm.trans e
   exact((zb1 C L a).mp (fu a Qc)).2.2 ha
  have nv:r' v≠[]:=λe=>by
   rw[L.one,C.iso L.tie]at e
   have ha:b=(v,u):=k2.1.symm.trans e
   exact((zb1 C L b).mp (hJ b Qc)).2.1 ha
  have i4:Conn r' u v:=by
   have:=lk_conn C L W.sy k0.2 λy hy=>fu y (Qd.mpr hy)
   rwa[←k0.1]at this
  refine⟨_,W,.inl ⟨?_,i4⟩⟩
  rw[del_tot C L,if_neg nu,if_neg nv]
  have lc:=Yp hc
  have lc2:=Yp lG
  have lp:=Yc hc
  have lp2:=Yc lG
  rw[Qx,lc2,lc]
  omega
def zhh{v u:α}(C:Web ns r cs)(L:Less r r' v u)(sy:∀x y,y∈r' x→x∈r' y){T:List α}(eV:T.Pairwise λx y=>¬Conn r' x y):∃T':List α,(∀t∈T',t∈T)∧T'.Pairwise (λx y=>¬Conn r x y)∧T.length≤T'.length+1:=by
 let P:α→Bool:=λx=>@decide (¬Conn r' x v) (Classical.propDecidable _)
 have hP:∀x,P x=false→Conn r' x v:=λx e=>by
  have:=@of_decide_eq_false _ (Classical.propDecidable _) e
  exact Classical.not_not.mp this
 refine⟨T.filter P,λt ht=>(Zj.mp ht).1,?_,filter_one (P:=P) eV λx y hx hy=>Conn.trans (hP x hx) (Conn.symm sy (hP y hy))⟩
 refine Je ?_ (eV.filter P)
 intro x y hx hy bZ hc
 have px:¬Conn r' x v:=@of_decide_eq_true _ (Classical.propDecidable _) (Zj.mp hx).2
 have py:¬Conn r' y v:=@of_decide_eq_true _ (Classical.propDecidable _) (Zj.mp hy).2
 rcases del_conn C L hc with h | ⟨h,_⟩ | ⟨_,h⟩
 ·exact bZ h
 ·exact px h
 ·exact py (Conn.symm sy h)
def back_less(C:Web ns r cs)(L:Less r r' v u)(sy:∀x y,y∈r' x→x∈r' y)(h:Conn r' u v)(hc:Conn r x y):Conn r' x y:=by
 rcases del_conn C L hc with z | ⟨z1,z2⟩ | ⟨z1,z2⟩
 ·exact z
 ·exact(z1.trans (Conn.symm sy h)).trans z2
 ·exact(z1.trans h).trans z2
def flat_less{v u:α}(F:Flat ns r cs)(L:Less r r' v u):∃cs',Flat ns r' cs':=by
 obtain⟨cs',W,⟨ht,i4⟩ | ht⟩:=web_less F.toWeb L
 ·refine ⟨cs',W,fun T hT eV=>?_⟩
  rw[ht]
  exact F.fl T hT (eV.imp λ{x y} h hc=>h (back_less F.toWeb L W.sy i4 hc))
 ·refine ⟨cs',W,fun T hT eV=>?_⟩
  obtain⟨T',h1,h2,h3⟩:=zhh F.toWeb L W.sy eV
  have:=F.fl T' (λt ht=>hT t (h1 t ht)) h2
  rw[ht]
  omega
end
section
variable{α:Type}[DecidableEq α]{ns:List α}{r r':α→List α}{cs:List (List (α×α))}
def conn_iso(hr:r x=[])(h:Conn r x y):y=x:=by
 induction h with
 |refl=>rfl
 |step _ hz ih=>rw[ih,hr]at hz;cases hz
def Web.perm(C:Web ns r cs):cs.flatten.Perm (ns.flatMap λy=>(r y).map λx=>(x,y)):=by
 have nd:(ns.flatMap λy=>(r y).map λx=>(x,y)).Nodup:=by
  refine List.pairwise_flatMap.mpr ⟨λy _=>?_,?_⟩
  ·exact Kw _ (λa b h e=>h (congrArg Prod.fst e)) (C.rn y)
  ·refine List.Pairwise.imp ?_ C.nd
   intro a b iN x hx y hy e
   obtain⟨p,_,rfl⟩:=Qk.mp hx
   obtain⟨q,_,rfl⟩:=Qk.mp hy
   exact iN (congrArg Prod.snd e)
 refine(Uw C.cf nd).mpr λs=>?_
 rw[C.cm,Uz]
 constructor
 ·intro h
  exact⟨s.2,C.inn h,Qk.mpr ⟨s.1,h,rfl⟩⟩
 ·rintro ⟨y,_,h⟩
  obtain⟨p,hp,rfl⟩:=Qk.mp h
  exact hp
def Web.steps(C:Web ns r cs):cs.flatten.length=(ns.map λx=>(r x).length).sum:=by
 rw[C.perm.length_eq,List.length_flatMap]
 congr 1
 exact Yz λy _=>Qa _
def zfr{L:List α}(nd:L.Nodup){a:α}(h:a∈L)(k:Int):(L.map λl=>if a=l then k else 0).sum=k:=by
 have:=zen (g:=λ_=>(0:Int)) (g':=λl=>if a=l then k else 0) nd h λx _ hx=>if_neg λe=>hx e.symm
 rw[this,zdi λ_ _=>rfl,if_pos rfl];omega
def zfs{β:Type}(f g:β→Int):∀l:List β,(l.map λx=>f x+g x).sum=(l.map f).sum+(l.map g).sum:=by
 intro l
 induction l with
 |nil=>rfl
 |cons a t ih=>rw[Qm,Qm,Qm,Zf,Zf,Zf,ih];omega
def sum_exch{β:Type}{L:List α}(nd:L.Nodup)(f:β→α)(g:β→Int):∀{xs:List β},(∀x∈xs,f x∈L)→(L.map λl=>(xs.map λx=>if f x=l then g x else 0).sum).sum=(xs.map g).sum:=by
 intro xs
 induction xs with
 |nil=>intro _;exact zdi λ_ _=>rfl
 |cons a t ih =>
  intro h
  rw[Qm,Zf,←ih λx hx=>h x (Qh _ hx),←zfr nd (h a Qc) (g a),←zfs]
  refine zcm λl _=>?_
  rw[Qm,Zf]
def labels(lab:α→α):∀ ns:List α,∃ L:List α,L.Nodup∧(∀ x∈ns,lab x∈L)∧∀ l∈L,∃ x∈ns,lab x=l:=by
 intro ns
 induction ns with
 |nil=>exact⟨[],Zk,(by intro x h;cases h),(by intro x h;cases h)⟩
 | cons a t ih =>
  obtain⟨L,h1,h2,h3⟩:=ih
  by_cases h:lab a∈L
  ·refine ⟨L,h1,fun x hx=>?_,fun l hl=>?_⟩
   ·rcases Qd.mp hx with z | z
    ·rw[z];exact h
    ·exact h2 x z
   ·obtain ⟨x,hx,e⟩:=h3 l hl
    exact⟨x,Qh _ hx,e⟩
  ·refine ⟨lab a::L,Qv.mpr ⟨h,h1⟩,fun x hx=>?_,fun l hl=>?_⟩
   ·rcases Qd.mp hx with z | z
    ·rw[z];exact Qc
    ·exact Qh _ (h2 x z)
   ·rcases Qd.mp hl with z | z
    ·exact⟨a,Qc,z.symm⟩
    ·obtain ⟨x,hx,e⟩:=h3 l z
     exact⟨x,Qh _ hx,e⟩
def cert_flat{lab:α→α}(C:Cert ns r cs lab):Flat ns r cs:=by
 refine⟨⟨C.nd,C.ro,C.rn,C.ir,C.sy,C.cf,C.cm,C.cy⟩,λT hT hp=>?_⟩
 obtain⟨L,h1,h2,h3⟩:=labels lab ns
 have e1:(L.map λl=>wt ns r lab l).sum=(ns.map (vl r)).sum:=sum_exch h1 lab (vl r) h2
 have e2:(L.map λl=>ct cs lab l).sum=2*(cs.length:Int):=by
  have key:∀D:List (List (α×α)),(∀c∈D,c∈cs)→(L.map λl=>ct D lab l).sum=2*(D.length:Int):=by
   intro D
   induction D with
   |nil=>intro _;exact zdi λ_ _=>rfl
   | cons c D ih =>
    intro h
    have hc:=h c Qc
    obtain⟨s,t,rfl,_⟩:=C.cy c hc
    have ha:lab s.1∈L:=h2 _ (C.inn' (C.inc hc Qc))
    have hs:∀l∈L,ct ((s::t)::D) lab l=(if lab s.1=l then 2 else 0)+ct D lab l:=λl _=>by
     rw[zde,zdf (λu hu=>C.one_lab hc Qc hu) (Xf _ _)]
     congr 1
     by_cases e:lab s.1=l
     ·rw[if_pos e,if_pos (decide_eq_true e)]
     ·rw[if_neg e,if_neg (λz=>e (of_decide_eq_true z))]
    rw[zcm hs,zfs,zfr h1 ha,ih λd hd=>h d (Qh _ hd),Qx];omega
  exact key cs λ_ h=>h
 have e3:(L.map λl=>wt ns r lab l+ct cs lab l).sum=4*(L.length:Int):=by
  have:∀M:List α,(∀l∈M,l∈L)→(M.map λl=>wt ns r lab l+ct cs lab l).sum=4*(M.length:Int):=by
   intro M
   induction M with
   |nil=>intro _;rfl
   |cons a t ih =>
    intro h
    obtain⟨x,hx,e⟩:=h3 a (h a Qc)
    rw[Qm,Zf,ih λl hl=>h l (Qh _ hl),←e,C.eu x hx,Qx];omega
  exact this L λ_ h=>h
 rw[zfs,e1,e2]at e3
 have nd:(T.map lab).Nodup:=Jp.mpr (Je (λ{x y} hx hy h e=>h (C.co x (hT x hx) y (hT y hy) e)) hp)
 have:=nd.length_le_of_subset (l₂:=L) λl hl=>by
  obtain⟨x,hx,rfl⟩:=Qk.mp hl
  exact h2 x (hT x hx)
 rw[Qa]at this
 unfold tot
 omega
end
end Wb
end
section
namespace Wb
open PySem L2 K21
section
variable{α:Type}[DecidableEq α]{ns:List α}{r:α→List α}{cs:List (List (α×α))}
theorem iso_sum(r:α→List α):∀l:List α,(l.map (vl r)).sum=2*(l.length:Int)+2*((l.filter λx=>(r x).isEmpty).length:Int)-((l.map λx=>(r x).length).sum:Nat)
 |[]=>rfl
 |a::t=>by
  rw[Qm,Qm,Zf,Zf,iso_sum r t,List.filter_cons]
  unfold vl
  cases e:r a with
  |nil=>simp;omega
  |cons x q=>simp;omega
theorem six_len:∀{cs:List (List (α×α))},(∀c∈cs,6≤2*c.length+(c.filter p).length)→6*cs.length≤2*cs.flatten.length+(cs.flatten.filter p).length
 |[],_=>Qf _
 |a::t,h=>by
  have:=h a Qc
  have:=six_len (cs:=t) λc hc=>h c (Qh _ hc)
  rw[Ys,Qo,Qx,Yq,Qo];omega
theorem ones_len(r:α→List α):∀l:List α,((l.flatMap λy=>(r y).map λx=>(x,y)).filter λs:α×α=>(r s.2).length==1).length≤l.length
 |[]=>Qf _
 | a::t=>by
  rw[Uu,Yq,Qo,Qx]
  have:=ones_len r t
  have:(((r a).map λx=>(x,a)).filter λs:α×α=>(r s.2).length==1).length≤1:=by
   by_cases e:(r a).length=1
   ·exact Zd (Ur _ _) (by rw[Qa,e];exact Qf _)
   ·rw [List.filter_eq_nil_iff.mpr]
    ·exact Zi _
    ·intro s hs z
     obtain⟨x,_,rfl⟩:=Qk.mp hs
     exact e (beq_iff_eq.mp z)
  omega
def few_steps(F:Flat ns r cs):cs.flatten.length≤7*ns.length:=by
 have e3:=F.steps
 have e4:=six_len (cs:=cs) (p:=λs=>(r s.2).length==1) λc hc=>by
  obtain⟨s,t,rfl,k⟩:=F.cy c hc
  have hs:s.1∈r s.2:=(F.cm s).mp (Zp.mpr ⟨_,hc,Qc⟩)
  cases t with
  |nil =>
   have:s.2=s.1:=congrArg Prod.fst (show st r s=s from k)
   exact absurd (by rw[this]at hs;exact hs) (F.ir s.1)
  | cons y t =>
   cases t with
   |nil =>
    have hy:y.1∈r y.2:=(F.cm y).mp (Zp.mpr ⟨_,hc,Qh _ Qc⟩)
    have k1:st r s=y:=k.1
    have k2:st r y=s:=k.2
    have h3:=zh4 (F.rn s.2) hs ((congrArg Prod.snd k1).trans (congrArg Prod.fst k2))
    have h4:=zh4 (F.rn y.2) hy ((congrArg Prod.snd k2).trans (congrArg Prod.fst k1))
    rw[List.filter_cons,List.filter_cons,if_pos (by rw[h3];rfl),if_pos (by rw[h4];rfl)]
    exact Qf _
   |cons z t=>rw[Qx,Qx,Qx];omega
 have e5:=(F.perm.filter λs:α×α=>(r s.2).length==1).length_eq
 have e6:=ones_len r ns
 have:=F.fl (ns.filter λx=>(r x).isEmpty) (λt ht=>(Zj.mp ht).1) (Je (R:=(·≠·)) (λ{a b} ha _ iN hc=>iN (conn_iso (List.isEmpty_iff.mp (Zj.mp ha).2) hc).symm) (F.nd.filter _))
 unfold tot at this
 rw[iso_sum,←e3]at this
 omega
end
def few_pairs(C:Cert (es.map (·.1)) (row (rsOf es)) cs lab):2*(pairsOf (rsOf es)).length≤7*es.length:=by
 have few:=few_steps (cert_flat C)
 rw[Qa]at few
 have aB:(es.map (·.1)).Nodup:=C.nd
 have hp:∀q∈pairsOf (rsOf es),ltS q.1 q.2=true∧q.2∈row (rsOf es) q.1:=λq h=>by
  unfold pairsOf rsOf at h
  obtain⟨p,hp,h⟩:=Uz.mp h
  obtain⟨e,he,rfl⟩:=Qk.mp hp
  obtain⟨y,hy,rfl⟩:=Qk.mp h
  obtain⟨h1,h2⟩:=Zj.mp hy
  exact⟨h2,by rw[zbb aB he];exact h1⟩
 have nd:(pairsOf (rsOf es)).Nodup:=by
  unfold pairsOf rsOf
  rw[List.flatMap_map]
  refine List.pairwise_flatMap.mpr ⟨λe he=>?_,?_⟩
  ·have:=C.rn e.1
   rw[zbb aB he]at this
   exact Kw _ (λa b h e=>h (congrArg Prod.snd e)) (this.filter _)
  ·refine List.Pairwise.imp ?_ (Jp.mp aB)
   intro a b iN x hx y hy e
   obtain⟨p,_,rfl⟩:=Qk.mp hx
   obtain⟨q,_,rfl⟩:=Qk.mp hy
   exact iN (show a.1=b.1 from(Yu e).1)
 have nd2:(pairsOf (rsOf es)++(pairsOf (rsOf es)).map λq=>(q.2,q.1)).Nodup:=by
  refine Qy.mpr ⟨nd,Kw _ (λa b h e=>h (Kl (congrArg Prod.snd e) (congrArg Prod.fst e))) nd,λa ha b hb e=>?_⟩
  obtain⟨q,hq,rfl⟩:=Qk.mp hb
  subst e
  exact List.lt_asymm (of_decide_eq_true (hp _ ha).1) (of_decide_eq_true (hp q hq).1)
 have:=zba nd2 (m:=cs.flatten) λs hs=>(C.cm s).mpr (by
  rcases Qe.mp hs with h | h
  ·exact C.sy _ _ (hp s h).2
  ·obtain ⟨q,hq,rfl⟩:=Qk.mp h
   exact(hp q hq).2)
 rw[Qo,Qa]at this
 omega
end Wb
end
section
namespace K21
open PySem L2 Wb
abbrev sTwo:Stmt:=top 19
def dof_set(ks:Nd)(F:Str→V)(nd:ks.Nodup)(x:Str)(v:V):∃am,am.Nodup∧(∀y,y∈am↔y∈ks∨y=x)∧putK (dof ks F) (Sum.inr x) v=dof am λy=>if y=x then v else F y:=by
 by_cases h:x∈ks
 ·refine ⟨ks,nd,fun y=>⟨.inl,fun q=>q.elim id fun e=>e ▸ h⟩,?_⟩
  unfold putK
  rw[if_pos (by rw[zfh,zcp h];rfl)]
  unfold dof
  rw[Zq]
  refine Yz λy _=>?_
  show(if(Sum.inr y:Key)=Sum.inr x then _ else _)=_
  by_cases e:y=x
  ·rw[if_pos (by rw[e])];dsimp only;rw[if_pos e]
  ·rw[if_neg (λq=>e (Wr q))];dsimp only;rw[if_neg e]
 ·refine ⟨ks++[x],?_,fun y=>by rw [Qe,Qb],dof_put h v⟩
  rw[Qy]
  exact⟨nd,Yj _ _,λa ha b hb e=>h (by rw[←Qb.mp hb,←e];exact ha)⟩
inductive IspTwo(C:Nc)(vs:List V)(H:Hp)(Q:VK):Prop
 |mk (x dx d:Nc) (es:List Ent) (cs:List (List (Str×Str))) (lab:Nu) (h0:vs=[.ref x]) (h1:WAt H C x dx d es) (h2:es.length≤18) (h3:Cert (es.map (·.1)) (row (rsOf es)) cs lab) (h4:∀e∈es,e.2.1.length≤100)
  (h5:∀(t l:Nc) (ks:Nd) (c:Str→Int) (H':Hp),H' t=some (.tup [.str "hues",.ref l])→H' l=some (.dK (dof ks λy=>.int (c y)))→ks.Nodup→(∀y,y∈ks↔y∈es.map (·.1))→Clr (es.map (·.1)) (row (rsOf es)) lab c→H l=none→Keep [] H H'→Q (.ref t) H')
  (h6:∀(t l:Nc) (L:Nd) (H':Hp),H' t=some (.tup [.str "ring",.ref l])→H' l=some (.lst (L.map V.str))→zcb (es.map (·.1)) (row (rsOf es)) lab L→(¬∃c,Clr (es.map (·.1)) (row (rsOf es)) lab c)→zhl (row (rsOf es)) L→(∀z∈L,z∈es.map (·.1))→H l=none→Keep [] H H'→Q (.ref t) H'):IspTwo C vs H Q
def spTwo(C:Nc):Sp:=λvs H Q _=>IspTwo C vs H Q
section
variable{P:Nj}{w:Nl}{K:Na}{mg:Ng}{base:Nm}
def scTwo:zaq ["web", "hues", "piece", "parents", "place", "one", "other"] ["web"] (zag sTwo):=⟨rfl,rfl,rfl,by decide +kernel,rfl,by decide +kernel,by decide +kernel⟩
def ok_two(F:Fun K "two_hues" "two_hues" sTwo f fd)(cW:Cls K C)(FP:Fun K "pieces" "pieces" sPcs fp fdp)(bP:Binds K fdp ["web"] [])(mP:mg "pieces" = some (.ref fp))(GP:FnOk P w K mg base CX0 3 fp fdp ["web"] (spPcs C))(FC:Fun K "tree" "tree" sTree fc fdc)(bC:Binds K fdc ["web", "root"] [])(mC:mg "tree" = some (.ref fc))(GC:FnOk P w K mg base CX0 2 fc fdc ["web", "root"] (spTree C))(FW:Fun K "way_to" "way_to" sWay fw fdw)(bW:Binds K fdw ["parents", "place"] [])(mW:mg "way_to" = some (.ref fw))(GW:FnOk P w K mg base CX0 1 fw fdw ["parents", "place"] spWay)(FR:Fun K "ring_in" "ring_in" sRing fr fdr)(bR:Binds K fdr ["parents", "one", "other"] [])(mR:mg "ring_in" = some (.ref fr))(GR:FnOk P w K mg base CX0 2 fr fdr ["parents", "one", "other"] spRing)(mT:Meth K C "ties" ft)(bT:Binds K fdt ["self"] [])(GT:FnOk P w K mg base CX0 1 ft fdt ["self"] (spTies C))(a9:mg "len" = none):FnOk P w K mg base CX0 4 f fd ["web"] (spTwo C):=by
 refine F.ok scTwo (λvs H Q E h=>?_) (λcdv A outer s H vs Q E hr h=>?_)
 ·obtain ⟨x,dx,d,es,cs,lab,rfl,_⟩:=h
  rfl
 ·obtain ⟨x,dx,d,es,cs,lab,rfl,wt,aN,hC,aR,kA,kB⟩:=h
  have pC:=few_pairs hC
  have hu:=zb9 hr
  have aH:Room 1 _:=hr.mono (by decide)
  have bA:Room 2 _:=hr.mono (by decide)
  have aG:sizeLine=16777216:=sizeLine_eq
  refine⟨_,zae (zam (i:=1) scTwo.nd rfl (Or.inl rfl) zfl)
   (zae (zbc Zh rfl (zav (zak GP hr rfl mP FP.kp bP .nil zaw (zac (pv 0) zaf))) (zaj (i:=2) scTwo.nd rfl (Or.inl rfl))
    (zae (zam (i:=3) scTwo.nd rfl (Or.inl rfl) (zak GC bA rfl mC FC.kp bC .nil zaw (zac (pv 0) (zac (zck zbu (pv 2) zal (λ_ _=>rfl)) zaf))))
    (zae (zbc Zh rfl (zav (pv 2)) (zaj (i:=4) scTwo.nd rfl (Or.inl rfl))
     (zah (zce hu (pv 1) (pv 4) (zbd zfb (zbd op_sub (zai zan (by rfl) a9 Zx (zac (zak GW aH rfl mW FW.kp bW .nil zaw (zac (pv 3) (zac (pv 4) zaf))) zaf)) zal) zal) rfl)))
    (zah (zbc Zh rfl (zav (pe_meth0 (pl:=_) (pv 0) cW mT GT aH bT .nil zaw)) (ze8 rfl (zax (zaj (i:=5) scTwo.nd rfl (Or.inl rfl)) (zax (zaj (i:=6) scTwo.nd rfl (Or.inl rfl)) zcj)))
     (zah (zb5 (PW.pt (pw_and (zdq (pc_din hu (pv 5) (pv 3))) (pw_and1 (zas op_eq (zat hu (pv 1) (pv 5) (fun _ _=>rfl)) (zat hu (pv 1) (pv 6) (fun _ _=>rfl)) (zbf _)))))
      (zah (zbe (zdr (zac ze9 (zac (zak GR bA rfl mR FR.kp bR .nil zaw (zac (pv 3) (zac (pv 5) (zac (pv 6) zaf)))) zaf))))) za0)))))))
   (zah (zbe (zdr (zac ze9 (zac (pv 1) zaf)))))),?_⟩
  have aB:(es.map (·.1)).Nodup:=wt.ta.nd
  have gC:∀q:Str×Str,ltS q.1 q.2=true→q.2∈row (rsOf es) q.1→q∈pairsOf (rsOf es):=λq h1 h2=>by
   obtain⟨e,he,en⟩:=Qk.mp (hC.inn h2)
   have vC:e.1=q.1:=en
   rw[←vC,zbb aB he]at h2
   unfold pairsOf rsOf
   rw[Uz]
   refine⟨(e.1,e.2.1),Qk.mpr ⟨e,he,rfl⟩,Qk.mpr ⟨q.2,Zj.mpr ⟨h2,?_⟩,?_⟩⟩
   ·show ltS e.1 q.2=true
    rw[vC];exact h1
   ·show (e.1,q.2)=q
    rw[vC]
  have gB:∀q∈pairsOf (rsOf es),ltS q.1 q.2=true∧q.2∈row (rsOf es) q.1:=λq h=>by
   unfold pairsOf rsOf at h
   obtain⟨p,hp,h⟩:=Uz.mp h
   obtain⟨e,he,rfl⟩:=Qk.mp hp
   obtain⟨y,hy,rfl⟩:=Qk.mp h
   obtain⟨h1,h2⟩:=Zj.mp hy
   refine⟨h2,?_⟩
   show y∈row (rsOf es) e.1
   rw[zbb aB he];exact h1
  have ji:(es.map (·.1)).length=es.length:=Qa ..
  refine λha jO=>?_
  have k1:Keep [] H (upd H ha (.dK [])):=Keep.new jO
  have mx:(upd H ha (.dK [])) ha=some (.dK (dof [] λy=>V.int ((λ_=>0) y))):=zab
  generalize upd H ha (.dK [])=H1 at k1 mx
  have wt1:WAt H1 C x dx d es:=wt.keep k1 (by simp) (by simp) (λ_ _=>by simp)
  refine⟨_,rfl,x,dx,d,es,cs,lab,rfl,wt1,by omega,hC,λl as zss H2 ah fg e9 ai k2=>?_⟩
  have uo:=k2 _ _ mx (by simp)
  have sn:Keep [] H H2:=k1.trans k2
  have wt2:WAt H2 C x dx d es:=wt1.keep k2 (by simp) (by simp) (λ_ _=>by simp)
  have nxh:x≠ha:=zaa wt.ob jO
  have ndh:d≠ha:=zaa wt.ta.dc jO
  have nrh:∀e∈es,e.2.2≠ha:=λe he=>zaa (wt.ta.ro e he) jO
  have nlh:l≠ha:=zay ah uo (by intro z;cases z)
  have cz:∀zs∈zss,∀y∈zs,y∈es.map (·.1):=λzs hz y hy=>by
   obtain⟨_,s,_,hm⟩:=e9 zs hz
   exact((hm y).mp hy).1
  have e7:∀y∈es.map (·.1),∃a,Rt (es.map (·.1)) lab a∧lab a=lab y∧∃t,a::t∈zss:=λy hy=>by
   obtain⟨zs,hz,iz⟩:=ai.al y hy
   cases zs with
   |nil=>cases iz
   |cons a t =>
    obtain⟨h1,h2⟩:=zet (e9 _ hz) (ai.so _ hz)
    exact⟨a,h1,((h2 y).mp iz).2.symm,t,hz⟩
  generalize mj:row (rsOf es)=r at hC kA kB gC gB
  generalize bG:es.map (·.1)=ns at hC kA kB aB e9 ai cz e7 ji
  refine⟨l,rfl,⟨_,SqL.of ah⟩,zbr (xs:=as.map V.ref) (λi σ H'=>Ex2 λ(ks:Nd) (c:Str→Int)=>Aj6 (Ex5 λx2 x3 x4 x5 x6=>σ=[some (.ref x),some (.ref ha),x2,x3,x4,x5,x6]) (H' ha=some (.dK (dof ks λy=>.int (c y)))) ks.Nodup (∀y,y∈ks↔∃zs∈zss.take i,y∈zs) (∀a t,a::t∈zss.take i→Done r c a) (Keep [ha] H2 H'))
   ⟨[],_,⟨_,_,_,_,_,rfl⟩,uo,Zk,λy=>⟨λh=>(by cases h),λ⟨zs,h,_⟩=>(by cases h)⟩,λa t h=>(by cases h),Keep.refl⟩ (λi σ H' _ hh=>by obtain⟨_,_,h⟩:=hh;exact SqL.of (h.h5 _ _ ah (by simpa using nlh))) ?_ ?_⟩
  ·rintro i v σ H3 hx ⟨ks,c,⟨x2,x3,x4,x5,x6,rfl⟩,lq,bx,gS,qY,k3⟩
   have hi:i<as.length:=by
    have:=(Zb.mp hx).1
    rwa[Qa]at this
   have gj:v=.ref as[i]:=by
    rw[Qz,Qg hi]at hx
    exact(Qp hx).symm
   subst gj
   obtain⟨ar,dP⟩:=za8 fg hi
   have ma:zss[i]∈zss:=Qq ar
   have tki:zss.take (i+1)=zss.take i++[zss[i]]:=Qn ar
   have oB:∀a∈zss[i].head?,∀b t,b::t∈zss→b::t∉zss.take i→leS a b:=λa ha b t hb hnb=>by
    obtain⟨m,hm,em⟩:=Zo hb
    rcases Kt m i with q | q | q
    ·refine absurd ?_ hnb
     rw[←em,←Ws (j:=i) (h:=by rw[Zn];omega)]
     exact Qq _
    ·subst q
     rw[em]at ha
     cases ha
     exact λz=>Ya _ z
    ·exact Wf.mp ai.hd i m ar hm q a ha b (by rw[em];rfl)
   have naih:as[i]≠ha:=zay dP uo (by intro z;cases z)
   have dk:H3 as[i]=some (.lst (zss[i].map V.str)):=k3 _ _ dP (by simpa using naih)
   generalize qD:zss[i]=zs at ma dk tki oB
   cases hzs:zs with
   |nil =>
    obtain⟨_,s,hs,hm⟩:=e9 zs ma
    exact absurd ((hm s).mpr ⟨hs,rfl⟩) (by rw[hzs];simp)
   |cons a t =>
   subst hzs
   obtain⟨cU,dy⟩:=zet (e9 _ ma) (ai.so _ ma)
   have wt3:WAt H3 C x dx d es:=wt2.keep k3 (by simpa using nxh) (by simpa using ndh) λe he=>by simpa using nrh e he
   refine⟨_,rfl,_,rfl,as[i],_,_,_,rfl,rfl,SqL.of dk,zbo (j:=0) rfl,x,dx,d,es,a,rfl,wt3,by omega,by rw[bG];exact cU.1,by rw[mj];exact hC.sy,by rw[mj,bG];exact λa b h=>hC.inn' h,aR,λpa am par ds H4 aI T uc ll fpa k4=>?_⟩
   rw[mj]at T
   rw[bG]at ll
   have aw:∀y,y∈am↔y∈a::t:=λy=>(T.all hC cU.1 y).trans (dy y).symm
   have hkl':am.length≤60:=Zd (zba uc ll) (by omega)
   have hh4:=k4 _ _ lq (by simp)
   have jt:=k4 _ _ dk (by simp)
   have npah:pa≠ha:=Zc (zaa lq fpa)
   have kN:∀{bh:Nd} {m:Nat},(∀y,y∈bh↔y∈ks∨y∈(a::t).take m)→∀y∈bh,y∈ns:=λh y hy=>by
    rcases(h y).mp hy with q | q
    ·obtain ⟨zs,hz,iz⟩:=(gS y).mp q
     exact cz zs (We hz) y iz
    ·exact cz _ ma y (We q)
   refine⟨_,rfl,as[i],rfl,⟨_,SqL.of jt⟩,zco (zs:=(a::t)) (λj σ H'=>Ex1 λ(bh:Nd)=>Aj5 (Ex3 λx4 x5 x6=>σ=[some (.ref x),some (.ref ha),some (.ref as[i]),some (.ref pa),x4,x5,x6]) (H' ha=some (.dK (dof bh λy=>.int (if y∈(a::t).take j then((ds y%2:Nat):Int) else c y)))) bh.Nodup (∀y,y∈bh↔y∈ks∨y∈(a::t).take j) (Keep [ha] H4 H'))
    ⟨ks,⟨_,_,_,rfl⟩,hh4,bx,λy=>⟨.inl,λh=>h.elim id λh=>by cases h⟩,Keep.refl⟩ (λj σ H' _ hh=>by obtain⟨_,h⟩:=hh;exact SqL.of (h.h4 _ _ jt (by simpa using naih))) ?_ ?_⟩
   ·rintro j hj σ H5 ⟨bh,⟨y4,y5,y6,rfl⟩,ph,qT,lg,k5⟩
    have tkj:(a::t).take (j+1)=(a::t).take j++[(a::t)[j]]:=Qn hj
    have sB:(a::t)[j]∈am:=(aw _).mpr (Qq hj)
    generalize(a::t)[j]=y at tkj sB
    have ax:=k5 _ _ aI (by simpa using npah)
    refine⟨_,rfl,_,rfl,pa,r,a,am,par,ds,y,rfl,ax,T,sB,by omega,λwl L H6 hL6 wL fwl k6=>?_⟩
    have vh:=T.wlen sB wL
    have pf:=k6 _ _ ph (by simp)
    have hks1:bh.length≤60:=Zd (zba qT (kN lg)) (by omega)
    obtain⟨cg,bQ,cq,e2⟩:=dof_set bh (λy=>V.int (if y∈(a::t).take j then((ds y%2:Nat):Int) else c y)) qT y (V.int (((((L.map V.str).length:Nat):Int)-1)%2))
    refine⟨wl,_,rfl,.inl (SqL.of hL6),_,_,rfl,rfl,_,_,rfl,rfl,by decide,_,rfl,_,rfl,ha,_,rfl,DPut.k (k:=Sum.inr y) pf (by rw[ze0];omega),?_⟩
    refine⟨cg,⟨_,_,_,rfl⟩,?_,bQ,λz=>?_,k5.trans ((k6.sub (by simp)).trans (Keep.wr Qc))⟩
    ·rw [zab,e2]
     congr 2
     refine zdc λz _=>?_
     rw[tkj]
     by_cases e:z=y
     ·subst e
      rw[if_pos rfl,if_pos (by simp),Qa,vh]
      congr 1
      omega
     ·rw [if_neg e]
      congr 1
      by_cases m:z∈(a::t).take j
      ·rw[if_pos m,if_pos (Ql _ m)]
      ·rw[if_neg m,if_neg (λq=>(Qe.mp q).elim m λq=>e (Qb.mp q))]
    ·rw[cq,lg,tkj,Qe,Qb,or_assoc]
   ·rintro σ H5 ⟨bh,⟨y4,y5,y6,rfl⟩,ph,qT,lg,k5⟩
    rw[Qa,Qr (Qf _)]at lg ph
    have ax:=k5 _ _ aI (by simpa using npah)
    have np:WAt H5 C x dx d es:=(wt3.keep k4 (by simp) (by simp) (λ_ _=>by simp)).keep k5 (by simpa using nxh) (by simpa using ndh) λe he=>by simpa using nrh e he
    obtain⟨c1,hc⟩:∃c1:Str→Int,∀y,(if y∈a::t then((ds y%2:Nat):Int) else c y)=c1 y:=⟨_,λ_=>rfl⟩
    simp only[hc]at ph
    have ba:∀y∈am,c1 y=((ds y%2:Nat):Int):=λy hy=>(hc y).symm.trans (if_pos ((aw y).mp hy))
    have pL:∀b t',b::t'∈zss.take i→Done r c1 b:=λb t' hb=>by
     have D:=qY b t' hb
     have hbz:=We hb
     obtain⟨hbr,hbm⟩:=zet (e9 _ hbz) (ai.so _ hbz)
     refine D.keep hC hbr.1 λy hy hl=>?_
     rw[←hc]
     by_cases e:y∈a::t
     ·rw [if_pos e]
      obtain rfl:=cU.one hbr (((dy y).mp e).2.symm.trans hl)
      obtain⟨jB,par0,ds0,T0,h1,_⟩:=D.ex
      have o:=T.one (λ_ _=>Iff.rfl) hC.sy T0 y ((aw y).mpr e)
      rw[h1 y o.1,o.2.1]
     ·rw[if_neg e]
    have ue:∀y,y∈bh↔∃zs∈zss.take (i+1),y∈zs:=λy=>by
     rw[lg,gS,tki]
     constructor
     ·rintro (⟨zs,h1,h2⟩ | h)
      ·exact⟨zs,Ql _ h1,h2⟩
      ·exact⟨_,Qi _ Qc,h⟩
     ·rintro ⟨zs,h1,h2⟩
      rcases Qe.mp h1 with q | q
      ·exact .inl ⟨zs,q,h2⟩
      ·exact .inr (by rw[←Qb.mp q];exact h2)
    have sm:Keep [ha] H2 H5:=(k3.trans (k4.sub (by simp))).trans k5
    refine⟨_,rfl,x,dx,_,rfl,np.ob,rfl,x,dx,d,es,rfl,np,by omega,aR,λl2 cJ qs H6 u7 dC tH tG k6=>?_⟩
    replace tG:=tG (by omega)
    have pf:=k6 _ _ ph (by simp)
    have aX:=k6 _ _ ax (by simp)
    refine⟨l2,rfl,⟨_,SqL.of u7⟩,zbr (xs:=cJ.map V.ref) (λj σ H'=>Aj3 (H'=H6) (Ex3 λx4 x5 x6=>σ=[some (.ref x),some (.ref ha),some (.ref as[i]),some (.ref pa),x4,x5,x6]) (∀q∈qs.take j,¬Odd r am ds q))
     ⟨rfl,⟨_,_,_,rfl⟩,λz hz=>by cases hz⟩ (λi σ H' _ hh=>by rw[hh.1];exact SqL.of u7) ?_ ?_⟩
    ·rintro j v σ H7 sC ⟨rfl,⟨z4,z5,z6,rfl⟩,aK⟩
     have hj:j<cJ.length:=by
      have:=(Zb.mp sC).1
      rwa[Qa]at this
     have gj:v=.ref cJ[j]:=by
      rw[Qz,Qg hj]at sC
      exact(Qp sC).symm
     subst gj
     obtain⟨iG,rg⟩:=za8 dC hj
     have hqj:qs[j]∈pairsOf (rsOf es):=tH.mem_iff.mp (Qq iG)
     obtain⟨aa,dY⟩:=gB _ hqj
     have tkj:qs.take (j+1)=qs.take j++[qs[j]]:=Qn iG
     have hZ:∀q',Odd r am ds q'→leP qs[j] q':=λq' o=>by
      obtain⟨m,hm,em⟩:=Zo (tH.mem_iff.mpr (gC q' o.l o.t))
      rcases Kt m j with q | q | q
      ·refine absurd o (aK q' ?_)
       rw[←em,←Ws (j:=j) (h:=by rw[Zn];omega)]
       exact Qq _
      ·subst q
       rw[em]
       exact leP_iff.mpr ⟨λz=>Ya _ z,.inr λz=>Ya _ z⟩
      ·rw [← em]
       exact Wf.mp tG j m iG hm q
     generalize qs[j]=q at rg hqj aa dY tkj hZ
     have cp:¬Odd r am ds q→∀q'∈qs.take (j+1),¬Odd r am ds q':=λh q' fT=>by
      rw[tkj]at fT
      rcases Qe.mp fT with z | z
      ·exact aK q' z
      ·rw[Qb.mp z];exact h
     have g0:=DGet.k (k:=Sum.inr q.1) aX
     refine⟨cJ[j],_,rfl,SqT.of rg,rfl,_,_,rfl,_,_,rfl,rfl,?_⟩
     by_cases cL:q.1∈am
     ·rw [zcp cL] at g0
      have bm:q.2∈am:=(T.on _ cL _ dY).1
      have g1:=DGet.k (k:=Sum.inr q.1) pf
      rw[zcp ((lg _).mpr (.inr ((aw _).mp cL)))]at g1
      have g2:=DGet.k (k:=Sum.inr q.2) pf
      rw[zcp ((lg _).mpr (.inr ((aw _).mp bm)))]at g2
      refine⟨_,rfl,_,rfl,pa,_,rfl,g0,_,rfl,zb6 rfl ?_⟩
      refine⟨_,rfl,_,rfl,ha,_,rfl,g1,_,rfl,_,rfl,ha,_,rfl,g2,rfl,_,rfl,?_⟩
      rw[ba _ cL,ba _ bm]
      by_cases pF:ds q.1%2=ds q.2%2
      ·refine zb6 (decide_eq_true (by rw [pF])) ?_
       have oC:Odd r am ds q:=⟨cL,dY,aa,pF⟩
       refine⟨_,rfl,_,rfl,_,rfl,pa,r,a,am,par,ds,q.1,q.2,rfl,aX,T,cL,bm,by omega,λlr D B H8 hr8 wD wB flr k8=>?_⟩
       refine⟨(by show 2≤sizeLine;decide),λtt o0=>?_⟩
       have ap:q.1≠q.2:=λe=>by rw[e]at dY;exact hC.ir _ dY
       obtain⟨cX,tz,_⟩:=T.ring hC.sy wD wB cL bm (hC.sy _ _ dY) ap pF
       have se:Keep [ha] H H8:=((sn.sub (by simp)).trans sm).trans ((k6.trans k8).sub (by simp))
       refine kB tt lr (ze7 D B) _ zab (by rw[zad (zaa hr8 o0)];exact hr8) ?_ (Odd.none hC cU T oC) cX (λz hz=>ll z (tz z hz)) ?_ ((se.cut jO).trans (Keep.new o0))
       ·refine ⟨a,am,par,ds,q,D,B,cU,T,oC,wD,wB,rfl,fun gb ks'' aq bu q' h1 h2 h3=>?_,hZ⟩
        obtain⟨b,hb,f',t',v6⟩:=e7 gb h1.1
        obtain rfl:=hb.one h1 f'
        refine oB a rfl b t' v6 λuk=>?_
        exact(pL b t' uk).no hC.sy h2 q' h3
       ·exact zbi (xs:=[]) (((sn.sub (by simp)).trans sm).cut jO |>.trans k6) flr (by simp)
      ·refine za5 (decide_eq_false (fun e=>pF (by injection e with e;omega))) ?_
       exact⟨rfl,⟨_,_,_,rfl⟩,cp λo=>pF o.o⟩
     ·rw [zgm cL] at g0
      refine⟨_,rfl,_,rfl,pa,_,rfl,g0,_,rfl,za5 rfl ?_⟩
      exact iteF ⟨rfl,⟨_,_,_,rfl⟩,cp λo=>cL o.k⟩
    ·rintro σ H7 ⟨rfl,⟨z4,z5,z6,rfl⟩,aK⟩
     rw[Qa,Yb dC,Qr (Qf _)]at aK
     refine⟨bh,c1,⟨_,_,_,_,_,rfl⟩,pf,qT,ue,λb t' hb=>?_,sm.trans (k6.sub (by simp))⟩
     rw[tki]at hb
     rcases Qe.mp hb with z | z
     ·exact pL b t' z
     ·have e:=Qb.mp z
      injection e with e1 e2
      subst e1
      exact⟨am,par,ds,T,ba,λq o=>aK q (tH.mem_iff.mpr (gC q o.l o.t)) o⟩
  ·rintro σ H3 ⟨ks,c,⟨x2,x3,x4,x5,x6,rfl⟩,lq,bx,gS,qY,k3⟩
   rw[Qa,Yb fg,Qr (Qf _)]at gS qY
   have di:Clr ns r lab (λy=>if y∈ns then c y else 0):=clr_of hC (λy hy=>by
    obtain⟨b,hb,f',t',v6⟩:=e7 y hy.1
    obtain rfl:=hb.one hy f'
    exact qY b t' v6) λy hy=>by
    obtain⟨b,hb,f',_⟩:=e7 y hy
    exact⟨b,hb,f'⟩
   have gR:∀y,y∈ks↔y∈ns:=λy=>(gS y).trans ⟨λ⟨zs,h1,h2⟩=>cz zs h1 y h2,λh=>ai.al y h⟩
   refine⟨_,rfl,(by show 2≤sizeLine;decide),λtt o0=>?_⟩
   refine kA tt ha ks _ _ zab ?_ bx gR di jO ((((sn.sub (by simp)).trans k3).cut jO).trans (Keep.new o0))
   rw[zad (zaa lq o0),lq]
   congr 2
   exact zdc λy hy=>by
    rw[if_pos ((gR y).mp hy)]
end
end K21
end
section
namespace Wb
open PySem L2 K21
variable{ns:Nd}{r:No}{cs:List (List (Str×Str))}{lab:Nu}{ks wl:Nd}{s:Str→Int}{ex ql:Str→Str→Prop}
structure Sd(ns:Nd)(r:No)(lab:Nu)(ks wl:Nd)(s:Str→Int)(ex:Str→Str→Prop):Prop where
 nd:ks.Nodup
 wn:wl.Nodup
 wk:∀z∈wl,z∈ks
 kn:∀z∈ks,z∈ns
 b:∀y,s y=0∨s y=1
 ag:∀c,Clr ns r lab c→∀y∈ks,s y=c y
 cl:∀z∈ks,z∉wl→∀y∈r z,y∈ks∨ex z y
def setS(s:Str→Int)(x:Str)(v:Int):Str→Int:=λy=>if y=x then v else s y
def zev(h:l.Nodup)(g:x∉l):(l++[x]).Nodup:=by
 rw[Qy]
 exact⟨h,Yj _ _,λa ha b hb e=>g (by rw[←Qb.mp hb,←e];exact ha)⟩
def conn_in(h:Conn r x y)(hx:x∈ks)(hc:∀u∈ks,∀v∈r u,v∈ks):y∈ks:=by
 induction h with
 |refl=>exact hx
 |step _ hz ih=>exact hc _ ih _ hz
def Sd.init:Sd ns r lab [] [] (λ_=>0) ex:=⟨Zk,Zk,λ_ h=>(by cases h),λ_ h=>(by cases h),λ_=>.inl rfl,λ_ _ _ h=>(by cases h),λ_ h=>(by cases h)⟩
def Sd.root(D:Sd ns r lab ks [] s (λ_ _=>False))(C:Cert ns r cs lab)(hx:x∈ns)(hk:x∉ks)(hb:∀y∈ns,ltS y x=true→y∈ks):Sd ns r lab (ks++[x]) [x] (setS s x 0) (λ_ _=>False):=by
 refine⟨zev D.nd hk,Yj _ _,λz hz=>Qi _ hz,λz hz=>?_,λy=>?_,λc hc y hy=>?_,λz hz hzx y hy=>?_⟩
 ·rcases Qe.mp hz with q | q
  ·exact D.kn z q
  ·rw[Qb.mp q];exact hx
 ·unfold setS
  by_cases e:y=x
  ·rw[if_pos e];exact .inl rfl
  ·rw[if_neg e];exact D.b y
 ·unfold setS
  by_cases e:y=x
  ·rw [if_pos e,e]
   refine(hc.z x ⟨hx,λz hz hl=>?_⟩).symm
   intro aa
   have dz:z∈ks:=hb z hz (decide_eq_true aa)
   have qZ:Conn r z x:=C.co z hz x hx hl
   refine hk ?_
   exact conn_in qZ dz λu hu v hv=>(D.cl u hu (by simp) v hv).elim id False.elim
  ·rw [if_neg e]
   rcases Qe.mp hy with q | q
   ·exact D.ag c hc y q
   ·exact absurd (Qb.mp q) e
 ·rcases Qe.mp hz with q | q
  ·exact .inl (Ql _ ((D.cl z q (by simp) y hy).elim id False.elim))
  ·exact absurd q hzx
def Sd.pop(D:Sd ns r lab ks (ini++[z]) s (λ_ _=>False))(he:∀y∈r z,ex z y):Sd ns r lab ks ini s ex:=by
 have hn:=D.wn
 rw[Qy]at hn
 refine⟨D.nd,hn.1,λz hz=>D.wk z (Ql _ hz),D.kn,D.b,D.ag,λu hu hui y hy=>?_⟩
 by_cases e:u=z
 ·subst e;exact .inr (he y hy)
 ·exact(D.cl u hu (λq=>(Qe.mp q).elim hui λq=>e (Qb.mp q)) y hy).elim .inl False.elim
def Sd.had(D:Sd ns r lab ks wl s ex)(h:∀z y,ex z y→ql z y∨y∈ks):Sd ns r lab ks wl s ql :=
 ⟨D.nd,D.wn,D.wk,D.kn,D.b,D.ag,λz hz hw y hy=>(D.cl z hz hw y hy).elim .inl λq=>(h z y q).elim .inr .inl⟩
def Sd.add(D:Sd ns r lab ks wl s ex)(C:Cert ns r cs lab)(hz:z∈ks)(ho:o∈r z)(hk:o∉ks)(h:∀ z y,ex z y→ql z y∨y=o):Sd ns r lab (ks++[o]) (wl++[o]) (setS s o (1 - s z)) ql:=by
 refine⟨zev D.nd hk,zev D.wn λq=>hk (D.wk o q),λu hu=>?_,λu hu=>?_,λy=>?_,λc hc y hy=>?_,λu hu qH y hy=>?_⟩
 ·rcases Qe.mp hu with q | q
  ·exact Ql _ (D.wk u q)
  ·exact Qi _ q
 ·rcases Qe.mp hu with q | q
  ·exact D.kn u q
  ·rw[Qb.mp q];exact C.inn' ho
 ·unfold setS
  by_cases e:y=o
  ·rw[if_pos e];have:=D.b z;omega
  ·rw[if_neg e];exact D.b y
 ·unfold setS
  by_cases e:y=o
  ·rw[if_pos e,e,hc.one ho,D.ag c hc z hz]
  ·rw [if_neg e]
   rcases Qe.mp hy with q | q
   ·exact D.ag c hc y q
   ·exact absurd (Qb.mp q) e
 ·rcases Qe.mp hu with q | q
  ·rcases D.cl u q (fun q2=>qH (Ql _ q2)) y hy with g | g
   ·exact .inl (Ql _ g)
   ·rcases h u y g with m | m
    ·exact .inr m
    ·exact .inl (by rw[m];simp)
  ·exact absurd (Qi _ q) qH
def root_ex:∀ {l:Nd},l≠[]→∃ x∈l,∀ y∈l,leS x y:=by
 intro l
 induction l with
 |nil=>intro h;exact absurd rfl h
 | cons a t ih =>
  intro _
  by_cases h:t=[]
  ·subst h
   exact⟨a,Qc,λy hy=>by rw[Qb.mp hy];exact λz=>Ya _ z⟩
  ·obtain ⟨x,hx,hm⟩:=ih h
   by_cases g:leS a x
   ·refine ⟨a,Qc,fun y hy=>?_⟩
    rcases Qd.mp hy with q | q
    ·rw[q];exact λz=>Ya _ z
    ·exact Kc.mpr (List.le_trans (Kc.mp g) (Kc.mp (hm y q)))
   ·refine ⟨x,Qh _ hx,fun y hy=>?_⟩
    rcases Qd.mp hy with q | q
    ·rw[q];exact λz=>g λz2=>List.lt_asymm z z2
    ·exact hm y q
def rt_ex(hy:y∈ns):∃x,Rt ns lab x∧lab x=lab y:=by
 have ap:ns.filter (λz=>decide (lab z=lab y))≠[]:=λh=>by
  have:y∈ns.filter (λz=>decide (lab z=lab y)):=Zj.mpr ⟨hy,decide_eq_true rfl⟩
  rw[h]at this;cases this
 obtain⟨x,hx,hm⟩:=root_ex ap
 obtain⟨h1,h2⟩:=Zj.mp hx
 have h2:=of_decide_eq_true h2
 exact⟨x,⟨h1,λz hz hl=>hm z (Zj.mpr ⟨hz,decide_eq_true (hl.trans h2)⟩)⟩,h2⟩
def clr_sides(C:Cert ns r cs lab)(b:∀y,s y=0∨s y=1)(h:∀x y,y∈r x→s x≠s y):∃c,Clr ns r lab c:=by
 obtain⟨g,hg⟩:∃g:Str→Str,∀y∈ns,Rt ns lab (g y)∧lab (g y)=lab y :=
  ⟨fun y=>if hy:y∈ns then (rt_ex (lab:=lab) hy).choose else y,fun y hy=>by
   dsimp only;rw[dif_pos hy];exact(rt_ex (lab:=lab) hy).choose_spec⟩
 have hgg:∀x∈ns,∀y∈ns,lab x=lab y→g x=g y:=λx hx y hy hl=>(hg x hx).1.one (hg y hy).1 ((hg x hx).2.trans (hl.trans (hg y hy).2.symm))
 refine⟨λy=>if y∈ns then(if s y=s (g y) then 0 else 1) else 0,λx=>?_,λx y bZ=>?_,λx hr=>?_⟩
 ·by_cases e:x∈ns
  ·rw [if_pos e]
   by_cases e2:s x=s (g x)
   ·rw[if_pos e2];exact .inl rfl
   ·rw[if_neg e2];exact .inr rfl
  ·exact .inl (if_neg e)
 ·have hx:=C.inn bZ
  have hy:=C.inn' bZ
  rw[if_pos hx,if_pos hy,hgg y hy x hx (C.la x y bZ)]
  have:=h x y bZ
  have b1:=b x
  have b2:=b y
  have b3:=b (g x)
  by_cases e1:s x=s (g x)
  ·rw[if_pos e1,if_neg (by omega)];decide
  ·rw[if_neg e1,if_pos (by omega)];decide
 ·have:g x=x:=(hg x hr.1).1.one hr (hg x hr.1).2
  rw[if_pos hr.1,this,if_pos rfl]
end Wb
end
section
namespace K21
open PySem L2 Wb
abbrev zg1:Stmt:=top 40
def dof_setS(h:x∉ks)(v:Int):putK (dof ks λy=>V.int (s y)) (Sum.inr x) (V.int v)=dof (ks++[x]) λy=>V.int (setS s x v y):=by
 rw[dof_put h]
 refine zdc λy _=>?_
 unfold setS
 by_cases e:y=x
 ·rw[if_pos e,if_pos e]
 ·rw[if_neg e,if_neg e]
inductive IspSides(vs:List V)(H:Hp)(Q:VK):Prop
 |mk (d:Nc) (es:List Ent) (cs:List (List (Str×Str))) (lab:Nu) (h0:vs=[.ref d]) (h1:RAt H d es) (h2:es.length≤60) (h3:Cert (es.map (·.1)) (row (rsOf es)) cs lab)
  (h4:∀(l:Nc) (ks:Nd) (s:Str→Int) (H':Hp),H' l=some (.dK (dof ks λy=>.int (s y)))→ks.Nodup→(∀y,y∈ks↔y∈es.map (·.1))→(∀y,s y=0∨s y=1)→(∀c,Clr (es.map (·.1)) (row (rsOf es)) lab c→∀y∈es.map (·.1),s y=c y)→H l=none→Keep [] H H'→Q (.ref l) H'):IspSides vs H Q
def zhn:Sp:=λvs H Q _=>IspSides vs H Q
section
variable{P:Nj}{w:Nl}{K:Na}{mg:Ng}{base:Nm}
def zeq:zaq ["_law_rounds_here", "_law_found", "_law_root", "_law_row", "_law_name", "_law_other"] ["_law_rounds_here"] (zag zg1):=⟨rfl,rfl,rfl,by decide +kernel,rfl,by decide +kernel,by decide +kernel⟩
def ok_sides(F:Fun K "_law_sides" "_law_sides" zg1 f fd)(ay:mg "sorted" = none):FnOk P w K mg base CX0 1 f fd ["_law_rounds_here"] zhn:=by
 refine F.ok zeq (λvs H Q E h=>?_) (λcdv A outer s H vs Q E hr h=>?_)
 ·obtain ⟨d,es,cs,lab,rfl,_⟩:=h
  rfl
 ·obtain ⟨d,es,cs,lab,rfl,R,aN,C,k⟩:=h
  have hu:=zb9 hr
  have eQ:=Ut hu
  have aG:sizeLine=16777216:=sizeLine_eq
  refine⟨_,zae (zam (i:=1) zeq.nd rfl (Or.inl rfl) zfl)
   (zae (zbc Zh rfl (zav (zai (zbs rfl) (by rfl) ay Yd (zac (pv 0) zaf))) (zaj (i:=2) zeq.nd rfl (Or.inl rfl))
    (zah (zb5 (zdq (zbz hu (pv 2) (pv 1)))
     (zae (zce hu (pv 1) (pv 2) zal rfl)
     (zae (zam (i:=3) zeq.nd rfl (Or.inl rfl) (zbh (zac (pv 2) zaf)))
     (zah (zdl Zh (zas (zf7 eQ) (pv 3) (zbh zaf) (zbf _))
      (zae (zam (i:=4) zeq.nd rfl (Or.inl rfl) (zg6 Zm PySem.F.slot_list_pop PySem.F.type_list_pop mt_pop (pv 3)))
      (zah (zbc Zh rfl (zav (zat hu (pv 0) (pv 4) (fun _ _=>rfl))) (zaj (i:=5) zeq.nd rfl (Or.inl rfl))
       (zah (zb5 (zdq (zbz hu (pv 5) (pv 1)))
        (zae (zce hu (pv 1) (pv 5) (zbd op_sub zal (zat hu (pv 1) (pv 4) (λ_ _=>rfl))) rfl)
        (zah (za6 (zd9 Zm Yo Yn zb0 (pv 3) (zac (pv 5) zaf))))) za0)))))))))
     za0)))
   (zah (zbe (pv 1)))),?_⟩
  have af:∀e∈es,row (rsOf es) e.1=e.2.1:=λe he=>zbb R.nd he
  have eG:=zee es
  refine λfo dq=>?_
  have k1:Keep [] H (upd H fo (.dK [])):=Keep.new dq
  have cH:(upd H fo (.dK [])) fo=some (.dK (dof [] λy=>V.int ((λ_=>0) y))):=zab
  generalize upd H fo (.dK [])=H1 at k1 cH
  have R1:RAt H1 d es:=R.keep k1 (by simp) (λ_ _=>by simp)
  refine⟨_,rfl,d,_,es.map (·.1),rfl,.inl R1.dc,eG,λl ws hl ae ao=>?_⟩
  replace ao:=ao (by rw[Qa];omega)
  have k2:Keep [] H (upd H1 l (.lst (ws.map V.str))):=k1.trans (Keep.new hl)
  have ah:(upd H1 l (.lst (ws.map V.str))) l=some (.lst (ws.map V.str)):=zab
  have dO:(upd H1 l (.lst (ws.map V.str))) fo=some (.dK (dof [] λy=>V.int ((λ_=>0) y))):=by rw[zad (zaa cH hl)];exact cH
  generalize upd H1 l (.lst (ws.map V.str))=H2 at k2 ah dO
  have nlf:l≠fo:=zay ah dO (by intro z;cases z)
  have ndf:d≠fo:=zaa R.dc dq
  have nrf:∀e∈es,e.2.2≠fo:=λe he=>zaa (R.ro e he) dq
  have R2:RAt H2 d es:=R.keep k2 (by simp) (λ_ _=>by simp)
  have ji:(es.map (·.1)).length=es.length:=Qa ..
  have aR:∀e∈es,e.2.1.length≤60:=λe he=>by
   have:=zba (af e he▸C.rn e.1) λy hy=>C.inn' (x:=e.1) (by rw[af e he];exact hy)
   omega
  generalize row (rsOf es)=r at C k af
  generalize bG:es.map (·.1)=ns at C k ji ae
  refine⟨l,rfl,⟨_,SqL.of ah⟩,zco (zs:=ws) (λi σ H'=>Ex2 λ(ks:Nd) (s:Str→Int)=>Aj5 (Ex4 λx2 x3 x4 x5=>σ=[some (.ref d),some (.ref fo),x2,x3,x4,x5]) (H' fo=some (.dK (dof ks λy=>.int (s y)))) (Sd ns r lab ks [] s (λ_ _=>False)) (∀y∈ws.take i,y∈ks) (Keep [fo] H2 H'))
   ⟨[],_,⟨_,_,_,_,rfl⟩,dO,Sd.init,λy h=>(by cases h),Keep.refl⟩ (λi σ H' _ hh=>by obtain⟨_,_,h⟩:=hh;exact SqL.of (h.h4 _ _ ah (by simpa using nlf))) ?_ ?_⟩
  ·rintro i hi σ H3 ⟨ks,s,⟨x2,x3,x4,x5,rfl⟩,aL,D,o7,k3⟩
   have hwi:ws[i]∈ns:=ae.mem_iff.mp (Qq hi)
   have tki:ws.take (i+1)=ws.take i++[ws[i]]:=Qn hi
   have pW:∀y∈ns,ltS y ws[i]=true→y∈ks:=λy hy aa=>by
    obtain⟨m,hm,em⟩:=Zo (ae.mem_iff.mpr hy)
    rcases Kt m i with q | q | q
    ·refine o7 y ?_
     rw[←em,←Ws (j:=i) (h:=by rw[Zn];omega)]
     exact Qq _
    ·subst q
     rw[em]at aa
     exact absurd (of_decide_eq_true aa) (Ya _)
    ·have:=Wf.mp ao i m hi hm q
     rw[em]at this
     exact absurd (of_decide_eq_true aa) this
   have cp:∀{am:Nd},(∀y∈ks,y∈am)→ws[i]∈am→∀y∈ws.take (i+1),y∈am:=λh1 h2 y hy=>by
    rw[tki]at hy
    rcases Qe.mp hy with q | q
    ·exact h1 y (o7 y q)
    ·rw[Qb.mp q];exact h2
   generalize ws[i]=x at hwi pW cp
   have g3:=DGet.k (k:=Sum.inr x) aL
   by_cases iC:x∈ks
   ·rw [zcp iC] at g3
    refine⟨_,rfl,_,rfl,fo,_,rfl,g3,_,rfl,za5 rfl ?_⟩
    exact⟨ks,s,⟨_,_,_,_,rfl⟩,aL,D,cp (λ_ h=>h) iC,k3⟩
   ·rw [zgm iC] at g3
    have c9:∀{ks wl:Nd} {s:Str→Int} {ex:Str→Str→Prop},Sd ns r lab ks wl s ex→ks.length≤es.length∧wl.length≤ks.length:=λD=>⟨by rw[←ji];exact zba D.nd D.kn,zba D.wn D.wk⟩
    have u8:=(c9 D).1
    refine⟨_,rfl,_,rfl,fo,_,rfl,g3,_,rfl,zb6 rfl ?_⟩
    refine⟨_,rfl,_,rfl,fo,_,rfl,DPut.k (k:=Sum.inr x) aL (by rw[ze0];omega),?_⟩
    rw[dof_setS iC]
    have D1:=D.root C hwi iC pW
    have k4:Keep [fo] H2 (upd H3 fo (.dK (dof (ks++[x]) λy=>V.int (setS s x 0 y)))):=k3.trans (Keep.wr (by simp))
    have bq:(upd H3 fo (.dK (dof (ks++[x]) λy=>V.int (setS s x 0 y)))) fo=some (.dK (dof (ks++[x]) λy=>V.int (setS s x 0 y))):=zab
    generalize upd H3 fo (.dK (dof (ks++[x]) λy=>V.int (setS s x 0 y)))=H4 at k4 bq
    refine⟨_,rfl,(by show 1≤sizeLine;decide),λro cV=>?_⟩
    have iT:fo≠ro:=zaa bq cV
    have fro:H2 ro=none:=zbi k4 cV (by simpa using Zc iT)
    have iU:d≠ro:=zaa R2.dc fro
    have nrr:∀e∈es,e.2.2≠ro:=λe he=>zaa (R2.ro e he) fro
    refine⟨λm σ H'=>Ex3 λ(bh wl:Nd) (s1:Str→Int)=>Aj7 (Ex2 λx4 x5=>σ=[some (.ref d),some (.ref fo),some (.str x),some (.ref ro),x4,x5]) (H' fo=some (.dK (dof bh λy=>.int (s1 y)))) (H' ro=some (.lst (wl.map V.str))) (Sd ns r lab bh wl s1 (λ_ _=>False)) (m=es.length+wl.length-bh.length) (∀y∈ks++[x],y∈bh) (Keep [fo,ro] H2 H'),
     ⟨_,ks++[x],[x],_,⟨_,_,rfl⟩,by rw[zad iT];exact bq,zab,D1,rfl,λ_ h=>h,(k4.sub (by simp)).trans (Keep.new cV)⟩,?_⟩
    rintro m σ H5 ⟨bh,wl,s1,⟨y4,y5,rfl⟩,ca,jc,D5,rfl,gp,k5⟩
    refine⟨_,rfl,(by show 0≤sizeLine;decide),λb hb=>⟨ro,b,_,rfl,rfl,SqL.of (by rw[zad (zaa jc hb)];exact jc),SqL.of zab,_,rfl,?_⟩⟩
    have df:(upd H5 b (.lst [])) fo=some (.dK (dof bh λy=>.int (s1 y))):=by rw[zad (zaa ca hb)];exact ca
    have eS:(upd H5 b (.lst [])) ro=some (.lst (wl.map V.str)):=by rw[zad (zaa jc hb)];exact jc
    have k6:Keep [fo,ro] H2 (upd H5 b (.lst [])):=k5.trans (Keep.new hb)
    generalize upd H5 b (.lst [])=H6 at df eS k6
    rcases Jw wl with cR | ⟨ini,z,cR⟩
    ·subst cR
     refine za5 rfl ?_
     have k7:Keep [fo] H2 H6:=λc o ec hc=>k6 c o ec (by
      have:=zaa ec fro
      simp at hc ⊢
      exact⟨hc,this⟩)
     exact⟨bh,s1,⟨_,_,_,_,rfl⟩,df,D5,cp (λy hy=>gp y (Ql _ hy)) (gp x (by simp)),k7⟩
    ·rw [Jx] at cR
     subst cR
     refine zb6 (by rw[Qs];cases ini<;>rfl) ?_
     refine⟨_,λ σ' H' zz=>zz,?_⟩
     have dz:z∈bh:=D5.wk z (Qi _ Qc)
     obtain⟨en,az,fM⟩:=Qk.mp (by rw[bG];exact D5.kn z dz:z∈es.map (·.1))
     have gh:en.1=z:=fM
     have og:r z=en.2.1:=by rw[←gh];exact af en az
     have d8:((ini++[z]).map V.str)[((ini++[z]).map V.str).length-1]?=some (.str z):=by
      rw[Qs,Qo,Ux (by simp)]
      simp
     have jT:((ini++[z]).map V.str).dropLast=ini.map V.str:=by rw[Qs];exact List.dropLast_concat
     refine⟨_,rfl,.inl ⟨rfl,_,SqL.of eS⟩,ro,_,_,rfl,rfl,eS,d8,?_⟩
     rw[jT]
     have k7:Keep [fo,ro] H2 (upd H6 ro (.lst (ini.map V.str))):=k6.trans (Keep.wr (by simp))
     have om:(upd H6 ro (.lst (ini.map V.str))) ro=some (.lst (ini.map V.str)):=zab
     have fF:(upd H6 ro (.lst (ini.map V.str))) fo=some (.dK (dof bh λy=>.int (s1 y))):=by rw[zad iT];exact df
     generalize upd H6 ro (.lst (ini.map V.str))=H7 at k7 om fF
     have R7:RAt H7 d es:=R2.keep k7 (by simp[ndf,iU]) λe he=>by simp[nrf e he,nrr e he]
     have dg:DGet H7 d (.str z) (some (.ref en.2.2)):=by
      have:=DGet.k (k:=Sum.inr en.1) R7.dc
      rw[zbv R7.nd az,gh]at this
      exact this
     have cr:=c9 D5
     rw[Qo,Wd]at cr
     refine⟨_,rfl,_,rfl,d,_,rfl,dg,en.2.2,rfl,⟨_,SqL.of (R7.ro en az)⟩,zco (zs:=en.2.1) (λj σ H'=>Ex3 λ(cg wl:Nd) (s2:Str→Int)=>Aj7 (Ex1 λx5=>σ=[some (.ref d),some (.ref fo),some (.str x),some (.ref ro),some (.str z),x5]) (H' fo=some (.dK (dof cg λy=>.int (s2 y)))) (H' ro=some (.lst (wl.map V.str))) (Sd ns r lab cg wl s2 (λz' y=>z'=z∧y∉en.2.1.take j)) (cg.length+ini.length=wl.length+bh.length) (∀y∈bh,y∈cg) (Keep [fo,ro] H2 H'))
      ⟨bh,ini,s1,⟨_,rfl⟩,fF,om,D5.pop λy hy=>⟨rfl,λh=>by cases h⟩,Nat.add_comm ..,λ_ h=>h,k7⟩
      (λj σ H' _ hh=>by obtain⟨_,_,_,h⟩:=hh;exact SqL.of (h.h6 _ _ (R2.ro en az) (by simp[nrf en az,nrr en az]))) ?_ ?_⟩
     ·rintro j hj σ H8 ⟨cg,wl,s2,⟨z5,rfl⟩,fE,jb,D8,ee,cj,k8⟩
      have jK:en.2.1[j]∈r z:=by rw[og];exact Qq hj
      have aP:en.2.1.take (j+1)=en.2.1.take j++[en.2.1[j]]:=Qn hj
      generalize en.2.1[j]=o at jK aP
      have mD:∀z' y,(z'=z∧y∉en.2.1.take j)→(z'=z∧y∉en.2.1.take (j+1))∨y=o:=λz' y h=>by
       by_cases e:y=o
       ·exact .inr e
       ·exact .inl ⟨h.1,by rw[aP];exact λq=>(Qe.mp q).elim h.2 λq=>e (Qb.mp q)⟩
      have g8:=DGet.k (k:=Sum.inr o) fE
      by_cases ho:o∈cg
      ·rw [zcp ho] at g8
       refine⟨_,rfl,_,rfl,fo,_,rfl,g8,_,rfl,za5 rfl ?_⟩
       exact⟨cg,wl,s2,⟨_,rfl⟩,fE,jb,D8.had λz' y h=>(mD z' y h).imp_right λe=>by rw[e];exact ho,ee,cj,k8⟩
      ·rw [zgm ho] at g8
       have gz:=DGet.k (k:=Sum.inr z) fE
       rw[zcp (cj z dz)]at gz
       have iF:=c9 D8
       refine⟨_,rfl,_,rfl,fo,_,rfl,g8,_,rfl,zb6 rfl ?_⟩
       refine⟨_,rfl,_,rfl,fo,_,rfl,gz,_,_,rfl,rfl,_,rfl,_,rfl,fo,_,rfl,DPut.k (k:=Sum.inr o) fE (by rw[ze0];omega),?_⟩
       rw[dof_setS ho]
       have k9:Keep [fo,ro] H2 (upd H8 fo (.dK (dof (cg++[o]) λy=>V.int (setS s2 o (1-s2 z) y)))):=k8.trans (Keep.wr (by simp))
       have pB:(upd H8 fo (.dK (dof (cg++[o]) λy=>V.int (setS s2 o (1-s2 z) y)))) fo=some (.dK (dof (cg++[o]) λy=>V.int (setS s2 o (1-s2 z) y))):=zab
       have kR:(upd H8 fo (.dK (dof (cg++[o]) λy=>V.int (setS s2 o (1-s2 z) y)))) ro=some (.lst (wl.map V.str)):=by rw[zad (Zc iT)];exact jb
       generalize upd H8 fo (.dK (dof (cg++[o]) λy=>V.int (setS s2 o (1-s2 z) y)))=H9 at k9 pB kR
       refine⟨_,rfl,.inl ⟨rfl,_,SqL.of kR⟩,_,rfl,ro,_,_,rfl,rfl,kR,(by rw[Qa];omega),?_⟩
       refine⟨cg++[o],wl++[o],_,⟨_,rfl⟩,by rw[zad iT];exact pB,by rw[zab,Qs];rfl,D8.add C (cj z dz) jK ho mD,by rw[Qo,Qo,Wd];omega,λy hy=>Ql _ (cj y hy),k9.trans (Keep.wr (by simp))⟩
     ·rintro σ H8 ⟨cg,wl,s2,⟨z5,rfl⟩,fE,jb,D8,ee,cj,k8⟩
      rw[Qa,Qr (Qf _)]at D8
      have iF:=c9 D8
      refine⟨_,?_,cg,wl,s2,⟨_,_,rfl⟩,fE,jb,⟨D8.nd,D8.wn,D8.wk,D8.kn,D8.b,D8.ag,λu hu hw y hy=>?_⟩,rfl,λy hy=>cj y (gp y hy),k8⟩
      ·rw[Qo,Wd];omega
      ·refine (D8.cl u hu hw y hy).elim .inl fun q=>?_
       obtain⟨rfl,h2⟩:=q
       exact absurd (by rw[←og];exact hy) h2
  ·rintro σ H3 ⟨ks,s,⟨x2,x3,x4,x5,rfl⟩,aL,D,o7,k3⟩
   rw[Qa,Qr (Qf _)]at o7
   have bx:∀y,y∈ks↔y∈ns:=λy=>⟨D.kn y,λh=>o7 y (ae.mem_iff.mpr h)⟩
   exact⟨_,rfl,k fo ks s H3 aL D.nd bx D.b (λc hc y hy=>D.ag c hc y ((bx y).mpr hy)) dq (((k2.sub (by simp)).trans k3).cut dq)⟩
end
end K21
end
section
namespace Wb
section
variable{α:Type}[DecidableEq α]{ns:List α}{r r':α→List α}{cs:List (List (α×α))}
end
section
variable{α:Type}[DecidableEq α]{ns:List α}{r r':α→List α}{cs:List (List (α×α))}{lab:α→α}
def cutR(r:α→List α)(v u:α):α→List α:=λx=>if x=v then(r v).erase u else if x=u then(r u).erase v else r x
def cut_less(C:Web ns r cs){v u:α}(h:u∈r v):Less r (cutR r v u) v u :=
 have fP:v≠u:=λe=>C.ir u (by rw[e]at h;exact h)
 ⟨h,if_pos rfl,(if_neg (Zc fP)).trans (if_pos rfl),λx h1 h2=>(if_neg h1).trans (if_neg h2)⟩
def sum_lt{f g:α→Nat}:∀ {l:List α},(∀ x∈l,f x≤g x)→(∃ a∈l,f a < g a)→(l.map f).sum < (l.map g).sum:=by
 intro l
 induction l with
 |nil=>rintro _ ⟨a,h,_⟩;cases h
 | cons b t ih =>
  rintro h ⟨a,ha,hl⟩
  rw[Qm,Qm,Zf,Zf]
  have h1:=h b Qc
  have h2:(t.map f).sum≤(t.map g).sum:=by
   clear ih hl ha
   induction t with
   |nil=>exact Qf _
   |cons c t ih2 =>
    rw[Qm,Qm,Zf,Zf]
    have:=h c (by simp)
    have:=ih2 (λx hx=>h x (by rcases Qd.mp hx with z | z<;>simp[z]))
    omega
  rcases Qd.mp ha with z | z
  ·subst z;omega
  ·have:=ih (fun x hx=>h x (Qh _ hx)) ⟨a,z,hl⟩
   omega
def genus:∀ (n:Nat) {r:α→List α} {cs:List (List (α×α))},Web ns r cs→(ns.map fun x=>(r x).length).sum=n→∃ T:List α,(∀ t∈T,t∈ns)∧T.Pairwise (fun x y=>¬ Conn r x y)∧tot ns r cs≤4*(T.length:Int):=by
 intro n
 induction n using Nat.strongRecOn with
 | ind n ih =>
  intro r cs C hn
  by_cases h:∃v u,u∈r v
  ·obtain ⟨v,u,h⟩:=h
   have L:=cut_less C h
   obtain⟨cs',W,hh⟩:=web_less C L
   have iE:∀x∈ns,(cutR r v u x).length≤(r x).length:=λx _=>by
    unfold cutR
    by_cases e1:x=v
    ·rw[if_pos e1,e1];exact List.length_erase_le ..
    ·rw [if_neg e1]
     by_cases e2:x=u
     ·rw[if_pos e2,e2];exact List.length_erase_le ..
     ·rw[if_neg e2];exact Qf _
   have aa:(ns.map λx=>(cutR r v u x).length).sum<n:=by
    rw[←hn]
    refine sum_lt iE ⟨v,C.inn h,?_⟩
    rw[L.one,Yp h]
    have:=Yc h
    omega
   obtain⟨T,h1,h2,h3⟩:=ih _ aa W rfl
   rcases hh with⟨ht,i4⟩ | ht
   ·exact⟨T,h1,h2.imp λ{x y} h hc=>h (back_less C L W.sy i4 hc),by rw[←ht];exact h3⟩
   ·obtain ⟨T',g1,g2,g3⟩:=zhh C L W.sy h2
    exact⟨T',λt ht=>h1 t (g1 t ht),g2,by omega⟩
  ·have hr:∀ x,r x=[]:=fun x=>by
    cases e:r x with
    |nil=>rfl
    |cons a t=>exact absurd ⟨x,a,by rw[e];exact Qc⟩ h
   have iJ:cs=[]:=by
    cases cs with
    |nil=>rfl
    |cons c t =>
     obtain⟨s,t',rfl,_⟩:=C.cy c Qc
     have:=(C.cm s).mp (by rw[Ys];exact Ql _ Qc)
     rw[hr]at this
     cases this
   refine⟨ns,λt h=>h,C.nd.imp λ{x y} h hc=>h (conn_iso (hr x) hc).symm,?_⟩
   have:∀l:List α,(l.map (vl r)).sum=4*(l.length:Int):=by
    intro l
    induction l with
    |nil=>rfl
    |cons a t ih2 =>
     rw[Qm,Zf,ih2,Qx]
     unfold vl
     rw[if_pos (hr a),hr a,Wu]
     omega
   unfold tot
   rw[iJ,this,Wu]
   omega
def Web.inc(C:Web ns r cs){c:List (α×α)}(hc:c∈cs){s:α×α}(hs:s∈c):s.1∈r s.2:=(C.cm s).mp (Zp.mpr ⟨c,hc,hs⟩)
def Web.one_lab(C:Web ns r cs)(la:∀ x y,y∈r x→lab y=lab x){c:List (α×α)}(hc:c∈cs){s u:α×α}(hs:s∈c)(hu:u∈c):lab u.1=lab s.1:=by
 obtain⟨A,B,rfl⟩:=Yx hs
 have k:=zdd (C.cy _ hc)
 have hl:∀y,y=s∨y∈B++A→lab (st r y).1=lab y.1:=λy hy=>by
  have bK:y∈A++s::B:=by
   rcases hy with z | z
   ·rw[z];exact hs
   ·rcases Qe.mp z with q | q
    ·exact Qi _ (Qh _ q)
    ·exact Ql _ q
  exact(la _ _ (C.inc hc bK)).symm
 rcases Qe.mp hu with z | z
 ·exact lk_lab (lb:=λy:α×α=>lab y.1) hl k u (Qi _ z)
 ·rcases Qd.mp z with q | q
  ·rw[q]
  ·exact lk_lab (lb:=λy:α×α=>lab y.1) hl k u (Ql _ q)
def sum_filter(p:β→Bool)(f:β→Int):∀l:List β,((l.filter p).map f).sum=(l.map λx=>if p x=true then f x else 0).sum:=by
 intro l
 induction l with
 |nil=>rfl
 |cons a t ih =>
  rw[Qm,Zf]
  by_cases h:p a=true
  ·rw[Zt h,if_pos h,Qm,Zf,ih]
  ·rw[Zu h,if_neg h,ih];omega
theorem zid(p:List β→Bool):∀cs:List (List β),(cs.filter p).flatten.Sublist cs.flatten
 |[]=>List.Sublist.refl _
 | c::t=>by
  by_cases h:p c=true
  ·rw [Zt h,Ys,Ys]
   exact List.Sublist.append (List.Sublist.refl _) (zid p t)
  ·rw [Zu h,Ys]
   exact(zid p t).trans (Kp _ _)
def sum_two(p:β→Bool)(l:List β):(l.map λc=>if p c=true then(2:Int) else 0).sum=2*((l.filter p).length:Int):=by
 rw[←sum_filter p λ_=>2]
 induction l.filter p with
 |nil=>rfl
 |cons a t ih=>rw[Qm,Zf,ih,Qx];omega
def piece_le(C:Web ns r cs)(la:∀ x y,y∈r x→lab y=lab x)(co:∀ x∈ns,∀ y∈ns,lab x=lab y→Conn r x y)(t:α):wt ns r lab t+ct cs lab t≤4:=by
 let rt:α→List α:=λx=>if lab x=t then r x else[]
 have r1:∀{x},lab x=t→rt x=r x:=λh=>if_pos h
 have r0:∀{x},¬lab x=t→rt x=[]:=λh=>if_neg h
 have rm:∀{x y},y∈rt x↔y∈r x∧lab x=t:=λ{x y}=>by
  by_cases h:lab x=t
  ·rw[r1 h];exact⟨λz=>⟨z,h⟩,λz=>z.1⟩
  ·rw[r0 h];exact⟨λz=>(by cases z),λz=>absurd z.2 h⟩
 have dj:∀{c},c∈cs→(c.any λs=>decide (lab s.1=t))=true→∀s∈c,lab s.2=t:=λ{c} hc h s hs=>by
  obtain⟨q,hq,e⟩:=Ym.mp h
  rw[←la _ _ (C.inc hc hs),C.one_lab la hc hq hs]
  exact of_decide_eq_true e
 have W:Web (ns.filter λx=>decide (lab x=t)) rt (cs.filter λc=>c.any λs=>decide (lab s.1=t)):=by
  refine⟨C.nd.filter _,λx hx=>?_,λx=>?_,λx h=>C.ir x (rm.mp h).1,λx y h=>?_,Wh (zid _ cs) C.cf,λs=>?_,λc hc=>?_⟩
  ·by_cases h:lab x=t
   ·rw [r1 h]
    exact C.ro x λz=>hx (Zj.mpr ⟨z,decide_eq_true h⟩)
   ·exact r0 h
  ·by_cases h:lab x=t
   ·rw[r1 h];exact C.rn x
   ·rw[r0 h];exact Zk
  ·obtain ⟨h1,h2⟩:=rm.mp h
   exact rm.mpr ⟨C.sy _ _ h1,(la _ _ h1).trans h2⟩
  ·rw [rm]
   constructor
   ·intro h
    obtain⟨c,hc,hs⟩:=Zp.mp h
    obtain⟨h1,h2⟩:=Zj.mp hc
    exact⟨C.inc h1 hs,dj h1 h2 s hs⟩
   ·rintro ⟨h1,h2⟩
    obtain⟨c,hc,hs⟩:=Zp.mp ((C.cm s).mpr h1)
    exact Zp.mpr ⟨c,Zj.mpr ⟨hc,Ym.mpr ⟨s,hs,decide_eq_true ((la _ _ h1).trans h2)⟩⟩,hs⟩
  ·obtain ⟨h1,h2⟩:=Zj.mp hc
   refine zeg (λy hy=>?_) (C.cy c h1)
   show(y.2,nxt (rt y.2) y.1)=(y.2,nxt (r y.2) y.1)
   rw[r1 (dj h1 h2 y hy)]
 have e1:((ns.filter λx=>decide (lab x=t)).map (vl rt)).sum=wt ns r lab t:=by
  rw[sum_filter]
  refine zcm λx _=>?_
  by_cases h:lab x=t
  ·rw [if_pos (decide_eq_true h),if_pos h]
   unfold vl
   rw[r1 h]
  ·rw[if_neg (by simpa using h),if_neg h]
 have e2:=sum_two (λc:List (α×α)=>c.any λs=>decide (lab s.1=t)) cs
 obtain⟨T,h1,h2,h3⟩:=genus _ W rfl
 unfold tot at h3
 rw[e1,←e2]at h3
 have hl:T.length≤1:=by
  match T,h1,h2 with
  |[],_,_=>exact Zi _
  |[_],_,_=>exact Qf _
  | a::b::T',h1,h2 =>
   obtain⟨a1,a2⟩:=Zj.mp (h1 a Qc)
   obtain⟨b1,b2⟩:=Zj.mp (h1 b (by simp))
   have a2:=of_decide_eq_true a2
   have b2:=of_decide_eq_true b2
   have key:∀{y},Conn r a y→Conn rt a y∧lab y=t:=λ{y} h=>by
    induction h with
    |refl=>exact⟨.refl,a2⟩
    |step _ hz ih=>exact⟨.step ih.1 (rm.mpr ⟨hz,ih.2⟩),(la _ _ hz).trans ih.2⟩
   exact absurd (key (co a a1 b b1 (a2.trans b2.symm))).1 ((Uc.mp h2).1 b Qc)
 have:wt ns r lab t+ct cs lab t≤4*(T.length:Int):=h3
 omega
def tot_sum(C:Web ns r cs)(la:∀ x y,y∈r x→lab y=lab x){L:List α}(h1:L.Nodup)(h2:∀ x∈ns,lab x∈L):(L.map fun l=>wt ns r lab l+ct cs lab l).sum=tot ns r cs:=by
 have e1:(L.map λl=>wt ns r lab l).sum=(ns.map (vl r)).sum:=sum_exch h1 lab (vl r) h2
 have e2:(L.map λl=>ct cs lab l).sum=2*(cs.length:Int):=by
  have key:∀D:List (List (α×α)),(∀c∈D,c∈cs)→(L.map λl=>ct D lab l).sum=2*(D.length:Int):=by
   intro D
   induction D with
   |nil=>intro _;exact zdi λ_ _=>rfl
   | cons c D ih =>
    intro h
    have hc:=h c Qc
    obtain⟨s,t,rfl,_⟩:=C.cy c hc
    have ha:lab s.1∈L:=h2 _ (C.inn (C.sy _ _ (C.inc hc Qc)))
    have hs:∀l∈L,ct ((s::t)::D) lab l=(if lab s.1=l then 2 else 0)+ct D lab l:=λl _=>by
     rw[zde,zdf (λu hu=>C.one_lab la hc Qc hu) (Xf _ _)]
     congr 1
     by_cases e:lab s.1=l
     ·rw[if_pos e,if_pos (decide_eq_true e)]
     ·rw[if_neg e,if_neg (λz=>e (of_decide_eq_true z))]
    rw[zcm hs,zfs,zfr h1 ha,ih λd hd=>h d (Qh _ hd),Qx];omega
  exact key cs λ_ h=>h
 rw[zfs,e1,e2]
 rfl
def all_four{g:α→Int}:∀ {L:List α},(∀ l∈L,g l≤4)→4*(L.length:Int)≤(L.map g).sum→∀ l∈L,g l=4:=by
 intro L
 induction L with
 |nil=>intro _ _ l hl;cases hl
 | cons a t ih =>
  intro h hs l hl
  rw[Qm,Zf,Qx]at hs
  have ha:=h a Qc
  have ht:(t.map g).sum≤4*(t.length:Int):=by
   clear ih hs hl ha
   induction t with
   |nil=>exact Int.le_refl _
   |cons b t ih =>
    rw[Qm,Zf,Qx]
    have:=h b (by simp)
    have:=ih λx hx=>h x (by rcases Qd.mp hx with z | z<;>simp[z])
    omega
  rcases Qd.mp hl with z | z
  ·rw[z];omega
  ·exact ih (λx hx=>h x (Qh _ hx)) (by omega) l z
def flat_cert(F:Flat ns r cs):∃lab,Cert ns r cs lab:=by
 have C:=F.toWeb
 let f:α→Option α:=λx=>ns.find? λy=>@decide (Conn r x y) (Classical.propDecidable _)
 have hf:∀{x},x∈ns→∃y,f x=some y∧y∈ns∧Conn r x y:=λ{x} hx=>by
  cases e:f x with
  |none=>exact absurd (@decide_eq_true _ (Classical.propDecidable _) (Conn.refl (r:=r) (x:=x))) (List.find?_eq_none.mp e x hx)
  |some y =>
   have h:=List.find?_some (p:=λy=>@decide (Conn r x y) (Classical.propDecidable _)) e
   exact⟨y,rfl,List.mem_of_find?_eq_some e,@of_decide_eq_true _ (Classical.propDecidable _) h⟩
 have hs:∀{x y},Conn r x y→f x=f y:=λ{x y} h=>by
  show ns.find? _=ns.find? _
  congr 1
  funext z
  congr 1
  exact propext ⟨λq=>(h.symm C.sy).trans q,λq=>h.trans q⟩
 let lab:α→α:=λx=>(f x).getD x
 have hl:∀{x},x∈ns→lab x∈ns∧Conn r x (lab x):=λ{x} hx=>by
  obtain⟨y,e,h1,h2⟩:=hf hx
  show(f x).getD x∈ns∧Conn r x ((f x).getD x)
  rw[e];exact⟨h1,h2⟩
 have he:∀{x y},x∈ns→y∈ns→Conn r x y→lab x=lab y:=λ{x y} hx hy h=>by
  obtain⟨z,e,_⟩:=hf hy
  show(f x).getD x=(f y).getD y
  rw[hs h,e];rfl
 have la:∀x y,y∈r x→lab y=lab x:=λx y h=>(he (C.inn h) (C.inn (C.sy _ _ h)) (.step .refl h)).symm
 have co:∀x∈ns,∀y∈ns,lab x=lab y→Conn r x y:=λx hx y hy e=>by
  have h1:=(hl hx).2
  rw[e]at h1
  exact h1.trans ((hl hy).2.symm C.sy)
 obtain⟨L,h1,h2,h3⟩:=labels lab ns
 have hL:∀l∈L,l∈ns∧lab l=l:=λl u9=>by
  obtain⟨x,hx,e⟩:=h3 l u9
  obtain⟨a,b⟩:=hl hx
  refine⟨e▸a,?_⟩
  have:=he hx a b
  rw[e]at this
  exact this.symm
 have fl:=F.fl L (λl h=>(hL l h).1) (Je (λ{x y} hx hy bZ hc=>bZ (by
  have:=he (hL x hx).1 (hL y hy).1 hc
  rwa[(hL x hx).2,(hL y hy).2]at this)) h1)
 rw[←tot_sum C la h1 h2]at fl
 have four:=all_four (λl _=>piece_le C la co l) fl
 exact⟨lab,C.nd,C.ro,C.rn,C.ir,C.sy,C.cf,C.cm,C.cy,λx hx=>(hl hx).1,la,co,λx hx=>four _ (h2 x hx)⟩
def cert_less(C:Cert ns r cs lab)(L:Less r r' v u):∃cs' ab,Cert ns r' cs' ab:=by
 obtain⟨cs',F⟩:=flat_less (cert_flat C) L
 obtain⟨ab,C'⟩:=flat_cert F
 exact⟨cs',ab,C'⟩
end
end Wb
end
section
namespace Wb
open PySem L2 K21
variable{ns:Nd}{r:No}{cs:List (List (Str×Str))}{lab:Nu}
def fl(r:No)(ps:Nr)(x:Str):List Str:=(r x).filter λo=>decide ((x,o)∉ps∧(o,x)∉ps)
def fl_nil:fl r []=r:=funext λx=>Jd.mpr λo _=>decide_eq_true ⟨by simp,by simp⟩
def zie:fl r ((v,u)::ps) x=(fl r ps x).filter λo=>decide ((x,o)≠(v,u)∧(o,x)≠(v,u)):=by
 unfold fl
 rw[List.filter_filter]
 refine Uv λo _=>?_
 rw[Yf,Jz,decide_eq_true_iff,decide_eq_true_iff,decide_eq_true_iff,Qd,Qd,not_or,not_or]
 exact⟨λ⟨⟨a,b⟩,c,d⟩=>⟨⟨a,c⟩,b,d⟩,λ⟨⟨a,c⟩,b,d⟩=>⟨⟨a,b⟩,c,d⟩⟩
def cert_fl(C:Cert ns r cs lab):∀ ps:List (Str×Str),∃ cs' ab,Cert ns (fl r ps) cs' ab:=by
 intro ps
 induction ps with
 |nil=>rw[fl_nil];exact⟨cs,lab,C⟩
 | cons q ps ih =>
  obtain⟨v,u⟩:=q
  obtain⟨cs',ab,C'⟩:=ih
  by_cases h:u∈fl r ps v
  ·have ap:v≠u:=fun e=>C'.ir u (by rw [e] at h;exact h)
   refine cert_less C' (r':=fl r ((v,u)::ps)) (v:=v) (u:=u) ⟨h,?_,?_,λx h1 h2=>?_⟩
   ·rw [zie,(C'.rn v).erase_eq_filter]
    refine Uv λo _=>?_
    rw[Yf,decide_eq_true_iff,bne_iff_ne]
    exact⟨λ⟨a,_⟩ e=>a (by rw[e]),λe=>⟨λq=>e (Yu q).2,λq=>ap (Yu q).2⟩⟩
   ·rw [zie,(C'.rn u).erase_eq_filter]
    refine Uv λo _=>?_
    rw[Yf,decide_eq_true_iff,bne_iff_ne]
    exact⟨λ⟨_,a⟩ e=>a (by rw[e]),λe=>⟨λq=>ap (Yu q).1.symm,λq=>e (Yu q).1⟩⟩
   ·rw [zie]
    exact Jd.mpr λo _=>decide_eq_true ⟨λq=>h1 (Yu q).1,λq=>h2 (Yu q).2⟩
  ·have e:fl r ((v,u)::ps)=fl r ps:=funext fun x=>by
    rw[zie]
    refine Jd.mpr λo ho=>decide_eq_true ⟨λq=>?_,λq=>?_⟩
    ·obtain ⟨rfl,rfl⟩:=Yu q
     exact h ho
    ·obtain ⟨rfl,rfl⟩:=Yu q
     exact h (C'.sy _ _ ho)
   rw[e]
   exact⟨cs',ab,C'⟩
def cert_filter(C:Cert ns r cs lab)(p:Str→Str→Bool)(hp:∀x y,p x y=p y x):∃cs' ab,Cert ns (λx=>(r x).filter (p x)) cs' ab:=by
 have ai:∀x o,o∈r x→((x,o)∈(ns.flatMap λx=>((r x).filter λo=>!p x o).map λo=>(x,o))↔p x o=false):=λx o ho=>by
  rw[Uz]
  constructor
  ·rintro ⟨y,hy,h⟩
   obtain⟨z,hz,e⟩:=Qk.mp h
   obtain⟨rfl,rfl⟩:=Yu e
   have:=(Zj.mp hz).2
   simpa using this
  ·intro h
   exact⟨x,C.inn ho,Qk.mpr ⟨o,Zj.mpr ⟨ho,by rw[h];rfl⟩,rfl⟩⟩
 have e:fl r (ns.flatMap λx=>((r x).filter λo=>!p x o).map λo=>(x,o))=λx=>(r x).filter (p x):=funext λx=>by
  unfold fl
  refine Uv λo ho=>?_
  rw[Yf,decide_eq_true_iff,ai x o ho,ai o x (C.sy _ _ ho),hp o x,Bool.not_eq_false]
  exact⟨λh=>h.1,λh=>⟨h,h⟩⟩
 rw[←e]
 exact cert_fl C _
end Wb
end
section
namespace K21
open PySem L2 Wb
abbrev zdu:Stmt:=top 41
abbrev csEv:Scope:=scOf (eOf (bAt (sAt zdu 1) 0))
def csEv_k:csEv.kind=.function:=by rfl
def csEv_c:∀y∈csEv.names,y.2≠.cell:=by decide +kernel
def csEv_n:∀y∈csEv.names,y.2=.local→csEv.names.lookup y.1=some .local:=by decide +kernel
def csEv_f:∀y∈csEv.names,y.2=.free→(zag zdu).names.lookup y.1=some .cell∨(zag zdu).names.lookup y.1=some .free:=by decide +kernel
def csEv_l:csEv.names.lookup ("_law_sides_here" : Str)=some NameKind.free:=by decide +kernel
def csEv_m:csEv.names.lookup ("_law_name" : Str)=some NameKind.free:=by decide +kernel
def ndEv:(["_law_other", "_law_sides_here", "_law_name"]:List Str).Nodup:=by decide +kernel
inductive IspEvened(vs:List V)(H:Hp)(Q:VK):Prop
 |mk (d:Nc) (es:List Ent) (cs:List (List (Str×Str))) (lab:Nu) (h0:vs=[.ref d]) (h1:RAt H d es) (h2:es.length≤60) (h3:Cert (es.map (·.1)) (row (rsOf es)) cs lab)
  (h4:∀(ak:List Ent) (cs':List (List (Str×Str))) (ab:Nu) (H':Hp),RAt H' d ak→ak.map (·.1)=es.map (·.1)→Cert (ak.map (·.1)) (row (rsOf ak)) cs' ab→Keep [d] H H'→Q .non H'):IspEvened vs H Q
def spEvened:Sp:=λvs H Q _=>IspEvened vs H Q
def unl(s:Str→Int)(x:Str)(v:V):Bool:=match v with
 |.str o=>decide (s o≠s x)
 |_=>false
def unl_filter(s:Str→Int)(x:Str)(l:Nd):(l.map V.str).filter (unl s x)=(l.filter λo=>decide (s o≠s x)).map V.str:=by
 rw[List.filter_map];rfl
def zhx(es:List Ent):(rsOf es).map (·.1)=es.map (·.1):=by unfold rsOf;rw[List.map_map];rfl
def row_setE(nd:(es.map (·.1)).Nodup)(hx:x∈es.map (·.1))(y:Str):row (rsOf (setE es x r0 a)) y=if y=x then r0 else row (rsOf es) y:=by
 obtain⟨e,he,mD⟩:=Qk.mp hx
 have lw:e.1=x:=mD
 by_cases h:y=x
 ·rw [if_pos h,h,← lw]
  have hm:(e.1,r0,a)∈setE es x r0 a:=Qk.mpr ⟨e,he,by rw[if_pos lw]⟩
  rw[lw]at hm ⊢
  have:=zbb (es:=setE es x r0 a) (by rw[zbl];exact nd) hm
  exact this
 ·rw [if_neg h]
  by_cases hy:y∈es.map (·.1)
  ·obtain ⟨e',br,hey⟩:=Qk.mp hy
   have pE:e'.1=y:=hey
   have hm:e'∈setE es x r0 a:=Qk.mpr ⟨e',br,by rw[if_neg (λq=>h (by rw[←pE,q]))]⟩
   rw[←pE,zbb (es:=setE es x r0 a) (by rw[zbl];exact nd) hm,zbb nd br]
  ·rw[zf0 (by rw[zhx,zbl];exact hy),zf0 (by rw[zhx];exact hy)]
section
variable{P:Nj}{w:Nl}{K:Na}{mg:Ng}{base:Nm}
def zhq:zaq ["_law_rounds_here", "_law_sides_here", "_law_name"] ["_law_rounds_here"] (zag zdu):=⟨rfl,rfl,rfl,by decide +kernel,rfl,by decide +kernel,by decide +kernel⟩
def ok_evened(F:Fun K "_law_evened" "_law_evened" zdu f fd)(FS:Fun K "_law_sides" "_law_sides" zg1 fs fds)(bS:Binds K fds ["_law_rounds_here"] [])(mS:mg "_law_sides" = some (.ref fs))(GS:FnOk P w K mg base CX0 1 fs fds ["_law_rounds_here"] zhn)(d7:mg "list" = none):FnOk P w K mg base CX0 2 f fd ["_law_rounds_here"] spEvened:=by
 refine F.ok zhq (λvs H Q E h=>?_) (λcdv A outer s H vs Q E hr h=>?_)
 ·obtain ⟨d,es,cs,lab,rfl,_⟩:=h
  rfl
 ·obtain ⟨d,es,cs,lab,rfl,R,aN,C,k⟩:=h
  have hu:=zb9 hr
  have aG:sizeLine=16777216:=sizeLine_eq
  refine⟨_,zae (zam (i:=1) zhq.nd rfl (Or.inr rfl) (zak GS hr rfl mS FS.kp bS .nil zaw (zac (pv 0) zaf)))
   (zah (zbc Zh rfl (zav (zct (zgw rfl) (by rfl) d7 Xi (zac (pv 0) zaf))) (zaj (i:=2) zhq.nd rfl (Or.inr rfl))
    (zah (zce hu (pv 0) (pv 2) (zf3 (M:=["_law_other", "_law_sides_here", "_law_name"]) (ix:=[none,some 1,some 2]) ⟨csEv_k,csEv_c,csEv_n,csEv_f,rfl,by decide +kernel,λj i x h1 h2=>by
       match j,h1,h2 with
       |0,_,h2=>cases h2
       |1,h1,h2=>cases h1;cases h2;exact⟨rfl,csEv_l⟩
       |2,h1,h2=>cases h1;cases h2;exact⟨rfl,csEv_m⟩
       |n+3,h1,_=>cases h1⟩ rfl (zav (zat hu (pv 0) (pv 2) (λ_ _=>rfl))) (λC a0 ex s H=>zaj (i:=0) ndEv rfl (Or.inl rfl) (Or.inr rfl))
       (λC a0 ex s H=>zes (zas op_ne (zat (by exact hu) (pv 1) (pv 0) (λ_ _=>rfl)) (zat (by exact hu) (pv 1) (pv 2) (λ_ _=>rfl)) (zbf _))) (λC a0 ex s H=>pv 0)) rfl)))),?_⟩
  have af:∀e∈es,row (rsOf es) e.1=e.2.1:=λe he=>zbb R.nd he
  have ji:(es.map (·.1)).length=es.length:=Qa ..
  have jI:∀y,(row (rsOf es) y).length≤60:=λy=>by
   have:=zba (C.rn y) λz hz=>C.inn' hz
   omega
  refine⟨_,rfl,d,es,cs,lab,rfl,R,aN,C,λsi ks s H1 cw bx aZ t6 _ fsi k1=>?_⟩
  have R1:RAt H1 d es:=R.keep k1 (by simp) (λ_ _=>by simp)
  refine⟨_,rfl,d,_,rfl,.inl R1.dc,λl hl=>?_⟩
  rw[zee]
  have k2:Keep [] H (upd H1 l (.lst ((es.map (·.1)).map V.str))):=k1.trans (Keep.new hl)
  have ah:(upd H1 l (.lst ((es.map (·.1)).map V.str))) l=some (.lst ((es.map (·.1)).map V.str)):=zab
  have cn:(upd H1 l (.lst ((es.map (·.1)).map V.str))) si=some (.dK (dof ks λy=>.int (s y))):=by rw[zad (zaa cw hl)];exact cw
  have R2:RAt (upd H1 l (.lst ((es.map (·.1)).map V.str))) d es:=R1.keep (Keep.new (xs:=[]) hl) (by simp) (λ_ _=>by simp)
  generalize upd H1 l (.lst ((es.map (·.1)).map V.str))=H2 at k2 ah cn R2
  have nld:l≠d:=zay ah R2.dc (by intro z;cases z)
  have nsd:si≠d:=Zc (zaa R.dc fsi)
  generalize mj:row (rsOf es)=r at C k af jI
  generalize bG:es.map (·.1)=ns at C k ji ah aZ
  have aB:ns.Nodup:=C.nd
  refine⟨l,rfl,⟨_,SqL.of ah⟩,zco (zs:=ns) (λi σ H'=>Ex1 λ(aJ:List Ent)=>Aj5 (Ex1 λx2=>σ=[some (.ref d),some (.ref si),x2]) (RAt H' d aJ) (aJ.map (·.1)=ns) (∀y,row (rsOf aJ) y=if y∈ns.take i then(r y).filter (λo=>decide (s o≠s y)) else r y) (Keep [d] H2 H'))
   ⟨es,⟨_,rfl⟩,R2,bG,λy=>(by rw[mj];rfl),Keep.refl⟩ (λi σ H' _ hh=>by obtain⟨_,h⟩:=hh;exact SqL.of (h.h4 _ _ ah (by simpa using nld))) ?_ ?_⟩
  ·rintro i hi σ H3 ⟨aJ,⟨x2,rfl⟩,R3,ms,oq,k3⟩
   have tS:ns[i]∈ns:=Qq hi
   have tki:ns.take (i+1)=ns.take i++[ns[i]]:=Qn hi
   have oG:ns[i]∉ns.take i:=λh=>by
    have:=aB
    rw[←Wc (i+1) ns,tki,Qy,Qy]at this
    exact this.1.2.2 _ h _ Qc rfl
   generalize ns[i]=x at tS tki oG
   have sF:x∈aJ.map (·.1):=by rw[ms];exact tS
   obtain⟨en,az,aD⟩:=Qk.mp sF
   have dI:en.1=x:=aD
   have mi:en.2.1=r x:=by
    have:=oq x
    rw[if_neg oG,←dI,zbb R3.nd az]at this
    rw[←dI];exact this
   have dg:DGet H3 d (.str x) (some (.ref en.2.2)):=by
    have:=DGet.k (k:=Sum.inr en.1) R3.dc
    rw[zbv R3.nd az,dI]at this
    exact this
   have hs3:=k3 _ _ cn (by simpa using nsd)
   have gx:=DGet.k (k:=Sum.inr x) hs3
   rw[zcp ((aZ x).mpr tS)]at gx
   have c8:=R3.ro en az
   have lA:en.2.1.length≤60:=by rw[mi];exact jI x
   refine⟨_,rfl,_,rfl,d,_,rfl,dg,en.2.2,rfl,⟨_,SqL.of c8⟩,lc_filt (xs:=en.2.1.map V.str) (λ τ=>∃x0,τ=[x0,some (.ref si),some (.str x)]) (unl s x) (SqL.of c8) (by rw[Qa];omega) ⟨none,rfl⟩ ?_ (λD hD=>?_)⟩
   ·rintro v hv τ ⟨x0,rfl⟩ kk1 kk0 oU oV
    obtain⟨o,ho,rfl⟩:=Qk.mp hv
    have go:=DGet.k (k:=Sum.inr o) hs3
    rw[zcp ((aZ o).mpr (C.inn' (x:=x) (by rw[←mi];exact ho)))]at go
    refine⟨_,rfl,_,rfl,si,_,rfl,go,_,rfl,_,rfl,si,_,rfl,gx,rfl,_,rfl,?_⟩
    by_cases e:s o=s x
    ·refine za5 (by rw[decide_eq_true (by rw[e])];rfl) (oV (decide_eq_false (λq=>q e)) _ ⟨_,rfl⟩)
    ·refine zb6 (by rw[decide_eq_false (λq=>e (by injection q))];rfl) ⟨_,rfl,oU (decide_eq_true e) _ ⟨_,rfl⟩⟩
   ·rw [unl_filter,mi]
    have RD:RAt (upd H3 D (.lst (((r x).filter λo=>decide (s o≠s x)).map V.str))) d aJ:=R3.keep (Keep.new (xs:=[]) hD) (by simp) (λ_ _=>by simp)
    have aS:aJ.length≤60:=by
     have:=congrArg List.length ms
     rw[Qa]at this
     omega
    refine⟨_,rfl,_,rfl,d,_,rfl,DPut.k (k:=Sum.inr x) RD.dc (by rw[Qa];omega),?_⟩
    refine⟨setE aJ x ((r x).filter λo=>decide (s o≠s x)) D,⟨_,rfl⟩,rat_set RD sF zab,by rw[zbl];exact ms,λy=>?_,k3.trans ((Keep.new hD).trans (Keep.wr (by simp)))⟩
    rw[row_setE R3.nd sF,tki,oq]
    by_cases e:y=x
    ·rw[if_pos e,if_pos (by rw[e];simp),e]
    ·rw [if_neg e]
     by_cases m:y∈ns.take i
     ·rw[if_pos m,if_pos (Ql _ m)]
     ·rw[if_neg m,if_neg (λq=>(Qe.mp q).elim m λq=>e (Qb.mp q))]
  ·rintro σ H3 ⟨aJ,⟨x2,rfl⟩,R3,ms,oq,k3⟩
   rw[Qa,Qr (Qf _)]at oq
   obtain⟨cs',ab,C'⟩:=cert_filter C (λx o=>decide (s o≠s x)) λx y=>by
    rw[Yf,decide_eq_true_iff,decide_eq_true_iff]
    exact⟨Zc,Zc⟩
   have e:row (rsOf aJ)=λx=>(r x).filter λo=>decide (s o≠s x):=funext λy=>by
    rw[oq]
    by_cases m:y∈ns
    ·rw[if_pos m]
    ·rw[if_neg m,C.ro y m];rfl
   refine k aJ cs' ab H3 R3 ms (by rw[ms,e];exact C') ((k2.sub (by simp)).trans k3)
end
abbrev zhv:Stmt:=top 42
def eltOf:Expr→Expr
 |.ListComp e _ _ _=>e
 |e=>e
abbrev csEA:Scope:=scOf (aOf 0 (eOf (sAt zhv 1)))
abbrev csEB:Scope:=scOf (aOf 0 (eltOf (aOf 0 (eOf (sAt zhv 1)))))
def csEA_k:csEA.kind=.function:=by rfl
def csEA_o:∀y∈csEA.names,y.2=.cell→some ("_law_name" : Str)=some y.1:=by decide +kernel
def csEA_z:csEA.names.lookup ("_law_name" : Str)=some .cell:=by decide +kernel
def csEA_n:∀y∈csEA.names,y.2=.local→csEA.names.lookup y.1=some .local:=by decide +kernel
def csEA_f:∀y∈csEA.names,y.2=.free→(zag zhv).names.lookup y.1=some .cell∨(zag zhv).names.lookup y.1=some .free:=by decide +kernel
def csEA_l:csEA.names.lookup ("_law_rounds_here" : Str)=some NameKind.free:=by decide +kernel
def csEA_m:csEA.names.lookup ("_law_sides_here" : Str)=some NameKind.free:=by decide +kernel
def csEB_k:csEB.kind=.function:=by rfl
def csEB_c:∀y∈csEB.names,y.2≠.cell:=by decide +kernel
def csEB_n:∀y∈csEB.names,y.2=.local→csEB.names.lookup y.1=some .local:=by decide +kernel
def csEB_l:csEB.names.lookup ("_law_sides_here" : Str)=some NameKind.free:=by decide +kernel
def csEB_m:csEB.names.lookup ("_law_name" : Str)=some NameKind.free:=by decide +kernel
def csEB_f(h:env.scope=zag zhv):∀y∈csEB.names,y.2=.free→(relabel csEA env).names.lookup y.1=some .cell∨(relabel csEA env).names.lookup y.1=some .free:=by
 unfold relabel Env.kindOf
 rw[h]
 decide +kernel
def ndEA:(["_law_name", "_law_rounds_here", "_law_sides_here"]:List Str).Nodup:=by decide +kernel
def ndEB:(["_law_other", "_law_sides_here", "_law_name"]:List Str).Nodup:=by decide +kernel
def pi_listK(hK:X.K=K)(hl:PE X l tl):PI X tg l (iList K tl):=hK▸zav hl
def call_allK(hK:X.K=K)(hc:X.calm=true):zb4 X (.builtin "all") (λxs H Q=>Ex2 λ(p:Nc) (bs:List Bool)=>Aj3 (xs=[.ref p]) (SqL K H p (bs.map V.bl)) (Q (.bl (bs.all id)) H)):=hK▸zfo hc
inductive IspEven(vs:List V)(H:Hp)(Q:VK):Prop
 |mk (d:Nc) (es:List Ent) (cs:List (List (Str×Str))) (lab:Nu) (h0:vs=[.ref d]) (h1:RAt H d es) (h2:es.length≤60) (h3:Cert (es.map (·.1)) (row (rsOf es)) cs lab)
  (h4:∀(b:Bool) (H':Hp),(b=true↔∃c,Clr (es.map (·.1)) (row (rsOf es)) lab c)→Keep [] H H'→Q (.bl b) H'):IspEven vs H Q
def spEven:Sp:=λvs H Q _=>IspEven vs H Q
section
variable{P:Nj}{w:Nl}{K:Na}{mg:Ng}{base:Nm}
def scEven:zaq ["_law_rounds_here", "_law_sides_here"] ["_law_rounds_here"] (zag zhv):=⟨rfl,rfl,rfl,by decide +kernel,rfl,by decide +kernel,by decide +kernel⟩
def ok_even(F:Fun K "_law_is_even" "_law_is_even" zhv f fd)(FS:Fun K "_law_sides" "_law_sides" zg1 fs fds)(bS:Binds K fds ["_law_rounds_here"] [])(mS:mg "_law_sides" = some (.ref fs))(GS:FnOk P w K mg base CX0 1 fs fds ["_law_rounds_here"] zhn)(aw:mg "all" = none):FnOk P w K mg base CX0 2 f fd ["_law_rounds_here"] spEven:=by
 refine F.ok scEven (λvs H Q E h=>?_) (λcdv A outer s H vs Q E hr h=>?_)
 ·obtain ⟨d,es,cs,lab,rfl,_⟩:=h
  rfl
 ·obtain ⟨d,es,cs,lab,rfl,R,aN,C,k⟩:=h
  have hu:=zb9 hr
  have aG:sizeLine=16777216:=sizeLine_eq
  refine⟨_,zae (zam (i:=1) scEven.nd rfl (Or.inr rfl) (zak GS hr rfl mS FS.kp bS .nil zaw (zac (pv 0) zaf)))
   (zah (zbe (zai (zfo rfl) (by rfl) aw Ju (zac (zh2 (pe_lcC (oz:=some "_law_name") (M:=["_law_name", "_law_rounds_here", "_law_sides_here"]) (ix:=[none,some 0,some 1])
    ⟨csEA_k,csEA_o,λ_ _=>rfl,λ_=>rfl,λ_ h=>(by cases h;exact csEA_z),csEA_n,csEA_f,rfl,ndEA,λj i x h1 h2=>by
       match j,h1,h2 with
       |0,_,h2=>cases h2
       |1,h1,h2=>cases h1;cases h2;exact⟨rfl,csEA_l⟩
       |2,h1,h2=>cases h1;cases h2;exact⟨rfl,csEA_m⟩
       |n+3,h1,_=>cases h1⟩ rfl (zdw (pv 0)) (λC a0 ex s H=>zaj (i:=0) ndEA rfl (Or.inr rfl) (Or.inl (by rfl)))
    (λC a0 ex s H=>zci)
    (λC a0 ex s H=>zai (call_allK (K:=K) rfl rfl) (by rfl) (by exact aw) Ju (zac (zf3 (M:=["_law_other", "_law_sides_here", "_law_name"]) (ix:=[none,some 2,some 0]) ⟨csEB_k,csEB_c,csEB_n,csEB_f rfl,rfl,ndEB,λj i x h1 h2=>by
       match j,h1,h2 with
       |0,_,h2=>cases h2
       |1,h1,h2=>cases h1;cases h2;exact⟨rfl,csEB_l⟩
       |2,h1,h2=>cases h1;cases h2;exact⟨rfl,csEB_m⟩
       |n+3,h1,_=>cases h1⟩ rfl (pi_listK (K:=K) rfl (zat (by exact hu) (pv 1) (pv 0) (λ_ _=>rfl))) (λC a0 ex s H=>zaj (i:=0) ndEB rfl (Or.inl rfl) (Or.inr rfl))
       (λC a0 ex s H=>zci) (λC a0 ex s H=>pe_cmpR op_ne (zat (by exact hu) (pv 1) (pv 2) (λ_ _=>rfl)) (zat (by exact hu) (pv 1) (pv 0) (λ_ _=>rfl)) (zbf _))) zaf)))) zaf)))),?_⟩
  have af:∀e∈es,row (rsOf es) e.1=e.2.1:=λe he=>zbb R.nd he
  have ji:(es.map (·.1)).length=es.length:=Qa ..
  have aR:∀e∈es,e.2.1.length≤60:=λe he=>by
   have:=zba (af e he▸C.rn e.1) λy hy=>C.inn' (x:=e.1) (by rw[af e he];exact hy)
   omega
  refine⟨_,rfl,d,es,cs,lab,rfl,R,aN,C,λsi ks s H1 cw bx aZ t6 j' fsi k1=>?_⟩
  have R1:RAt H1 d es:=R.keep k1 (by simp) (λ_ _=>by simp)
  have nsd:si≠d:=Zc (zaa R.dc fsi)
  have nfz:∀o' u',H d≠some (.frz o' u'):=λo' u' z=>by rw[R.dc]at z;cases z
  have fB:∀e∈es,∀y∈e.2.1,y∈ks:=λe he y hy=>(aZ y).mpr (C.inn' (x:=e.1) (by rw[af e he];exact hy))
  refine⟨_,rfl,d,_,rfl,R1.dc,λo=>⟨λi m ys τ H2=>Aj6 (m=es.length-i) (i≤es.length) (Ex1 λx0=>τ=[x0,some (.ref d),some (.ref si)]) (H2 d=some (.frz o (.dK (es.map λe=>((Sum.inr e.1:Key),V.ref e.2.2))))) (Keep [d] H1 H2) (ys=((es.take i).map λe=>e.2.1.all λy=>decide (s e.1≠s y)).map V.bl),
   ⟨es.length,rfl,Zi _,⟨none,rfl⟩,zab,Keep.wr Qc,rfl⟩,?_⟩⟩
  rintro i m ys τ H2 ⟨rfl,hi,⟨x0,rfl⟩,hz,k2,rfl⟩
  by_cases aa:i<es.length
  ·refine .inr ⟨⟨hz,by rw [Qa];exact aa⟩,by rw [Qa,Qa,Zn];omega,?_⟩
   rintro y H' ⟨rfl,pr,e1,rfl⟩
   have g1:pr=((Sum.inr es[i].1:Key),V.ref es[i].2.2):=by
    rw[Qz,Qg aa]at e1
    exact(Qp e1).symm
   subst g1
   have aP:es.take (i+1)=es.take i++[es[i]]:=Qn aa
   have aT:es[i]∈es:=Qq aa
   generalize es[i]=en at aP aT
   have fR:=R1.ro _ aT
   have nri:en.2.2≠d:=zay fR R1.dc (by intro z;cases z)
   have bA:=k2 _ _ fR (by simpa using nri)
   have cn:=k2 _ _ cw (by simpa using nsd)
   have lA:=aR en aT
   have gn:=DGet.k (k:=Sum.inr en.1) cn
   rw[zcp ((aZ en.1).mpr (Qk.mpr ⟨en,aT,rfl⟩))]at gn
   refine⟨_,rfl,_,rfl,d,.ref en.2.2,rfl,.inl ⟨_,Sum.inr en.1,.inr ⟨o,hz⟩,rfl,(zbv R1.nd aT).symm⟩,en.2.2,rfl,⟨_,SqL.of bA⟩,lc_at (xs:=en.2.1.map V.str) (λ τ=>∃x0,τ=[x0,some (.ref si),some (.str en.1)]) ((en.2.1.map λy=>decide (s en.1≠s y)).map V.bl) (by rw[Qa,Qa,Qa]) (SqL.of bA) (by rw[Qa];omega) ⟨none,rfl⟩ ?_ (λD hD=>?_)⟩
   ·rintro j hj mw τ ⟨x0,rfl⟩ kk hk
    rw[Qa]at hj
    rw[Zs]
    have go:=DGet.k (k:=Sum.inr en.2.1[j]) cn
    rw[zcp (fB en aT _ (Qq hj))]at go
    refine⟨_,rfl,_,rfl,si,_,rfl,gn,_,rfl,_,rfl,si,_,rfl,go,rfl,?_⟩
    rw[Zs,Zs]at hk
    have e:(!decide (V.int (s en.1)=V.int (s en.2.1[j])))=decide (s en.1≠s en.2.1[j]):=by
     by_cases q:s en.1=s en.2.1[j]
     ·rw[decide_eq_true (by rw[q]),decide_eq_false (λz=>z q)];rfl
     ·rw[decide_eq_false (λz=>q (by injection z)),decide_eq_true q];rfl
    rw[←e]at hk
    exact hk _ ⟨_,rfl⟩
   ·refine ⟨D,_,rfl,SqL.of zab,es.length - (i+1),by omega,rfl,aa,⟨_,rfl⟩,?_,k2.trans (Keep.new hD),?_⟩
    ·rw[zad (zaa hz hD)];exact hz
    ·rw [aP,Qs,Qs]
     show _=_++[V.bl _]
     congr 3
     rw[List.all_map]
     rfl
  ·have fA:i=es.length:=by omega
   subst fA
   refine .inl ⟨⟨hz,by rw[Qa];exact Qf _⟩,λD hD=>?_⟩
   rw[Qr (Qf _)]
   have ndD:d≠D:=zaa hz hD
   refine⟨d,o,_,(by rw[zad ndD];exact hz),nfz,?_⟩
   refine⟨D,_,rfl,SqL.of (by rw[zad (Zc ndD)];exact zab),?_⟩
   refine k _ _ ?_ λc u ec _=>?_
   ·rw [List.all_map,Ua]
    constructor
    ·intro h
     refine clr_sides C t6 λx y bZ=>?_
     obtain⟨e,he,hx⟩:=Qk.mp (C.inn bZ)
     have eO:e.1=x:=hx
     have:=h e he
     have:=Ua.mp this y (by rw[←af e he,eO];exact bZ)
     rw[←eO]
     exact of_decide_eq_true this
    ·rintro ⟨c,hc⟩ e he
     refine Ua.mpr λy hy=>decide_eq_true ?_
     have hr:y∈row (rsOf es) e.1:=by rw[af e he];exact hy
     rw[j' c hc e.1 (C.inn hr),j' c hc y (C.inn' hr)]
     exact Zc (hc.t _ _ hr)
   ·have fH:=k1 c u ec (by simp)
    by_cases au:c=d
    ·subst au
     rw[zab,←R1.dc];exact fH
    ·have rG:=k2 c u fH (by simpa using au)
     rw[zad au,zad (zaa rG hD)];exact rG
end
end K21
end
section
namespace L2
open PySem PySem.Spec PyProof.Rows
def Itz(a b:Nc)(K:Na):It :=
 ⟨fun i H=>∃ xs ys,SqL K H a xs∧SqL K H b ys∧i < xs.length∧i < ys.length,fun i H x H'=>∃ u v t,(∀ xs,SqL K H a xs→xs[i]?=some u)∧(∀ ys,SqL K H b ys→ys[i]?=some v)∧H t=none∧x=.ref t∧H'=upd H t (.tup [u,v]),
  λi H=>∃xs ys,SqL K H a xs∧SqL K H b ys∧(xs.length≤i∨ys.length≤i)⟩
theorem turn_zip{P:Nj}{w:Nl}{K:Na}{elts:Nq}{kk:Nat}{pos:Pos}(a b z TI TO i1 i2:Nc)(D:ZipApart z TI TO i1 i2 a b) :
  Turn P w K (.Tuple elts kk pos) (Itz a b K) [z,TI,TO,i1,i2] z (λi h=>IsZip h z TI TO .none∧IsPair h TI (.ref i1) (.ref i2)∧(∃u v,IsPair h TO u v)∧h.IsListIter i1 a i∧h.IsListIter i2 b i) where
 mem:=by simp
 obj:=λi h st c hc=>by
  obtain⟨q1,q2,⟨u,v,q3⟩,⟨o4,q4,_,d4⟩,⟨o5,q5,_,d5⟩⟩:=st
  simp only[Qd,Wq,or_false]at hc
  rcases hc with rfl | rfl | rfl | rfl | rfl
  ·exact⟨_,q1,λv z=>by cases z⟩
  ·exact⟨_,q2,λv z=>by cases z⟩
  ·exact⟨_,q3,λv z=>by cases z⟩
  ·exact⟨o4,q4,λv z=>by rw[d4]at z;cases z⟩
  ·exact⟨o5,q5,λv z=>by rw[d5]at z;cases z⟩
 keep:=λi h h' st k=>by
  obtain⟨q1,q2,⟨u,v,q3⟩,q4,q5⟩:=st
  exact⟨k z (by simp) _ q1,k TI (by simp) _ q2,⟨u,v,k TO (by simp) _ q3⟩,q4.at λo q=>k i1 (by simp) o q,q5.at λo q=>k i2 (by simp) o q⟩
 item:=by
  intro X hP hw hK hc i a0 s σ H E I hf st hg
  subst hP hw hK
  obtain⟨xs,ys,jJ,qO,hix,hiy⟩:=hg
  obtain⟨ix,rx,px,_⟩:=I.list jJ
  obtain⟨iy,ry,py,_⟩:=I.list qO
  obtain⟨hz,lL,⟨u0,v0,mU⟩,h1,h2⟩:=st
  obtain⟨u,hu,ru⟩:=rx.get (Qg hix)
  obtain⟨v,hv,rv⟩:=ry.get (Qg hiy)
  refine wpAny_pyNext_zip_item D hz lL mU h1 h2 px.isList py.isList (by simpa using hu) (by simpa using hv) λg a1 a2 a3 a4 a5 a6 hk=>⟨.ref s.heap.objs.size,rfl,?_⟩
  have aK:∀c u,H c=some u→c≠z∧c≠TO∧c≠i1∧c≠i2:=λc u q=>by
   refine⟨λe=>?_,λe=>?_,λe=>?_,λe=>?_⟩<;>(rw[e,(hf _ (by simp)).1]at q;cases q)
  have gW:∀c o,c∉[z,TO,i1,i2]→s.heap.get? c=some o→g.get? c=some o:=λc o hc q=>hk c o (λe=>hc (by simp[e])) (λe=>hc (by simp[e])) (λe=>hc (by simp[e])) (λe=>hc (by simp[e])) q
  have I1:Inv X a0 σ H {s with heap:=g}:=by
   refine I.step (g':=s.gens) (d':=s.drawn) (ch:=[z,TO,i1,i2]) (λc hc=>?_) (λc o _ _ hc q _=>gW c o hc q) (λc o _ _ hc q _=>⟨o.slots,gW c o hc q⟩) (λ_ _ _ _ n=>n)
    (λc o hc q=>⟨o,gW c o hc q⟩) (λ_ _ q=>q) (λ_ _ _ q=>q) (λc ps q=>⟨#[],by rw[q];simp⟩) (λm hm=>?_) (λc u q=>?_) I.bare
   ·have cb:c∈[z,TI,TO,i1,i2]:=by
     simp only[Qd,Wq,or_false]at hc ⊢
     rcases hc with e | e | e | e<;>simp[e]
    obtain⟨e0,e1,e2,e3,e4,e5⟩:=hf c cb
    exact⟨e3,e1,e4,e5⟩
   ·obtain ⟨o,es,ep,q,r⟩:=hm
    exact⟨o,es,ep,hk _ o (Zc (hf z (by simp)).2.1) (Zc (hf TO (by simp)).2.1) (Zc (hf i1 (by simp)).2.1) (Zc (hf i2 (by simp)).2.1) q,r⟩
   ·refine (I.hok c u q).stay (fun c' v hc z=>?_) (fun _ z=>z) fun _ _ z=>z
    obtain⟨n1,n2,n3,n4⟩:c'≠_∧c'≠TO∧c'≠i1∧c'≠i2:=by
     rcases hc with rfl | hc
     ·exact aK c' u q
     ·exact aK c' _ hc
    exact hk c' v n1 n2 n3 n4 z
  obtain⟨e0,e1,e2,e3,e4,e5⟩:=hf z (by simp)
  have hN:H s.heap.objs.size=none:=I.hok.fresh (Qf _)
  refine wpAny_letOwnedTupleGo_zip a1 λg' br bj=>?_
  have nT:s.heap.objs.size≠z:=Yw (Qu hz)
  have I2:Inv X a0 σ H {s with heap:=g'}:=Inv.turned (s:={s with heap:=g}) (t':=s.toks) (it:=z) I1 (λb o hb q=>(bj.2 b hb).trans q) e0 e1 e3 e4 e5
  have vf:g'.get? s.heap.objs.size=some {cls:=.type "tuple",data:=.seq #[u,v]}:=(bj.2 _ nT).trans a5
  have I3:Inv X a0 σ (upd H s.heap.objs.size (.tup [xs[i],ys[i]])) {s with heap:=g'}:=by
   refine⟨I2.ok,I2.os,I2.bare,⟨I2.base.keep,I2.base.slot,λb o q n hx=>?_,I2.base.there,λb zs q=>?_,λb o v q=>?_,λb ps q=>?_⟩,I2.loc,I2.cell,?_,λz c q=>?_,λpp hp=>?_,λb v' q=>?_,I2.len⟩
   ·have lt:b < s.heap.objs.size:=Zw (Qu q) I.sz
    rw[zad (Ze lt)];exact I2.base.free b o q n hx
   ·have:=I2.base.tups b zs q
    rw[zad (zaa this hN)];exact this
   ·have:=I2.base.frzs b o v q
    rw[zad (zaa this hN)];exact this
   ·obtain ⟨m,z⟩:=I2.base.tbls b ps q
    exact⟨m,by rw[zad (zaa z hN)];exact z⟩
   ·rw[zad (Ze I.lt)];exact I2.free
   ·rw[zad (Ze (I.cl_lt z c q))];exact I2.freeC z c q
   ·obtain ⟨h1,h2,h3⟩:=I2.pin pp hp
    exact⟨h1,by rw[zad (Ze (I.pin_lt pp hp))];exact h2,h3⟩
   ·by_cases hb:b=s.heap.objs.size
    ·subst hb
     rw[zab]at q
     cases q
     exact⟨by show 2≤sizeLine;decide,[u,v],.cons ru (.cons rv .nil),_,vf,rfl,_,rfl⟩
    ·rw [zad hb] at q
     exact(I2.hok b v' q).stay (λc v _ z=>z) (λc z=>by rw[zad (zaa z hN)];exact z) λc zs z=>by rw[zad (zaa z hN)];exact z
  refine⟨.ref s.heap.objs.size,_,I3,rfl,⟨xs[i],ys[i],_,λnj nO=>by rw[I.list_inj nO jJ];exact Qg hix,λnj nO=>by rw[I.list_inj nO qO];exact Qg hiy,hN,rfl,rfl⟩,
   ⟨br,(bj.2 TI D.TIz).trans (hk _ _ D.TIz D.TITO D.TIi1 D.TIi2 lL),⟨_,_,(bj.2 TO D.TOz).trans a2⟩,a3.at λo q=>(bj.2 _ D.i1z).trans q,a4.at λo q=>(bj.2 _ D.i2z).trans q⟩,λb hb=>?_⟩
  have lt:b<s.heap.objs.size:=by
   simp only[Qd,Wq,or_false]at hb
   obtain⟨o4,q4,_⟩:=h1
   obtain⟨o5,q5,_⟩:=h2
   rcases hb with rfl | rfl | rfl | rfl | rfl
   ·exact Qu hz
   ·exact Qu lL
   ·exact Qu mU
   ·exact Qu q4
   ·exact Qu q5
  rw[zad (Ze lt)]
  exact(hf b hb).1
 done:=by
  intro X hP hw hK hc i a0 s σ H E I hf st hg
  subst hP hw hK
  obtain⟨xs,ys,jJ,qO,uS⟩:=hg
  obtain⟨ix,rx,px,_⟩:=I.list jJ
  obtain⟨iy,ry,py,_⟩:=I.list qO
  have lx:=rx.length
  have ly:=ry.length
  obtain⟨hz,lL,⟨u0,v0,mU⟩,h1,h2⟩:=st
  refine wpAny_pyNext_zip_end (I.ok.hd hc) D hz lL mU h1 h2 px.isList py.isList (uS.imp (λh=>by simp;omega) λh=>by simp;omega) λg hk=>⟨rfl,?_⟩
  have aK:∀c u,H c=some u→c≠z∧c≠TO∧c≠i1∧c≠i2:=λc u q=>by
   refine⟨λe=>?_,λe=>?_,λe=>?_,λe=>?_⟩<;>(rw[e,(hf _ (by simp)).1]at q;cases q)
  have gW:∀c o,c∉[z,TO,i1,i2]→s.heap.get? c=some o→g.get? c=some o:=λc o hc q=>hk c o (λe=>hc (by simp[e])) (λe=>hc (by simp[e])) (λe=>hc (by simp[e])) (λe=>hc (by simp[e])) q
  refine I.step (g':=s.gens) (d':=s.drawn) (ch:=[z,TO,i1,i2]) (λc hc=>?_) (λc o _ _ hc q _=>gW c o hc q) (λc o _ _ hc q _=>⟨o.slots,gW c o hc q⟩) (λ_ _ _ _ n=>n)
   (λc o hc q=>⟨o,gW c o hc q⟩) (λ_ _ q=>q) (λ_ _ _ q=>q) (λc ps q=>⟨#[],by rw[q];simp⟩) (λm hm=>?_) (λc u q=>?_) I.bare
  ·have cb:c∈[z,TI,TO,i1,i2]:=by
    simp only[Qd,Wq,or_false]at hc ⊢
    rcases hc with e | e | e | e<;>simp[e]
   obtain⟨e0,e1,e2,e3,e4,e5⟩:=hf c cb
   exact⟨e3,e1,e4,e5⟩
  ·obtain ⟨o,es,ep,q,r⟩:=hm
   exact⟨o,es,ep,hk _ o (Zc (hf z (by simp)).2.1) (Zc (hf TO (by simp)).2.1) (Zc (hf i1 (by simp)).2.1) (Zc (hf i2 (by simp)).2.1) q,r⟩
  ·refine (I.hok c u q).stay (fun c' v hc z=>?_) (fun _ z=>z) fun _ _ z=>z
   obtain⟨n1,n2,n3,n4⟩:c'≠_∧c'≠TO∧c'≠i1∧c'≠i2:=by
    rcases hc with rfl | hc
    ·exact aK c' u q
    ·exact aK c' _ hc
   exact hk c' v n1 n2 n3 n4 z
 self:=λA i s Q E st h=>wpAny_pyIter_zip st.1 h
section
variable{X:Cx}
def iZip(K:Na)(ta:TA):TI:=λ σ H R=>ta σ H λvs H1=>∃a b,vs=[.ref a,.ref b]∧(∃xs,SqL K H1 a xs)∧(∃ys,SqL K H1 b ys)∧R (Itz a b K) H1
def pi_zip{elts:Nq}{kk:Nat}{tpos:Pos}{a b:Expr}{ta:TA}{p pos:Pos}(hg:Gl X "zip")(hm:X.mg "zip" = none)(ha:PA X [a,b] ta)(hs:starEach [a,b] X.env=(false,eval a X.env)::starEach [b] X.env:=by rfl)(fV:(backTo pos (starEach [b] X.env)).any (·.1)=false:=by rfl) :
  PI X (.Tuple elts kk tpos) (.Call (.Name "zip" p) [a,b] [] pos) (iZip X.K ta):=by
 intro a0 s σ H R I h
 refine Call_ (zg8 I hg hm boot_zip (Us (thn (ha pos a0 s σ H _ I h) λus s1 ⟨vs,H1,I1,r1,q1⟩=>?_) hs fV))
 obtain⟨l1,l2,e,⟨xs,cL⟩,⟨ys,bm⟩,q⟩:=q1
 subst e
 obtain⟨u,v,rfl,ru,rv⟩:=vals2 r1
 cases ru
 cases rv
 obtain⟨ix,rx,px,_⟩:=I1.list cL
 obtain⟨iy,ry,py,_⟩:=I1.list bm
 have lt1:l1<s1.heap.objs.size:=by obtain⟨o,q,_⟩:=px.isList;exact Qu q
 have lt2:l2<s1.heap.objs.size:=by obtain⟨o,q,_⟩:=py.isList;exact Qu q
 refine call_zip_2 px.isList py.isList λg hz lL mU h1 h2 hsz k=>wpAny_pyIter_zip hz ?_
 have I2:Inv X a0 σ H1 {s1 with heap:=g}:=I1.kept (t':=s1.toks) k
 refine⟨s1.heap.objs.size+4,_,_,_,H1,rfl,I2,turn_zip l1 l2 _ _ _ _ _ (zipApart_new lt1 lt2),⟨hz,lL,⟨_,_,mU⟩,h1,h2⟩,λc hc=>?_,q⟩
 have g9:s1.heap.objs.size≤c:=by
  simp only[Qd,Wq,or_false]at hc
  rcases hc with e | e | e | e | e<;>rw[e]
  ·exact Yr _ _
  ·exact Yr _ _
  ·exact Yr _ _
  ·exact Qf _
  ·exact Yr _ _
 exact I1.fpOk g9 (I1.hok.fresh g9)
end
section
variable{X:Cx}
def zit:zb4 X (.builtin "isinstance") (λxs H Q=>Ex2 λ(a:Nc) (ys:List V)=>Aj3 (xs=[.ref a,.ty "list"]) (SqL X.K H a ys) (Q (.bl true) H)):=by
 intro a0 s σ H xs us Q I r h
 obtain⟨a,ys,rfl,hq,q⟩:=h
 obtain⟨u,w',rfl,e1,e⟩:=vals2 r
 have e':w'=Value.type "list" := e
 subst e'
 cases e1
 obtain⟨a7,rv,pl,_⟩:=I.list hq
 obtain⟨o,ho,hc,_⟩:=pl.isList
 exact IsiPair.list_list ho hc ⟨.bl true,H,I,rfl,q⟩
def ziu:zb4 X (.builtin "isinstance") (λxs H Q=>Ex1 λ(n:Int)=>Aj2 (xs=[.int n,.ty "bool"]) (Q (.bl false) H)):=by
 intro a0 s σ H xs us Q I r h
 obtain⟨n,rfl,q⟩:=h
 obtain⟨u,w',rfl,⟨t,rfl⟩,e⟩:=vals2 r
 have e':w'=Value.type "bool" := e
 subst e'
 exact IsiPair.int_bool ⟨.bl false,H,I.tok _,rfl,q⟩
end
end L2
namespace K21
open PySem L2 Wb
abbrev zcq:Stmt:=top 43
def tstOf:Stmt→Expr
 |.If e _ _ _=>e
 |_=>.Name "" ⟨0,0,0,0⟩
abbrev csRA:Scope:=scOf (aOf 0 (tstOf (sAt zcq 1)))
abbrev csRB:Scope:=scOf (aOf 0 (eOf (sAt zcq 2)))
def csRA_k:csRA.kind=.function:=by rfl
def csRA_c:∀y∈csRA.names,y.2≠.cell:=by decide +kernel
def csRA_n:∀y∈csRA.names,y.2=.local→csRA.names.lookup y.1=some .local:=by decide +kernel
def csRA_f:∀y∈csRA.names,y.2=.free→(zag zcq).names.lookup y.1=some .cell∨(zag zcq).names.lookup y.1=some .free:=by decide +kernel
def csRA_l:csRA.names.lookup ("_law_rounds_here" : Str)=some NameKind.free:=by decide +kernel
def csRB_k:csRB.kind=.function:=by rfl
def csRB_c:∀y∈csRB.names,y.2≠.cell:=by decide +kernel
def csRB_n:∀y∈csRB.names,y.2=.local→csRB.names.lookup y.1=some .local:=by decide +kernel
def csRB_f:∀y∈csRB.names,y.2=.free→(zag zcq).names.lookup y.1=some .cell∨(zag zcq).names.lookup y.1=some .free:=by decide +kernel
def csRB_l:csRB.names.lookup ("_law_rounds_here" : Str)=some NameKind.free:=by decide +kernel
def ndRA:(["_law_name", "_law_rounds_here"]:List Str).Nodup:=by decide +kernel
def ndRB:(["_law_name", "_law_other", "_law_rounds_here"]:List Str).Nodup:=by decide +kernel
inductive IspIsRing(vs:List V)(H:Hp)(Q:VK):Prop
 |mk (d l:Nc) (es:List Ent) (L:Nd) (h0:vs=[.ref d,.ref l]) (h1:RAt H d es) (h2:H l=some (.lst (L.map V.str))) (h3:es.length≤60) (h4:zhl (row (rsOf es)) L) (h5:∀z∈L,z∈es.map (·.1)) (h6:∀H',Keep [] H H'→Q (.bl true) H'):IspIsRing vs H Q
def spIsRing:Sp:=λvs H Q _=>IspIsRing vs H Q
section
variable{P:Nj}{w:Nl}{K:Na}{mg:Ng}{base:Nm}
def scIsRing:zaq ["_law_rounds_here", "_law_ring"] ["_law_rounds_here", "_law_ring"] (zag zcq):=⟨rfl,rfl,rfl,by decide +kernel,rfl,by decide +kernel,by decide +kernel⟩
def ok_isring(F:Fun K "_law_is_ring" "_law_is_ring" zcq f fd)(gY:mg "isinstance" = none)(d7:mg "list" = none)(a9:mg "len" = none)(kO:mg "set" = none)(dj:mg "any" = none)(aw:mg "all" = none)(sx:mg "zip" = none):FnOk P w K mg base CX0 1 f fd ["_law_rounds_here", "_law_ring"] spIsRing:=by
 refine F.ok scIsRing (λvs H Q E h=>?_) (λcdv A outer s H vs Q E hr h=>?_)
 ·obtain ⟨d,l,es,L,rfl,_⟩:=h
  rfl
 ·obtain ⟨d,l,es,L,rfl,R,hl,aN,hR,ai,k⟩:=h
  have hu:=zb9 hr
  have aG:sizeLine=16777216:=sizeLine_eq
  refine⟨_,zae (zb5 (PW.pt (zhz (pt_not (zf2 (zai zit (by rfl) gY Kf (zac (pv 1) (zac (pe_tyN (T := "list") rfl d7 Xi) zaf)))))
    (zhz (zas op_lt (zai zan (by rfl) a9 Zx (zac (pv 1) zaf)) zal (zbf _))
    (zhz (zas op_eq (zbd zfb (zai zan (by rfl) a9 Zx (zac (pv 1) zaf)) zal) zal (zbf _))
    (zg3 (zas op_ne (zai zek (by rfl) a9 Zx (zac (zct (zej rfl) (by rfl) kO PyProof.Rows.boot_set (zac (pv 1) zaf)) zaf))
     (zai zan (by rfl) a9 Zx (zac (pv 1) zaf)) (zbf _))))))) (zah zfe) za0)
   (zae (zb5 (zf2 (zai (call_any rfl) (by rfl) dj PyProof.Rows.boot_any (zac (zf3 (M:=["_law_name", "_law_rounds_here"]) (ix:=[none,some 0]) ⟨csRA_k,csRA_c,csRA_n,csRA_f,rfl,ndRA,λj i x h1 h2=>by
       match j,h1,h2 with
       |0,_,h2=>cases h2
       |1,h1,h2=>cases h1;cases h2;exact⟨rfl,csRA_l⟩
       |n+2,h1,_=>cases h1⟩ rfl (zav (pv 1)) (λC a0 ex s H=>zaj (i:=0) ndRA rfl (Or.inl rfl) (Or.inr rfl))
       (λC a0 ex s H=>zci) (λC a0 ex s H=>pe_cmp (zbz (by exact hu) (pv 0) (pv 1)))) zaf))) (zah zfe) za0)
   (zah (zbe (zai (zfo rfl) (by rfl) aw Ju (zac (zf3 (M:=["_law_name", "_law_other", "_law_rounds_here"]) (ix:=[none,none,some 0]) ⟨csRB_k,csRB_c,csRB_n,csRB_f,rfl,ndRB,λj i x h1 h2=>by
       match j,h1,h2 with
       |0,_,h2=>cases h2
       |1,_,h2=>cases h2
       |2,h1,h2=>cases h1;cases h2;exact⟨rfl,csRB_l⟩
       |n+3,h1,_=>cases h1⟩ rfl (pi_zip (by rfl) sx (zac (pv 1) (zac (zbd zea (zbq zcd (pv 1) (zb8 zal) zby) (zbq zcd (pv 1) zby (zb8 zal))) zaf)))
       (λC a0 ex s H=>zh0 (K:=K) (n:=2) rfl rfl (zax (zaj (i:=0) ndRB rfl (Or.inl rfl) (Or.inr rfl)) (zax (zaj (i:=1) ndRB rfl (Or.inl rfl) (Or.inr rfl)) zcj)))
       (λC a0 ex s H=>zci) (λC a0 ex s H=>pe_cmpR (zeu (K:=K) rfl) (pv 1) (zat (by exact hu) (pv 2) (pv 0) (λ_ _=>rfl)) rfl)) zaf))))),?_⟩
  have ji:(es.map (·.1)).length=es.length:=Qa ..
  have vh:L.length≤60:=Zd (zba hR.nd ai) (by omega)
  have aF:∀q:List Str,(q.map V.str).length=q.length:=λq=>Qa ..
  have h3:=hR.three
  have mr:=hR.odd
  refine⟨_,rfl,l,_,rfl,SqL.of hl,_,rfl,za5 rfl ?_⟩
  refine⟨_,rfl,l,_,rfl,.inl (SqL.of hl),_,_,rfl,rfl,_,rfl,za5 (decide_eq_false (by rw[aF];omega)) ?_⟩
  refine⟨_,rfl,l,_,rfl,.inl (SqL.of hl),_,_,rfl,rfl,by decide,rfl,_,rfl,za5 (decide_eq_false (λq=>by injection q with q;rw[aF]at q;omega)) ?_⟩
  refine⟨_,rfl,l,L,rfl,SqL.of hl,hR.nd,by omega,λt ht=>?_⟩
  have aS:(upd H t (setO P w t L)) l=some (.lst (L.map V.str)):=by rw[zad (zaa hl ht)];exact hl
  refine⟨t,L,rfl,zab,by omega,_,rfl,l,_,rfl,.inl (SqL.of aS),rfl,_,rfl,za5 (by rw[aF,decide_eq_true rfl];rfl) ?_⟩
  have k1:Keep [] H (upd H t (setO P w t L)):=Keep.new ht
  obtain⟨H1,rH⟩:∃H1,H1=upd H t (setO P w t L):=⟨_,rfl⟩
  replace aS:H1 l=some (.lst (L.map V.str)):=by rw[rH];exact aS
  replace k1:Keep [] H H1:=by rw[rH];exact k1
  refine Eq.mp (congrArg (tNext _ _) rH) ?_
  clear rH
  have R1:RAt H1 d es:=R.keep k1 (by simp) (λ_ _=>by simp)
  have fB:∀z∈L,∃e∈es,e.1=z:=λz hz=>Qk.mp (ai z hz)
  refine⟨_,rfl,l,rfl,⟨_,SqL.of aS⟩,lc_at (xs:=L.map V.str) (λ τ=>∃x0,τ=[x0,some (.ref d)]) ((L.map λ_=>false).map V.bl) (by rw[Qa,Qa,Qa]) (SqL.of aS) (by rw[Qa];omega) ⟨none,rfl⟩ ?_ (λD hD=>?_)⟩
  ·rintro j hj mw τ ⟨x0,rfl⟩ kk hk
   rw[Qa]at hj
   rw[Zs]
   obtain⟨e,he,jQ⟩:=fB _ (Qq hj)
   have g:=DGet.k (k:=Sum.inr e.1) R1.dc
   rw[zbv R1.nd he,jQ]at g
   refine⟨_,rfl,_,rfl,d,_,rfl,g,?_⟩
   rw[Zs,Zs]at hk
   exact hk _ ⟨_,rfl⟩
  have ah:(upd H1 D (.lst ((L.map λ_=>false).map V.bl))) l=some (.lst (L.map V.str)):=by rw[zad (zaa aS hD)];exact aS
  have k2:Keep [] H (upd H1 D (.lst ((L.map λ_=>false).map V.bl))):=k1.trans (Keep.new hD)
  refine⟨D,_,rfl,SqL.of zab,_,rfl,za5 ?_ ?_⟩
  ·rw [List.any_map,List.any_eq_false]
   intro z _ q
   cases q
  generalize upd H1 D (.lst ((L.map λ_=>false).map V.bl))=H2 at ah k2
  refine⟨_,rfl,_,rfl,_,rfl,l,_,rfl,SqL.of ah,λp1 h1=>?_⟩
  have n1:l≠p1:=zaa ah h1
  have de:(upd H2 p1 (.lst (cutV (L.map V.str) (some 1) none))) l=some (.lst (L.map V.str)):=by rw[zad n1];exact ah
  refine⟨_,rfl,_,rfl,l,_,rfl,SqL.of de,λp2 h2=>?_⟩
  have dS:p1≠p2:=zaa (o:=_) zab h2
  have fH:cutV (L.map V.str) (some 1) none=(L.drop 1).map V.str:=by
   rw[show(1:Int)=((1:Nat):Int) from rfl,zca (by rw[aF];omega),Uk]
  have rG:cutV (L.map V.str) none (some 1)=(L.take 1).map V.str:=by
   rw[show(1:Int)=((1:Nat):Int) from rfl,zhd (by rw[aF];omega),Uj]
  have fG:cutV (L.map V.str) (some 1) none++cutV (L.map V.str) none (some 1)=(L.drop 1++L.take 1).map V.str:=by rw[fH,rG,Qs]
  have aR:(L.drop 1++L.take 1).length=L.length:=by rw[Qo,Ja,Zn];omega
  refine⟨p1,p2,_,_,rfl,rfl,(by rw[zad dS];exact zab),zab,by rw[←Qo,fG,aF,aR];omega,λp3 h3'=>?_⟩
  rw[fG]
  have k3:Keep [] H (upd (upd (upd H2 p1 (.lst (cutV (L.map V.str) (some 1) none))) p2 (.lst (cutV (L.map V.str) none (some 1)))) p3 (.lst ((L.drop 1++L.take 1).map V.str))):=((k2.trans (Keep.new h1)).trans (Keep.new h2)).trans (Keep.new h3')
  have aV:(upd (upd (upd H2 p1 (.lst (cutV (L.map V.str) (some 1) none))) p2 (.lst (cutV (L.map V.str) none (some 1)))) p3 (.lst ((L.drop 1++L.take 1).map V.str))) p3=some (.lst ((L.drop 1++L.take 1).map V.str)):=zab
  generalize upd (upd (upd H2 p1 (.lst (cutV (L.map V.str) (some 1) none))) p2 (.lst (cutV (L.map V.str) none (some 1)))) p3 (.lst ((L.drop 1++L.take 1).map V.str))=H3 at k3 aV
  have cE:=k3 _ _ hl (by simp)
  refine⟨l,p3,rfl,⟨_,SqL.of cE⟩,⟨_,SqL.of aV⟩,λi m ys τ H'=>Aj5 (m=L.length-i) (i≤L.length) (Ex2 λx0 x1=>τ=[x0,x1,some (.ref d)]) (Keep [] H3 H') (ys=(List.replicate i true).map V.bl),⟨_,rfl,Zi _,⟨none,none,rfl⟩,Keep.refl,rfl⟩,?_⟩
  rintro i m ys τ H4 ⟨rfl,hi,⟨x0,x1,rfl⟩,k4,rfl⟩
  have cr:=k4 _ _ cE (by simp)
  have ax:=k4 _ _ aV (by simp)
  by_cases aa:i<L.length
  ·refine .inr ⟨⟨_,_,SqL.of cr,SqL.of ax,by rw [aF];exact aa,by rw [aF,aR];exact aa⟩,by rw [Qa,Uq];omega,?_⟩
   rintro y H' ⟨u,v,t',e1,e2,mf,rfl,rfl⟩
   have cO:=e1 _ (SqL.of cr)
   have lP:=e2 _ (SqL.of ax)
   have cC:i<(L.drop 1++L.take 1).length:=by rw[aR];exact aa
   rw[Qz,Qg aa]at cO
   rw[Qz,Qg cC]at lP
   obtain rfl:V.str L[i]=u:=Qp cO
   obtain rfl:V.str (L.drop 1++L.take 1)[i]=v:=Qp lP
   have ja:(L.drop 1++L.take 1)[i]∈row (rsOf es) L[i]:=by
    have hz:i<(L.zip (L.drop 1++L.take 1)).length:=by rw[List.length_zip];omega
    have:=hR.tied (L.zip (L.drop 1++L.take 1))[i] (Qq hz)
    rw[List.getElem_zip]at this
    exact this
   generalize(L.drop 1++L.take 1)[i]=o at ja
   obtain⟨e,he,jQ⟩:=fB _ (Qq aa)
   generalize L[i]=z at ja jQ
   have k5:Keep [] H (upd H4 t' (.tup [.str z,.str o])):=(k3.trans k4).trans (Keep.new mf)
   have R5:RAt (upd H4 t' (.tup [.str z,.str o])) d es:=R.keep k5 (by simp) (λ_ _=>by simp)
   have g:=DGet.k (k:=Sum.inr e.1) R5.dc
   rw[zbv R5.nd he,jQ]at g
   have c8:=R5.ro e he
   rw[←jQ,zbb R.nd he]at ja
   refine⟨t',_,rfl,SqT.of zab,rfl,_,_,rfl,_,_,rfl,rfl,?_⟩
   refine⟨_,rfl,_,rfl,_,rfl,d,_,rfl,g,e.2.2,_,rfl,.inl (SqL.of c8),rfl,zcc _,L.length-(i+1),by omega,rfl,aa,⟨_,_,rfl⟩,k4.trans (Keep.new mf),?_⟩
   rw[List.replicate_succ',Qs]
   show _++[V.bl (inV _ _)]=_
   rw[zey,decide_eq_true ja]
   rfl
  ·have fA:i=L.length:=by omega
   subst fA
   refine .inl ⟨⟨_,_,SqL.of cr,SqL.of ax,.inl (by rw[aF];exact Qf _)⟩,λD2 dr=>?_⟩
   refine⟨D2,_,rfl,SqL.of zab,?_⟩
   have:(List.replicate L.length true).all id=true:=by simp
   rw[this]
   exact k _ ((k3.trans k4).trans (Keep.new dr))
end
end K21
end
section
namespace L2
open PySem PySem.Spec PyProof.Rows
section
variable{X:Cx}{a0:Nf}{σ:St}{H:Hp}{s:Nh}
def pe_either(h:PE X e t)(g:PE X e u):PE X e (λ σ H Q=>t σ H Q∨u σ H Q):=λa0 s σ H Q I q=>q.elim (h a0 s σ H Q I) (g a0 s σ H Q I)
inductive RrCopy(x:V)(vs:List V)(H:Hp)(Q:VK):Prop
 |l (a:Nc) (xs:List V) (h0:x=.ref a) (h1:vs=[]) (h2:H a=some (.lst xs)) (h3:∀p,H p=none→Q (.ref p) (upd H p (.lst xs))):RrCopy x vs H Q
def mt_lcopy:MtM X "list.copy" RrCopy:=by
 intro a0 s σ H x vs v us Q I rx rv h
 obtain⟨a,xs,rfl,rfl,e,q⟩:=h
 cases rx
 have iY:=rv.zero
 subst iY
 obtain⟨z,a7,n,r,hl,e'⟩:=I.lstM e
 refine call_meets F.slot_list_copy ⟨_,e',rfl⟩ F.entry_list_copy (F.args_list_copy_1 _) (AutoSeq1.list_copy_list_0 a a7.toArray n (by rw[Qw,←hl];exact z)) ⟨e',?_⟩
 exact⟨.ref _,_,I.laid (t':=s.toks) (o:=.lst xs) (λb ob q=>Qj _ q) (Qf _) ⟨z,a7,0,r,Za _ rfl⟩,rfl,q _ (I.hok.fresh (Qf _))⟩
inductive RrLClear(x:V)(vs:List V)(H:Hp)(Q:VK):Prop
 |l (a:Nc) (xs:List V) (h0:x=.ref a) (h1:vs=[]) (h2:H a=some (.lst xs)) (h3:Q .non (upd H a (.lst []))):RrLClear x vs H Q
def mt_lclear:MtM X "list.clear" RrLClear:=by
 intro a0 s σ H x vs v us Q I rx rv h
 obtain⟨a,xs,rfl,rfl,e,q⟩:=h
 cases rx
 have iY:=rv.zero
 subst iY
 obtain⟨z,a7,n,r,hl,e'⟩:=I.lstM e
 refine call_meets F.slot_list_clear ⟨_,e',rfl⟩ F.entry_list_clear (F.args_list_clear_1 _) (AutoSeq1.list_clear_list_0 a a7.toArray n (by rw[Qw,←hl];exact z)) ⟨e',?_⟩
 exact⟨.non,_,I.lset (its':=[]) e e' rfl .nil (Zi _),rfl,q⟩
inductive RrDCopy(x:V)(vs:List V)(H:Hp)(Q:VK):Prop
 |l (a:Nc) (kvs:List (Key×V)) (h0:x=.ref a) (h1:vs=[]) (h2:H a=some (.dK kvs)) (h3:∀p,H p=none→Q (.ref p) (upd H p (.dK kvs))):RrDCopy x vs H Q
def mt_dcopy:MtM X "dict.copy" RrDCopy:=by
 intro a0 s σ H x vs v us Q I rx rv h
 obtain⟨a,kvs,rfl,rfl,e,q⟩:=h
 cases rx
 have iY:=rv.zero
 subst iY
 obtain⟨z,hd,vs,rel,dd⟩:=dk_of I.hok e
 refine call_meetsIn PySem.F.slot_dict_copy dd.typeIs PySem.F.entry_dict_copy (PySem.F.args_dict_copy_1 _) (meets_dict_copy (zap X.prog X.w) a hd) ⟨vs,dd,by rw[←rel.length];exact z,λh' d1 d2 k=>?_⟩
 have hn:(s.heap.objs.size==sysModules)=false:=beq_eq_false_iff_ne.mpr (Yw I.big)
 exact⟨.ref _,_,I.laid (t':=s.toks) (o:=.dK kvs) k (Qf _) (dk_new z hn rel d1),rfl,q _ (I.hok.fresh (Qf _))⟩
def dict_hits(I:Inv X a0 σ H s)(h1:Rd H a (.dK kvs))(h2:Rd H b (.dK bz))(pm:kvs.Perm bz)(nd:(kvs.map (·.1)).Nodup)(fl:∀p∈kvs,zdb p.2=true) :
  ∃vs jz,(a==sysModules)=false∧(b==sysModules)=false∧s.heap.DictOf (zap X.prog X.w) a vs∧s.heap.DictOf (zap X.prog X.w) b jz∧vs.length=jz.length∧PySem.W.KeqHits A s jz vs true:=by
 obtain⟨z,lo,vs,ep,rk,ha,hl⟩:=dk_at I h1
 obtain⟨z2,nF,jz,ep2,rk2,iO,ah⟩:=dk_at I h2
 have nd2:(bz.map (·.1)).Nodup:=(pm.map _).nodup_iff.mp nd
 have gX:∀(ks:List (Key×V)) (us:List (Key×Value)),KV ks us→(∀p∈ks,p∈kvs)→PySem.W.KeqHits A s jz us true:=by
  intro ks us r
  induction r with
  |nil=>intro _;exact .nil
  |@cons p q' ps qs e t ih =>
   intro hm
   have hp:(p.1,p.2)∈bz:=pm.mem_iff.mp (hm p Qc)
   obtain⟨y,e1,e2⟩:=KV.value rk2 nd2 hp
   have f:=fl p (hm p Qc)
   have hE:=eqAt_V (A:=A) (s:=s) e.2 e2 f f
   rw[eqV_self f]at hE
   obtain⟨k1,v1⟩:=q'
   have hk:p.1=k1:=e.1
   rw[hk]at e1
   exact PySem.W.KeqHits.hit (e:=true) (b:=true) e1 hE (ih λp hp=>hm p (Qh _ hp))
 have:=pm.length_eq
 exact⟨vs,jz,lo,nF,ha.dictOf,iO.dictOf,by omega,gX kvs vs rk λp hp=>hp⟩
def op_ne_dictP(hu:X.A.units<cLine):OpR X (compareOp .NotEq) (λx y H Q=>Ex4 λa b kvs bz=>Aj8 (x=.ref a) (y=.ref b) (Rd H a (.dK kvs)) (Rd H b (.dK bz)) (kvs.Perm bz) ((kvs.map (·.1)).Nodup) (∀p∈kvs,zdb p.2=true) (Q (.bl false) H)):=by
 intro a0 s σ H x y v u Q I rx ry h
 obtain⟨a,b,kvs,bz,rfl,rfl,h1,h2,pm,nd,fl,q⟩:=h
 cases rx;cases ry
 obtain⟨vs,jz,lo,nF,da,db,hl,gX⟩:=dict_hits (A:=X.A.in1) I h1 h2 pm nd fl
 refine PySem.W.keq_ne lo nF da db hu (λ_=>gX) ⟨.bl false,H,I,?_,q⟩
 show Value.bool _=Value.bool false
 rw[hl]
 simp
def EqIn(P:Nj)(w:Nl)(A:Nn)(s:Nh)(y x:Value):Prop:=∀(E:Nb) (Q:Bool→Shared→Prop),Q true s→wpAny (model P w) A (eqBool y x) Q E s
def pair_ne(l b:Nc)(a1 a2 b1 b2:Value)(m1 m2:Nat)(e1 e2:Option Addr)(q1 q2:Array (Option Value)) :
  MeetsIn P w (Builtin.«tuple.__ne__» ⟨[.ref l,.ref b],[]⟩) (λA R s=>s.heap.get? l=some {cls:=.type "tuple",dict:=e1,data:=.seq #[a1,a2] m1,slots:=q1}∧s.heap.get? b=some {cls:=.type "tuple",dict:=e2,data:=.seq #[b1,b2] m2,slots:=q2} ∧
   EqIn P w A.in1 s a1 b1∧EqIn P w A.in1 s a2 b2∧R (.ok (.ret (.bool false))) s) :=
 .of_wp λA R s h=>by
  obtain⟨hp,g,d,tk,os⟩:=s
  obtain⟨g1,g2,h1,h2,h⟩:=h
  have sub:=AutoSeq1.sub_tuple_tuple
  have r1:∀{E:Nb} {Q:Bool→Shared→Prop},Q true ⟨hp,g,d,tk,os⟩→wpAny (model P w) A.in1 (eqBool a1 b1) Q E ⟨hp,g,d,tk,os⟩:=λ{E Q} h=>h1 E Q h
  have r2:∀{E:Nb} {Q:Bool→Shared→Prop},Q true ⟨hp,g,d,tk,os⟩→wpAny (model P w) A.in1 (eqBool a2 b2) Q E ⟨hp,g,d,tk,os⟩:=λ{E Q} h=>h2 E Q h
  wp_walk using AutoSeq1.wpAny_loadPart' g1,AutoSeq1.wpAny_loadPart' g2,r1,r2
  exact⟨_,rfl,h⟩
def SameAt(K:Na)(H:Hp)(l b:Nc):Prop :=
 (∃zs:List Str,SqL K H l (zs.map V.str)∧SqL K H b (zs.map V.str))∨∃kvs bz,Rd H l (.dK kvs)∧Rd H b (.dK bz)∧kvs.Perm bz∧(kvs.map (·.1)).Nodup∧∀p∈kvs,zdb p.2=true
def same_in(hu:A.units<cLine)(I:Inv X a0 σ H s)(ap:l≠b)(h:SameAt X.K H l b):EqIn X.prog X.w A s (.ref l) (.ref b):=by
 rcases h with⟨zs,h1,h2⟩ | ⟨kvs,bz,h1,h2,pm,nd,fl⟩
 ·obtain ⟨a7,r,pl,_⟩:=I.list h1
  obtain⟨cQ,r2,ko,_⟩:=I.list h2
  have l1:=r.length
  have l2:=r2.length
  have:=SeqAt.RcAt.lists (A:=A) (s:=s) (e:=λ_=>true) pl.isList ko.isList (by rw[Qw,Qw];omega) hu (λj j1 j2=>by
   have a1:j<(List.map V.str zs).length:=by rw[l1];simpa using j1
   have a2:j<zs.length:=by simpa using a1
   have g:(List.map V.str zs)[j]?=some (.str zs[j]):=by simp[a2]
   obtain⟨u1,e1,t1,rfl⟩:=r.get g
   obtain⟨u2,e2,t2,rfl⟩:=r2.get g
   rw[Kd,Kd,(Zb.mp e1).2,(Zb.mp e2).2]
   have:=Jt (A:=A.in1) (s:=s) zs[j] t1 zs[j] t2
   rw[beq_self_eq_true]at this
   exact this)
  have e:(List.range a7.toArray.size).all (λ_=>true)=true:=by simp
  rw[e]at this
  exact λE Q hq=>SeqAt.EqAt.of_refs ap this X.prog X.w E Q hq
 ·intro E Q hq
  obtain⟨vs,jz,lo,nF,da,db,hl,gX⟩:=dict_hits (A:=A.in1) I h1 h2 pm nd fl
  have key:∀{Q':Nb},Q' (.bool true) s→wpAny (model X.prog X.w) A (richCompare .Eq (.ref l) (.ref b)) Q' E s:=λ{Q'} h'=>by
   refine PySem.W.keq_eq lo nF da db hu (λ_=>gX) ?_
   rw[hl]
   simpa using h'
  unfold eqBool
  refine wpAny_holding (wpAny_ite_split (λiN=>absurd (by have:=eq_of_beq iN;injection this) ap) λ_=>?_)
  exact wpAny_bind (key (wpAny_truthy_bool hq))
def zg7(hu:X.A.units+1<cLine):OpR X (compareOp .NotEq) (λx y H Q=>Ex5 λ(t u l b:Nc) (a:Str)=>Aj7 (x=.ref t) (y=.ref u) (H t=some (.tup [.str a,.ref l])) (H u=some (.tup [.str a,.ref b])) (l≠b) (SameAt X.K H l b) (Q (.bl false) H)):=by
 intro a0 s σ H x y v u Q I rx ry h
 obtain⟨t,u,l,b,a,rfl,rfl,h1,h2,ap,hs,q⟩:=h
 cases rx;cases ry
 obtain⟨a7,r,⟨⟨c1,d1,dt1,sl1⟩,g1,n6,n1,dd1⟩,_⟩:=I.tuple (SqT.of h1)
 obtain⟨cQ,r2,⟨⟨c2,d2,dt2,sl2⟩,g2,qt,n2,dd2⟩,_⟩:=I.tuple (SqT.of h2)
 obtain⟨v1,v2,rfl,⟨t1,rfl⟩,e2⟩:=vals2 r
 obtain⟨w1,w2,rfl,⟨t2,rfl⟩,e4⟩:=vals2 r2
 cases e2;cases e4
 simp only at n6 dd1 qt dd2
 subst n6 dd1 qt dd2
 have s1:EqIn X.prog X.w X.A.in1 s (.str a t1) (.str a t2):=λE Q hq=>by
  have:=Jt (A:=X.A.in1) (s:=s) a t1 a t2
  rw[beq_self_eq_true]at this
  exact this X.prog X.w E Q hq
 refine wpAny_richCompare_same_room (op:=.NotEq) (T := "tuple") ⟨_,g1,rfl⟩ ⟨_,g2,rfl⟩ F.slot_tuple_ne (call_meetsIn F.slot_tuple_ne ⟨_,g1,rfl⟩ F.entry_tuple_ne (F.args_tuple_ne_2 _ _) (pair_ne t u _ _ _ _ n1 n2 d1 d2 sl1 sl2) ⟨g1,g2,s1,same_in hu I ap hs,?_⟩) (Ut hu)
 exact⟨(λx=>nomatch x),.bl false,H,I,rfl,q⟩
end
end L2
end
section
namespace Wb
open PySem L2 K21
variable{ns iu:Nd}{r r':No}{lab:Nu}
def Rt.turn(hn:∀y,y∈ns↔y∈iu)(h:Rt ns lab x):Rt iu lab x:=⟨(hn x).mp h.1,λy hy hl=>h.2 y ((hn y).mpr hy) hl⟩
def Clr.turn(hn:∀y,y∈ns↔y∈iu)(hr:∀x y,y∈r x↔y∈r' x)(C:Clr ns r lab c):Clr iu r' lab c :=
 ⟨C.b,λx y h=>C.t x y ((hr x y).mpr h),λx h=>C.z x (h.turn λy=>(hn y).symm)⟩
def zhl.turn(hr:∀x y,y∈r x↔y∈r' x)(h:zhl r L):zhl r' L:=⟨h.three,h.odd,h.nd,λp hp=>(hr _ _).mp (h.tied p hp)⟩
def zcb.turn'(hn:∀y,y∈ns↔y∈iu)(hr:∀x y,y∈r x↔y∈r' x)(h:zcb ns r lab L):zcb iu r' lab L:=by
 obtain⟨rt,ks,par,ds,q,D,B,h1,h2,h3,h4,h5,h6,h7,h8⟩:=(h.turn hr).ex
 exact⟨rt,ks,par,ds,q,D,B,h1.turn hn,h2,h3,h4,h5,h6,λgb am aq bu q' a1 a2 a3=>h7 gb am aq bu q' (a1.turn λy=>(hn y).symm) a2 a3,h8⟩
end Wb
end
section
namespace K21
open PySem L2 Wb
abbrev sLaw:Stmt:=top 44
inductive IspLaw(K:Na)(vs:List V)(H:Hp)(Q:VK):Prop
 |mk (a:Nc) (ns:List Int) (h0:vs=[.ref a]) (h1:SqL K H a (ns.map V.int)) (h2:ns.length≤63) (h3:∀H',Q (.bl true) H'):IspLaw K vs H Q
def spLaw(K:Na):Sp:=λvs H Q _=>IspLaw K vs H Q
def SqL.keep(k:Keep [] H H')(h:SqL K H a xs):SqL K H' a xs:=by
 rcases h with(h | ⟨o,h⟩) | h
 ·exact .inl (.inl (k _ _ h (by simp)))
 ·exact .inl (.inr ⟨o,k _ _ h (by simp)⟩)
 ·exact .inr h
abbrev csLw:Scope:=scOf (aOf 0 (aOf 2 (tstOf (bAt (bAt (sAt sLaw 0) 5) 0))))
def csLw_k:csLw.kind=.function:=by rfl
def csLw_c:∀y∈csLw.names,y.2≠.cell:=by decide +kernel
def csLw_n:∀y∈csLw.names,y.2=.local→csLw.names.lookup y.1=some .local:=by decide +kernel
def csLw_f:∀y∈csLw.names,y.2=.free→(zag sLaw).names.lookup y.1=some .cell∨(zag sLaw).names.lookup y.1=some .free:=by decide +kernel
def csLw_l:csLw.names.lookup ("_law_told" : Str)=some NameKind.free:=by decide +kernel
def ndLw:(["_law_name", "_law_told"]:List Str).Nodup:=by decide +kernel
def zif(h:ks.Nodup)(h':am.Nodup)(hm:∀y,y∈ks↔y∈am)(e:∀y∈ks,F y=G y):(dof ks F).Perm (dof am G):=by
 rw[zdc e]
 exact((Uw h h').mpr hm).map _
def dof_nd(h:ks.Nodup):((dof ks F).map (·.1)).Nodup:=by
 unfold dof
 rw[Zq]
 exact Jp.mpr (h.imp λh e=>h (Wr e))
def zig{c:Str→Int}:∀q∈dof ks (λy=>V.int (c y)),zdb q.2=true:=λq hq=>by
 obtain⟨e,_,rfl⟩:=Qk.mp hq
 rfl
def zil(nd:(es.map (·.1)).Nodup)(C:Cert (es.map (·.1)) (row (rsOf es)) cs lab):∀e∈es,e.2.1.length≤es.length:=λe he=>by
 have:=zba (zbb nd he▸C.rn e.1) λy hy=>C.inn' (x:=e.1) (by rw[zbb nd he];exact hy)
 rwa[Qa]at this
def ite_both{c:Bool}{A B:Prop}(a:A)(b:B):if c=true then A else B:=by
 cases c
 ·exact iteF b
 ·exact iteT a
section
variable{P:Nj}{w:Nl}{K:Na}{mg:Ng}{base:Nm}
def scLaw:zaq ["_law_script", "_law_k", "_law_pot_here", "_law_rounds_here", "_law_web_here", "_law_kind", "_law_told", "_law_same"] ["_law_script"] (zag sLaw):=⟨rfl,rfl,rfl,by decide +kernel,rfl,by decide +kernel,by decide +kernel⟩
def ok_law{C f fp ft fr fw fe fv fs fi f2:Nc}{fd fdp fdt fdr fdw fde fdv fds fdi vz:Nv}(F:Fun K "law" "law" sLaw f fd)(FP:Fun K "_law_pot" "_law_pot" sPot fp fdp)(bP:Binds K fdp ["_law_script", "_law_k"] [])(mP:mg "_law_pot" = some (.ref fp))(GP:FnOk P w K mg base CX0 1 fp fdp ["_law_script", "_law_k"] (spPot K))(FT:Fun K "_law_take" "_law_take" zhr ft fdt)(bT:Binds K fdt ["_law_pot_here", "_law_many"] [])(mT:mg "_law_take" = some (.ref ft))(GT:FnOk P w K mg base CX0 1 ft fdt ["_law_pot_here", "_law_many"] zfu)(FR:Fun K "_law_rounds" "_law_rounds" zhs fr fdr)(bR:Binds K fdr ["_law_pot_here", "_law_most"] [])(mR:mg "_law_rounds" = some (.ref fr))(GR:FnOk P w K mg base CX0 4 fr fdr ["_law_pot_here", "_law_most"] (spRounds Good))(FW:Fun K "_law_web" "_law_web" sLWeb fw fdw)(bW:Binds K fdw ["_law_pot_here", "_law_rounds_here"] [])(mW:mg "_law_web" = some (.ref fw))(GW:FnOk P w K mg base CX0 6 fw fdw ["_law_pot_here", "_law_rounds_here"] (spLWeb C))(FE:Fun K "_law_evened" "_law_evened" zdu fe fde)(bE:Binds K fde ["_law_rounds_here"] [])(mE:mg "_law_evened" = some (.ref fe))(GE:FnOk P w K mg base CX0 2 fe fde ["_law_rounds_here"] spEvened)(FV:Fun K "_law_is_even" "_law_is_even" zhv fv fdv)(bV:Binds K fdv ["_law_rounds_here"] [])(mV:mg "_law_is_even" = some (.ref fv))(GV:FnOk P w K mg base CX0 2 fv fdv ["_law_rounds_here"] spEven)(FS:Fun K "_law_sides" "_law_sides" zg1 fs fds)(bS:Binds K fds ["_law_rounds_here"] [])(mS:mg "_law_sides" = some (.ref fs))(GS:FnOk P w K mg base CX0 1 fs fds ["_law_rounds_here"] zhn)(FI:Fun K "_law_is_ring" "_law_is_ring" zcq fi fdi)(bI:Binds K fdi ["_law_rounds_here", "_law_ring"] [])(mI:mg "_law_is_ring" = some (.ref fi))(GI:FnOk P w K mg base CX0 1 fi fdi ["_law_rounds_here", "_law_ring"] spIsRing)(F2:Fun K "two_hues" "two_hues" sTwo f2 vz)(b2:Binds K vz ["web"] [])(m2:mg "two_hues" = some (.ref f2))(G2:FnOk P w K mg base CX0 4 f2 vz ["web"] (spTwo C))(a9:mg "len" = none)(fj:mg "max" = none)(lf:mg "min" = none)(dB:mg "range" = none)(dj:mg "any" = none)(gY:mg "isinstance" = none)(pT:mg "bool" = none):FnOk P w K mg base CX0 7 f fd ["_law_script"] (spLaw K):=by
 refine F.ok scLaw (λvs H Q E h=>?_) (λcdv A outer s H vs Q E hr h=>?_)
 ·obtain ⟨a,ns,rfl,_⟩:=h
  rfl
 ·obtain ⟨a,ns,rfl,hS,oE,k⟩:=h
  have hu:=zb9 hr
  have eQ:=Ut hu
  have aH:Room 1 _:=hr.mono (by decide)
  have bA:Room 2 _:=hr.mono (by decide)
  have ml:Room 4 _:=hr.mono (by decide)
  have aG:sizeLine=16777216:=sizeLine_eq
  refine⟨_,zae (zbc Zh rfl (zc8 rfl dB (zac (zai (call_max2 rfl) (by rfl) fj PyProof.Rows.boot_max (zac zal (zac (zai (call_min2 rfl) (by rfl) lf PyProof.Rows.boot_min (zac zal (zac (zai zan (by rfl) a9 Zx (zac (pv 0) zaf)) zaf))) zaf))) zaf)) (zaj (i:=1) scLaw.nd rfl (Or.inl rfl))
    (zae (zam (i:=2) scLaw.nd rfl (Or.inl rfl) (zak GP aH rfl mP FP.kp bP .nil zaw (zac (pv 0) (zac (pv 1) zaf))))
    (zae (zam (i:=3) scLaw.nd rfl (Or.inl rfl) (zak GR ml rfl mR FR.kp bR .nil zaw (zac (pv 2) (zac zal zaf))))
    (zae (zb5 (zas op_eq (zak GT aH rfl mT FT.kp bT .nil zaw (zac (pv 2) (zac zal zaf))) zal (zbf _))
     (zah (za6 (zak GE bA rfl mE FE.kp bE .nil zaw (zac (pv 3) zaf)))) za0)
    (zae (zam (i:=4) scLaw.nd rfl (Or.inl rfl) (zak GW hr rfl mW FW.kp bW .nil zaw (zac (pv 2) (zac (pv 3) zaf))))
    (zae (ps_asg (zak G2 ml rfl m2 F2.kp b2 .nil zaw (zac (pv 4) zaf)) (ze8 rfl (zax (zaj (i:=5) scLaw.nd rfl (Or.inl rfl)) (zax (zaj (i:=6) scLaw.nd rfl (Or.inr rfl)) zcj))))
    (zae (zb5 (zf2 (zak GV bA rfl mV FV.kp bV .nil zaw (zac (pv 3) zaf)))
     (zah (zb5 (PW.pt (zhz (zas op_ne (pv 5) ze9 (zbf _)) (zhz (zas (op_ne_dictP eQ) (pv 6) (zak GS aH rfl mS FS.kp bS .nil zaw (zac (pv 3) zaf)) (zbf _))
      (zg3 (zf2 (zai (call_any rfl) (by rfl) dj PyProof.Rows.boot_any (zac (zh2 (zf3 (M:=["_law_name", "_law_told"]) (ix:=[none,some 6]) ⟨csLw_k,csLw_c,csLw_n,csLw_f,rfl,ndLw,fun j i x h1 h2=>by
       match j,h1,h2 with
       |0,_,h2=>cases h2
       |1,h1,h2=>cases h1;cases h2;exact⟨rfl,csLw_l⟩
       |n+2,h1,_=>cases h1⟩ rfl (zdw (pv 6)) (λC a0 ex s H=>zaj (i:=0) ndLw rfl (Or.inl rfl) (Or.inr rfl))
       (λC a0 ex s H=>zci) (λC a0 ex s H=>zai ziu (by rfl) (by exact gY) Kf (zac (zat (by exact hu) (pv 1) (pv 0) (λ_ _=>rfl)) (zac (pe_tyN (T := "bool") rfl (by exact pT) PyProof.Rows.boot_bool) zaf))))) zaf))))))) (zah zfe) za0))
     (zah (zb5 (PW.pt (zhz (zas op_ne (pv 5) ze9 (zbf _)) (zg3 (pt_not (zf2 (zak GI aH rfl mI FI.kp bI .nil zaw (zac (pv 3) (zac (pv 6) zaf)))))))) (zah zfe) za0)))
    (zae (zam (i:=7) scLaw.nd rfl (Or.inl rfl) (pe_either (zg6 Xb PySem.F.slot_dict_copy PySem.F.type_dict_copy mt_dcopy (pv 6)) (zg6 Zm PySem.F.slot_list_copy PySem.F.type_list_copy mt_lcopy (pv 6))))
    (zae (za6 (pe_either (zg6 Xb PySem.F.slot_dict_clear PySem.F.type_dict_clear mt_dclear (pv 6)) (zg6 Zm PySem.F.slot_list_clear PySem.F.type_list_clear mt_lclear (pv 6))))
    (zah (zb5 (PW.pt (zhz (zas (zg7 hu) (zak G2 ml rfl m2 F2.kp b2 .nil zaw (zac (pv 4) zaf)) (zdr (zac (pv 5) (zac (pv 7) zaf))) (zbf _))
     (zg3 (zas (zg7 hu) (zak G2 ml rfl m2 F2.kp b2 .nil zaw (zac (zak GW hr rfl mW FW.kp bW .nil zaw (zac (pv 2) (zac (pv 3) zaf))) zaf)) (zdr (zac (pv 5) (zac (pv 7) zaf))) (zbf _))))) (zah zfe) za0)))))))))))
   (zah (zbe pe_bl)),?_⟩
  refine⟨_,rfl,a,_,rfl,.inl hS,_,_,rfl,_,_,rfl,_,rfl,?_,?_,?_⟩
  ·split<;>split<;>lia
  ·rw[Qa];split<;>split<;>lia
  refine zef (λi σ H'=>Aj2 (Keep [] H H') (Ex7 λx1 x2 x3 x4 x5 x6 x7=>σ=[some (.ref a),x1,x2,x3,x4,x5,x6,x7])) ⟨Keep.refl,_,_,_,_,_,_,_,rfl⟩ ?_ ?_
  ·rintro i σ H1 hi ⟨k1,x1,x2,x3,x4,x5,x6,x7,rfl⟩
   have qX:i≤1000:=by
    rw[Qa]at hi
    have:(if(if((ns.length:Int))<7 then((ns.length:Int)) else 7)>2 then(if((ns.length:Int))<7 then((ns.length:Int)) else 7) else 2)≤1000:=by split<;>split<;>lia
    lia
   have ei:(0:Int)+(i:Int)=(i:Int):=by lia
   rw[ei]
   refine⟨_,rfl,_,rfl,a,ns,i,rfl,SqL.keep k1 hS,qX,λp b2 m2 H2 jf bo k2=>?_⟩
   refine⟨_,rfl,p,b2,m2,18,rfl,bo,by decide,λd es b4 m4 H4 R4 hG lA hok aI uX k4=>?_⟩
   refine⟨_,rfl,p,b4,m4,2,rfl,aI,by decide,by decide,λj0 b7 m7 H5 hj0 qW ax ku=>⟨rfl,_,rfl,?_⟩⟩
   have k5:=zbt ku
   have R5:=R4.pot aI k5
   obtain⟨cs,lab,Ct0⟩:=hG
   have Ct:Cert (es.map (·.1)) (row (rsOf es)) cs lab:=by rw[←zhx];exact Ct0
   refine(λkey=>ite_both ⟨_,rfl,d,es,cs,lab,rfl,R5,by omega,Ct,key⟩ (key es cs lab H5 R5 rfl Ct Keep.refl)) ?_
   intro ak cs' ab H6 R6 hn6 C6 k6
   have hel':ak.length≤18:=by
    have:=congrArg List.length hn6
    rw[Qa,Qa]at this
    omega
   have gE:∀e∈ak,zds e.1:=λe he=>by
    have:e.1∈es.map (·.1):=by rw[←hn6];exact Qk.mpr ⟨e,he,rfl⟩
    obtain⟨e0,uU,h0⟩:=Qk.mp this
    have h0':e0.1=e.1:=h0
    rw[←h0'];exact hok e0 uU
   have npd:p≠d:=Zc (zg4 ax R5.dc)
   have aX:Pot H6 p b7 m7:=ax.keep k6 (by simpa using npd)
   refine⟨_,rfl,_,rfl,p,d,b7,m7,ak,cs',ab,rfl,aX,R6,by omega,gE,C6,λx dx d2 ts b7 m7 H7 il oF tu C7 bw k7=>?_⟩
   have R7:=R6.pot aX k7
   have hn:∀y,y∈ts.map (·.1)↔y∈ak.map (·.1):=λy=>oF.mem_iff
   have hr:∀x y,y∈row (rsOf ts) x↔y∈row (rsOf ak) x:=λx y=>(tu x).mem_iff
   have sP:ts.length≤18:=by
    have:=oF.length_eq
    rw[Qa,Qa]at this
    omega
   have kU:∀e∈ts,e.2.1.length≤100:=λe he=>Zd (zil il.ta.nd C7 e he) (by omega)
   have fd1:H1 d=none:=zbi k2 uX (by simp)
   have sk:Keep [p,d] H1 H7:=((((k2.sub (by simp)).trans (k4.sub (by simp))).trans (k5.sub (by simp))).trans (k6.sub (by simp))).trans (k7.sub (by simp))
   have qj:∀l,H7 l=none→H1 l=none:=λl h=>zbi sk h (by
    simp
    exact⟨λe=>(by rw[e,bw.1]at h;cases h),λe=>(by rw[e,R7.dc]at h;cases h)⟩)
   refine⟨_,rfl,x,dx,d2,ts,cs',ab,rfl,il,by omega,C7,kU,?_,?_⟩
   ·intro t l ks c H8 fQ iF bx gS di dQ k8
    obtain⟨kd,jm⟩:∃kd:Str,kd = "hues" := ⟨_,rfl⟩
    rw[←jm]at fQ
    have rE:=qj l dQ
    refine⟨t,_,rfl,SqT.of fQ,rfl,_,_,rfl,_,_,rfl,rfl,?_⟩
    have R8:RAt H8 d ak:=R7.keep k8 (by simp) (λ_ _=>by simp)
    refine⟨_,rfl,d,ak,cs',ab,rfl,R8,by omega,C6,λbb H9 pX k9=>⟨_,rfl,?_⟩⟩
    obtain rfl:=pX.mpr ⟨c,di.turn hn hr⟩
    refine zb6 rfl ?_
    refine⟨_,rfl,rfl,_,rfl,za5 (by rw[jm,decide_eq_true rfl];rfl) ?_⟩
    have R9:RAt H9 d ak:=R8.keep k9 (by simp) (λ_ _=>by simp)
    refine⟨_,rfl,_,rfl,d,ak,cs',ab,rfl,R9,by omega,C6,λls ks9 s9 cK tf ub ud t6 j' fls jD=>?_⟩
    have nI:Keep [] H8 cK:=k9.trans jD
    have jl:=nI _ _ iF (by simp)
    refine⟨l,ls,_,_,rfl,rfl,.inl jl,.inl tf,zif bx ub (λy=>(gS y).trans ((hn y).trans (ud y).symm)) (λy hy=>?_),dof_nd bx,zig,_,rfl,za5 rfl ?_⟩
    ·rw[j' c (di.turn hn hr) y ((hn y).mp ((gS y).mp hy))]
    have c9:ks.length≤18:=Zd (zba bx λy hy=>(gS y).mp hy) (by rw[Qa];exact sP)
    have nfh:∀o' u',H l≠some (.frz o' u'):=λo' u' z=>by
     have:=k1 _ _ z (by simp)
     rw[rE]at this;cases this
    refine⟨_,rfl,l,_,rfl,jl,λo=>⟨λn m ys τ H'=>Aj5 (m=ks.length-n) (n≤ks.length) (Ex1 λx0=>τ=[x0,some (.ref l)]) (H'=upd cK l (.frz o (.dK (dof ks λy=>.int (c y))))) (ys=(List.replicate n false).map V.bl),
     ⟨ks.length,rfl,Zi _,⟨none,rfl⟩,rfl,rfl⟩,?_⟩⟩
    rintro n m ys τ H' ⟨rfl,hnk,⟨x0,rfl⟩,rfl,rfl⟩
    have nN:(upd cK l (.frz o (.dK (dof ks λy=>.int (c y))))) l=some (.frz o (.dK (dof ks λy=>.int (c y)))):=zab
    by_cases aa:n<ks.length
    ·refine .inr ⟨⟨nN,by rw [ze0];exact aa⟩,by rw [Qa,Uq];omega,?_⟩
     rintro v cP ⟨rfl,pr,e1,rfl⟩
     have g1:pr=((Sum.inr ks[n]:Key),V.int (c ks[n])):=by
      unfold dof at e1
      rw[Qz,Qg aa]at e1
      exact(Qp e1).symm
     subst g1
     refine⟨_,rfl,_,rfl,l,_,rfl,.inl ⟨_,Sum.inr ks[n],.inr ⟨o,nN⟩,rfl,(zcp (Qq aa)).symm⟩,c ks[n],rfl,ks.length-(n+1),by omega,rfl,aa,⟨_,rfl⟩,rfl,?_⟩
     rw[List.replicate_succ',Qs]
     rfl
    ·have fA:n=ks.length:=by omega
     subst fA
     refine .inl ⟨⟨nN,by rw[ze0];exact Qf _⟩,λL hL=>?_⟩
     have nhL:l≠L:=zaa nN hL
     refine⟨l,o,_,by rw[zad nhL];exact nN,nfh,?_⟩
     have kk:Keep [] cK (upd (upd (upd cK l (.frz o (.dK (dof ks λy=>.int (c y))))) L (.lst ((List.replicate ks.length false).map V.bl))) l (.dK (dof ks λy=>.int (c y)))):=λz u ec _=>by
      by_cases hz:z=l
      ·subst hz
       rw[zab,←jl];exact ec
      ·rw [zad hz,zad,zad hz]
       ·exact ec
       ·rw [zad (Zc nhL)] at hL
        exact zaa ec hL
     have qe:(upd (upd (upd cK l (.frz o (.dK (dof ks λy=>.int (c y))))) L (.lst ((List.replicate ks.length false).map V.bl))) l (.dK (dof ks λy=>.int (c y)))) L=some (.lst ((List.replicate ks.length false).map V.bl)):=by rw[zad (Zc nhL)];exact zab
     generalize upd (upd (upd cK l (.frz o (.dK (dof ks λy=>.int (c y))))) L (.lst ((List.replicate ks.length false).map V.bl))) l (.dK (dof ks λy=>.int (c y)))=cP at kk qe
     have noany:(List.replicate ks.length false).any id=false:=by simp
     refine⟨L,_,rfl,SqL.of qe,_,rfl,za5 noany ?_⟩
     have cF:=kk _ _ jl (by simp)
     have kD:Keep [] H8 cP:=nI.trans kk
     refine .inl ⟨_,rfl,.inr (.inr (.inl ⟨rfl,.inl ⟨_,cF⟩⟩)),l,_,rfl,rfl,cF,λq hq=>?_⟩
     have nlq:l≠q:=zaa cF hq
     have dJ:(upd cP q (.dK (dof ks λy=>.int (c y)))) l=some (.dK (dof ks λy=>.int (c y))):=by rw[zad nlq];exact cF
     have kC:Keep [] H8 (upd cP q (.dK (dof ks λy=>.int (c y)))):=kD.trans (Keep.new hq)
     have gA:(upd cP q (.dK (dof ks λy=>.int (c y)))) q=some (.dK (dof ks λy=>.int (c y))):=zab
     generalize upd cP q (.dK (dof ks λy=>.int (c y)))=H12 at dJ kC gA
     refine .inl ⟨_,rfl,.inr (.inr (.inl ⟨rfl,.inl ⟨_,dJ⟩⟩)),l,_,rfl,rfl,dJ,?_⟩
     have gf:Keep [l] H7 (upd H12 l (.dK [])):=((k8.trans kC).sub (by simp)).trans (Keep.wr (by simp))
     have bD:(upd H12 l (.dK [])) q=some (.dK (dof ks λy=>.int (c y))):=by rw[zad (Zc nlq)];exact gA
     generalize upd H12 l (.dK [])=H13 at gf bD
     have kl:WAt H13 C x dx d2 ts:=il.keep gf (by simpa using zaa il.ob dQ) (by simpa using zaa il.ta.dc dQ) λe he=>by simpa using zaa (il.ta.ro e he) dQ
     have we:RAt H13 d ak:=R7.keep gf (by simpa using zaa R7.dc dQ) λe he=>by simpa using zaa (R7.ro e he) dQ
     have l6:Pot H13 p b7 m7:=bw.keep gf (by simpa using zaa bw.1 dQ)
     refine⟨_,rfl,x,dx,d2,ts,cs',ab,rfl,kl,by omega,C7,kU,λt2 l2 cg c2 ik gl gK gR oT i9 qi iw=>?_,λt2 l2 L ik _ _ _ aK _ _ _ _=>absurd ⟨c,di⟩ aK⟩
     refine⟨_,rfl,_,rfl,(by show 2≤sizeLine;decide),λu dX=>?_⟩
     have dD:(upd ik u (.tup [.str kd,.ref q])) q=some (.dK (dof ks λy=>.int (c y))):=by rw[zad (zaa (iw _ _ bD (by simp)) dX)];exact iw _ _ bD (by simp)
     have gJ:(upd ik u (.tup [.str kd,.ref q])) l2=some (.dK (dof cg λy=>.int (c2 y))):=by rw[zad (zaa gK dX)];exact gK
     have gd:Keep [] H13 (upd ik u (.tup [.str kd,.ref q])):=iw.trans (Keep.new dX)
     refine⟨t2,u,l2,q,kd,rfl,rfl,by rw[zad (zaa gl dX),jm];exact gl,zab,Zc (zaa bD qi),.inr ⟨_,_,.inl gJ,.inl dD,zif gR bx (λy=>(oT y).trans (gS y).symm) (λy hy=>?_),dof_nd gR,zig⟩,_,rfl,za5 rfl ?_⟩
     ·have bK:=(hn y).mp ((oT y).mp hy)
      rw[←j' c2 (i9.turn hn hr) y bK,j' c (di.turn hn hr) y bK]
     generalize upd ik u (.tup [.str kd,.ref q])=H15 at gd
     have wd:RAt H15 d ak:=we.keep gd (by simp) (λ_ _=>by simp)
     have gD:Pot H15 p b7 m7:=l6.keep gd (by simp)
     have gy:=gd _ _ bD (by simp)
     refine⟨_,rfl,_,rfl,p,d,b7,m7,ak,cs',ab,rfl,gD,wd,by omega,gE,C6,λx' vE vI im b' m' wj ga gF kQ qx tO nK=>?_⟩
     have jj:∀y,y∈im.map (·.1)↔y∈ak.map (·.1):=λy=>gF.mem_iff
     have fS:∀x y,y∈row (rsOf im) x↔y∈row (rsOf ak) x:=λx y=>(kQ x).mem_iff
     have kM:im.length≤18:=by
      have:=gF.length_eq
      rw[Qa,Qa]at this
      omega
     have dE:wj q=some (.dK (dof ks λy=>.int (c y))):=nK _ _ gy (by simpa using zay gy gD.1 (by intro z;cases z))
     refine⟨x',vE,vI,im,cs',ab,rfl,ga,kM,qx,λe he=>Zd (zil ga.ta.nd qx e he) (by omega),λt3 l3 ks3 c3 jx gk gI oR oS i5 vy dU=>?_,λt3 l3 L jx _ _ _ aK _ _ _ _=>absurd ⟨c,(di.turn hn hr).turn (λy=>(jj y).symm) (λx y=>(fS x y).symm)⟩ aK⟩
     refine⟨_,rfl,_,rfl,(by show 2≤sizeLine;decide),λu3 iZ=>?_⟩
     have kZ:(upd jx u3 (.tup [.str kd,.ref q])) q=some (.dK (dof ks λy=>.int (c y))):=by rw[zad (zaa (dU _ _ dE (by simp)) iZ)];exact dU _ _ dE (by simp)
     have gH:(upd jx u3 (.tup [.str kd,.ref q])) l3=some (.dK (dof ks3 λy=>.int (c3 y))):=by rw[zad (zaa gI iZ)];exact gI
     have kE:Keep [p,d,l] H1 (upd jx u3 (.tup [.str kd,.ref q])):=(((((sk.sub (by simp)).trans (gf.sub (by simp))).trans (gd.sub (by simp))).trans (nK.sub (by simp))).trans (dU.sub (by simp))).trans (Keep.new iZ)
     refine⟨t3,u3,l3,q,kd,rfl,rfl,by rw[zad (zaa gk iZ),jm];exact gk,zab,Zc (zaa dE vy),.inr ⟨_,_,.inl gH,.inl kZ,zif oR bx (λy=>(oS y).trans ((jj y).trans ((hn y).symm.trans (gS y).symm))) (λy hy=>?_),dof_nd oR,zig⟩,_,rfl,za5 rfl ⟨k1.trans (((kE.cut jf).cut fd1).cut rE),_,_,_,_,_,_,_,rfl⟩⟩
     have bK:=(jj y).mp ((oS y).mp hy)
     rw[←j' c3 (i5.turn jj fS) y bK,j' c (di.turn hn hr) y bK]
   ·intro t l L H8 fQ iF cU aK cX ai dQ k8
    obtain⟨kd,jm⟩:∃kd:Str,kd = "ring" := ⟨_,rfl⟩
    rw[←jm]at fQ
    have rE:=qj l dQ
    refine⟨t,_,rfl,SqT.of fQ,rfl,_,_,rfl,_,_,rfl,rfl,?_⟩
    have R8:RAt H8 d ak:=R7.keep k8 (by simp) (λ_ _=>by simp)
    refine⟨_,rfl,d,ak,cs',ab,rfl,R8,by omega,C6,λbb H9 pX k9=>⟨_,rfl,?_⟩⟩
    have hbf:bb=false:=by
     cases bb with
     |false=>rfl
     |true =>
      obtain⟨c,hc⟩:=pX.mp rfl
      exact absurd ⟨c,hc.turn (λy=>(hn y).symm) λx y=>(hr x y).symm⟩ aK
    subst hbf
    refine za5 rfl ?_
    refine⟨_,rfl,rfl,_,rfl,za5 (by rw[jm,decide_eq_true rfl];rfl) ?_⟩
    have R9:RAt H9 d ak:=R8.keep k9 (by simp) (λ_ _=>by simp)
    refine⟨_,rfl,_,rfl,d,l,ak,L,rfl,R9,k9 _ _ iF (by simp),by omega,cX.turn hr,λz hz=>(hn z).mp (ai z hz),λcP sr=>⟨_,rfl,za5 rfl ?_⟩⟩
    have kD:Keep [] H8 cP:=k9.trans sr
    have cF:=kD _ _ iF (by simp)
    refine .inr ⟨_,rfl,.inl ⟨rfl,_,SqL.of cF⟩,l,_,rfl,rfl,cF,λq hq=>?_⟩
    have nlq:l≠q:=zaa cF hq
    have dJ:(upd cP q (.lst (L.map V.str))) l=some (.lst (L.map V.str)):=by rw[zad nlq];exact cF
    have kC:Keep [] H8 (upd cP q (.lst (L.map V.str))):=kD.trans (Keep.new hq)
    have gA:(upd cP q (.lst (L.map V.str))) q=some (.lst (L.map V.str)):=zab
    generalize upd cP q (.lst (L.map V.str))=H12 at dJ kC gA
    refine .inr ⟨_,rfl,.inl ⟨rfl,_,SqL.of dJ⟩,l,_,rfl,rfl,dJ,?_⟩
    have gf:Keep [l] H7 (upd H12 l (.lst [])):=((k8.trans kC).sub (by simp)).trans (Keep.wr (by simp))
    have bD:(upd H12 l (.lst [])) q=some (.lst (L.map V.str)):=by rw[zad (Zc nlq)];exact gA
    generalize upd H12 l (.lst [])=H13 at gf bD
    have kl:WAt H13 C x dx d2 ts:=il.keep gf (by simpa using zaa il.ob dQ) (by simpa using zaa il.ta.dc dQ) λe he=>by simpa using zaa (il.ta.ro e he) dQ
    have we:RAt H13 d ak:=R7.keep gf (by simpa using zaa R7.dc dQ) λe he=>by simpa using zaa (R7.ro e he) dQ
    have l6:Pot H13 p b7 m7:=bw.keep gf (by simpa using zaa bw.1 dQ)
    refine⟨_,rfl,x,dx,d2,ts,cs',ab,rfl,kl,by omega,C7,kU,λt2 l2 cg c2 ik _ _ _ _ i9 _ _=>absurd ⟨c2,i9⟩ aK,λt2 l2 L2 ik gl gK tq _ _ _ qi iw=>?_⟩
    refine⟨_,rfl,_,rfl,(by show 2≤sizeLine;decide),λu dX=>?_⟩
    have dD:(upd ik u (.tup [.str kd,.ref q])) q=some (.lst (L.map V.str)):=by rw[zad (zaa (iw _ _ bD (by simp)) dX)];exact iw _ _ bD (by simp)
    obtain rfl:L=L2:=cU.one C7.sy tq
    have gJ:(upd ik u (.tup [.str kd,.ref q])) l2=some (.lst (L.map V.str)):=by rw[zad (zaa gK dX)];exact gK
    have gd:Keep [] H13 (upd ik u (.tup [.str kd,.ref q])):=iw.trans (Keep.new dX)
    refine⟨t2,u,l2,q,kd,rfl,rfl,by rw[zad (zaa gl dX),jm];exact gl,zab,Zc (zaa bD qi),.inl ⟨L,SqL.of gJ,SqL.of dD⟩,_,rfl,za5 rfl ?_⟩
    generalize upd ik u (.tup [.str kd,.ref q])=H15 at gd
    have wd:RAt H15 d ak:=we.keep gd (by simp) (λ_ _=>by simp)
    have gD:Pot H15 p b7 m7:=l6.keep gd (by simp)
    have gy:=gd _ _ bD (by simp)
    refine⟨_,rfl,_,rfl,p,d,b7,m7,ak,cs',ab,rfl,gD,wd,by omega,gE,C6,λx' vE vI im b' m' wj ga gF kQ qx tO nK=>?_⟩
    have jj:∀y,y∈im.map (·.1)↔y∈ak.map (·.1):=λy=>gF.mem_iff
    have fS:∀x y,y∈row (rsOf im) x↔y∈row (rsOf ak) x:=λx y=>(kQ x).mem_iff
    have kM:im.length≤18:=by
     have:=gF.length_eq
     rw[Qa,Qa]at this
     omega
    have dE:wj q=some (.lst (L.map V.str)):=nK _ _ gy (by simpa using zay gy gD.1 (by intro z;injection z with z;rcases L with _ | ⟨_,_⟩<;>cases z))
    refine⟨x',vE,vI,im,cs',ab,rfl,ga,kM,qx,λe he=>Zd (zil ga.ta.nd qx e he) (by omega),λt3 l3 ks3 c3 jx _ _ _ _ i5 _ _=>absurd ⟨c3,(i5.turn jj fS).turn (λy=>(hn y).symm) (λx y=>(hr x y).symm)⟩ aK,λt3 l3 L3 jx gk gI tm _ _ _ vy dU=>?_⟩
    refine⟨_,rfl,_,rfl,(by show 2≤sizeLine;decide),λu3 iZ=>?_⟩
    have kZ:(upd jx u3 (.tup [.str kd,.ref q])) q=some (.lst (L.map V.str)):=by rw[zad (zaa (dU _ _ dE (by simp)) iZ)];exact dU _ _ dE (by simp)
    obtain rfl:L=L3:=(cU.turn' hn hr).one C6.sy (tm.turn' jj fS)
    have gH:(upd jx u3 (.tup [.str kd,.ref q])) l3=some (.lst (L.map V.str)):=by rw[zad (zaa gI iZ)];exact gI
    have kE:Keep [p,d,l] H1 (upd jx u3 (.tup [.str kd,.ref q])):=(((((sk.sub (by simp)).trans (gf.sub (by simp))).trans (gd.sub (by simp))).trans (nK.sub (by simp))).trans (dU.sub (by simp))).trans (Keep.new iZ)
    refine⟨t3,u3,l3,q,kd,rfl,rfl,by rw[zad (zaa gk iZ),jm];exact gk,zab,Zc (zaa dE vy),.inl ⟨L,SqL.of gH,SqL.of kZ⟩,_,rfl,za5 rfl ⟨k1.trans (((kE.cut jf).cut fd1).cut rE),_,_,_,_,_,_,_,rfl⟩⟩
  ·rintro σ H1 ⟨k1,x1,x2,x3,x4,x5,x6,x7,rfl⟩
   exact k H1
end
end K21
end
section
namespace L2
open PySem
section
variable{K:Na}{x qual p1 p2 p3 p4:Str}{st:Stmt}{f:Nc}{fd:Nv}(F:Fun K x qual st f fd)
include F
theorem Fun.b1(h:∀(kV doc pm:Value) (an:Option Addr) (cdv ct a1:Value),bindArgs (PySem.W.fnOf x qual (zcr st) (zcf st) (zag st) .none kV doc pm an cdv ct) ⟨[a1],[]⟩=pure [(p1,a1)]):Binds K fd [p1] [] :=
 F.binds λkV doc pm an cdv ct us hl=>by
  obtain _ | ⟨a1,_ | ⟨z,t⟩⟩:=us
  ·cases hl
  ·exact h kV doc pm an cdv ct a1
  ·cases hl
theorem Fun.b2(h:∀(kV doc pm:Value) (an:Option Addr) (cdv ct a1 a2:Value),bindArgs (PySem.W.fnOf x qual (zcr st) (zcf st) (zag st) .none kV doc pm an cdv ct) ⟨[a1,a2],[]⟩=pure [(p1,a1),(p2,a2)]):Binds K fd [p1,p2] [] :=
 F.binds λkV doc pm an cdv ct us hl=>by
  obtain _ | ⟨a1,_ | ⟨a2,_ | ⟨z,t⟩⟩⟩:=us
  ·cases hl
  ·cases hl
  ·exact h kV doc pm an cdv ct a1 a2
  ·cases hl
theorem Fun.b3(h:∀(kV doc pm:Value) (an:Option Addr) (cdv ct a1 a2 a3:Value),bindArgs (PySem.W.fnOf x qual (zcr st) (zcf st) (zag st) .none kV doc pm an cdv ct) ⟨[a1,a2,a3],[]⟩=pure [(p1,a1),(p2,a2),(p3,a3)]):Binds K fd [p1,p2,p3] [] :=
 F.binds λkV doc pm an cdv ct us hl=>by
  obtain _ | ⟨a1,_ | ⟨a2,_ | ⟨a3,_ | ⟨z,t⟩⟩⟩⟩:=us
  ·cases hl
  ·cases hl
  ·cases hl
  ·exact h kV doc pm an cdv ct a1 a2 a3
  ·cases hl
theorem Fun.b4(h:∀(kV doc pm:Value) (an:Option Addr) (cdv ct a1 a2 a3 a4:Value),bindArgs (PySem.W.fnOf x qual (zcr st) (zcf st) (zag st) .none kV doc pm an cdv ct) ⟨[a1,a2,a3,a4],[]⟩=pure [(p1,a1),(p2,a2),(p3,a3),(p4,a4)]):Binds K fd [p1,p2,p3,p4] [] :=
 F.binds λkV doc pm an cdv ct us hl=>by
  obtain _ | ⟨a1,_ | ⟨a2,_ | ⟨a3,_ | ⟨a4,_ | ⟨z,t⟩⟩⟩⟩⟩:=us
  ·cases hl
  ·cases hl
  ·cases hl
  ·cases hl
  ·exact h kV doc pm an cdv ct a1 a2 a3 a4
  ·cases hl
end
end L2
namespace K21
open PySem L2 Wb PyProof.Rows
theorem all_mk{l:PySem.W.OpenLaw}{w:Nl}{K:Na}{h:Nm}{mg:Ng}{fa C fL f0 f1 f2 f3 f4 f5 f6 f7 f8 f9 mZ f11 f12 f13 f14 f15 f16 f17 f18 f19 f20 f21 f22 f23 f24 f25 f26 f27 f28 g0 g1 g2:Nc}(X:K.In h)(G:h.Ns mainGlobals mg)(hfa:mg "law" = some (.ref fa))(af0:PySem.W.nsIn K mainGlobals "steps_behind" = some (some (.ref f0)))(hf0:∃fd,Fun K "steps_behind" "steps_behind" sSteps f0 fd)(af1:PySem.W.nsIn K mainGlobals "faces_of" = some (some (.ref f1)))(hf1:∃fd,Fun K "faces_of" "faces_of" ze6 f1 fd)(af2:PySem.W.nsIn K mainGlobals "piece_from" = some (some (.ref f2)))(hf2:∃fd,Fun K "piece_from" "piece_from" sPiece f2 fd)(af3:PySem.W.nsIn K mainGlobals "pieces_of" = some (some (.ref f3)))(hf3:∃fd,Fun K "pieces_of" "pieces_of" zfx f3 fd)(af4:PySem.W.nsIn K mainGlobals "pieces" = some (some (.ref f4)))(hf4:∃fd,Fun K "pieces" "pieces" sPcs f4 fd)(af5:PySem.W.nsIn K mainGlobals "tree" = some (some (.ref f5)))(hf5:∃fd,Fun K "tree" "tree" sTree f5 fd)(af6:PySem.W.nsIn K mainGlobals "way_to" = some (some (.ref f6)))(hf6:∃fd,Fun K "way_to" "way_to" sWay f6 fd)(af7:PySem.W.nsIn K mainGlobals "ring_in" = some (some (.ref f7)))(hf7:∃fd,Fun K "ring_in" "ring_in" sRing f7 fd)(af8:PySem.W.nsIn K mainGlobals "two_hues" = some (some (.ref f8)))(hf8:∃fd,Fun K "two_hues" "two_hues" sTwo f8 fd)(af9:PySem.W.nsIn K mainGlobals "is_name" = some (some (.ref f9)))(hf9:∃fd,Fun K "is_name" "is_name" zdt f9 fd)(wb:PySem.W.nsIn K mainGlobals "refuse_no_names" = some (some (.ref mZ)))(uN:∃fd,Fun K "refuse_no_names" "refuse_no_names" zfj mZ fd)(w8:PySem.W.nsIn K mainGlobals "refuse_twice" = some (some (.ref f11)))(uM:∃fd,Fun K "refuse_twice" "refuse_twice" zdp f11 fd)(w6:PySem.W.nsIn K mainGlobals "refuse_one_way" = some (some (.ref f12)))(uL:∃fd,Fun K "refuse_one_way" "refuse_one_way" zhu f12 fd)(w4:PySem.W.nsIn K mainGlobals "refuse_not_flat" = some (some (.ref f13)))(uK:∃fd,Fun K "refuse_not_flat" "refuse_not_flat" zgt f13 fd)(vZ:PySem.W.nsIn K mainGlobals "from_least" = some (some (.ref f14)))(uJ:∃fd,Fun K "from_least" "from_least" sLeast f14 fd)(vY:PySem.W.nsIn K mainGlobals "_law_pot" = some (some (.ref f15)))(uI:∃fd,Fun K "_law_pot" "_law_pot" sPot f15 fd)(vX:PySem.W.nsIn K mainGlobals "_law_take" = some (some (.ref f16)))(uH:∃fd,Fun K "_law_take" "_law_take" zhr f16 fd)(vW:PySem.W.nsIn K mainGlobals "_law_names" = some (some (.ref f17)))(uG:∃fd,Fun K "_law_names" "_law_names" zfy f17 fd)(vV:PySem.W.nsIn K mainGlobals "_law_behind" = some (some (.ref f18)))(uF:∃fd,Fun K "_law_behind" "_law_behind" zfz f18 fd)(vU:PySem.W.nsIn K mainGlobals "_law_put" = some (some (.ref f19)))(uE:∃fd,Fun K "_law_put" "_law_put" sPut f19 fd)(vT:PySem.W.nsIn K mainGlobals "_law_face" = some (some (.ref f20)))(uD:∃fd,Fun K "_law_face" "_law_face" sFace f20 fd)(vS:PySem.W.nsIn K mainGlobals "_law_tie" = some (some (.ref f21)))(uC:∃fd,Fun K "_law_tie" "_law_tie" sTie f21 fd)(vR:PySem.W.nsIn K mainGlobals "_law_more" = some (some (.ref f22)))(uB:∃fd,Fun K "_law_more" "_law_more" sMore f22 fd)(vQ:PySem.W.nsIn K mainGlobals "_law_rounds" = some (some (.ref f23)))(uA:∃fd,Fun K "_law_rounds" "_law_rounds" zhs f23 fd)(vP:PySem.W.nsIn K mainGlobals "_law_web" = some (some (.ref f24)))(uz:∃fd,Fun K "_law_web" "_law_web" sLWeb f24 fd)(vO:PySem.W.nsIn K mainGlobals "_law_sides" = some (some (.ref f25)))(uy:∃fd,Fun K "_law_sides" "_law_sides" zg1 f25 fd)(vN:PySem.W.nsIn K mainGlobals "_law_evened" = some (some (.ref f26)))(ux:∃fd,Fun K "_law_evened" "_law_evened" zdu f26 fd)(vM:PySem.W.nsIn K mainGlobals "_law_is_even" = some (some (.ref f27)))(uw:∃fd,Fun K "_law_is_even" "_law_is_even" zhv f27 fd)(vL:PySem.W.nsIn K mainGlobals "_law_is_ring" = some (some (.ref f28)))(uv:∃fd,Fun K "_law_is_ring" "_law_is_ring" zcq f28 fd)(ag0:PySem.W.findIn K (.ref C) "__init__" = some (some (.ref g0)))(ig0:PySem.W.isFn K (.ref g0)=true)(kg0:PySem.W.keepIn K (.ref g0)=true)(hg0:∃fd,Fun K "__init__" "Web.__init__" sInit g0 fd)(ag1:PySem.W.findIn K (.ref C) "ties" = some (some (.ref g1)))(ig1:PySem.W.isFn K (.ref g1)=true)(kg1:PySem.W.keepIn K (.ref g1)=true)(pA:∃fd,Fun K "ties" "Web.ties" sTies g1 fd)(ag2:PySem.W.findIn K (.ref C) "round_of" = some (some (.ref g2)))(ig2:PySem.W.isFn K (.ref g2)=true)(kg2:PySem.W.keepIn K (.ref g2)=true)(hg2:∃fd,Fun K "round_of" "Web.round_of" zht g2 fd){odfL anfL:Option Addr}{slfL:Array (Option Value)}{ocfL kVfL dcfL pmfL cdfL ctfL:Value}(afL:PySem.W.nsIn K mainGlobals "law" = some (some (.ref fL)))(lfL:K.lookup fL=some ⟨ocfL,odfL,.func (PySem.W.fnOf "law" "law" (zcr sLaw) (zcf sLaw) (zag sLaw) .none kVfL dcfL pmfL anfL cdfL ctfL),slfL⟩)(cfL:PySem.W.codeIn K cdfL "law" = true)(kfL:PySem.W.keepIn K (.ref fL)=true)(aC:PySem.W.nsIn K mainGlobals "Web" = some (some (.ref C))){tkM:Tok}(aM:PySem.W.nsIn K mainGlobals "MOST_LETTERS" = some (some (.int 8 tkM)))(pg:PySem.W.plainGet K C Str.empty=true)(lC:PySem.W.hasDictIn K C=true)(po:PySem.W.plainOver K C=true)(sa:PySem.W.findIn K (.ref C) "__setattr__" = some (some (.builtin "object.__setattr__")))(mk:PySem.W.makesIn K C=true)(kc:PySem.W.keepIn K (.ref C)=true)(nR:PySem.W.findIn K (.ref C) "rounds" = some none)(z_len:PySem.W.nsIn K mainGlobals "len" = some none)(z_max:PySem.W.nsIn K mainGlobals "max" = some none)(z_abs:PySem.W.nsIn K mainGlobals "abs" = some none)(z_divmod:PySem.W.nsIn K mainGlobals "divmod" = some none)(z_sorted:PySem.W.nsIn K mainGlobals "sorted" = some none)(z_range:PySem.W.nsIn K mainGlobals "range" = some none)(z_min:PySem.W.nsIn K mainGlobals "min" = some none)(z_tuple:PySem.W.nsIn K mainGlobals "tuple" = some none)(z_list:PySem.W.nsIn K mainGlobals "list" = some none)(z_dict:PySem.W.nsIn K mainGlobals "dict" = some none)(z_set:PySem.W.nsIn K mainGlobals "set" = some none)(z_isinstance:PySem.W.nsIn K mainGlobals "isinstance" = some none)(z_str:PySem.W.nsIn K mainGlobals "str" = some none)(z_all:PySem.W.nsIn K mainGlobals "all" = some none)(z_sum:PySem.W.nsIn K mainGlobals "sum" = some none)(z_enumerate:PySem.W.nsIn K mainGlobals "enumerate" = some none)(z_any:PySem.W.nsIn K mainGlobals "any" = some none)(z_zip:PySem.W.nsIn K mainGlobals "zip" = some none)(z_bool:PySem.W.nsIn K mainGlobals "bool" = some none) :
  ∃fd:FuncData,(∀(s:Nh) (v:Value),BindsTo s fd ⟨[v],[]⟩ [("_law_script",v)])∧∀base:Heap,K.In base→base.Ns mainGlobals mg→FnOk l.prog w K mg base CX0 7 fa fd ["_law_script"] (spLaw K):=by
 have e:=hfa.symm.trans (Zl X G afL)
 cases e
 obtain⟨_,F0⟩:=hf0
 have b0:=F0.b1 (p1 := "rounds") λ_ _ _ _ _ _ _=>rfl
 have m0:=Zl X G af0
 obtain⟨_,F1⟩:=hf1
 have b1:=F1.b1 (p1 := "rounds") λ_ _ _ _ _ _ _=>rfl
 have m1:=Zl X G af1
 obtain⟨_,F2⟩:=hf2
 have b2:=F2.b2 (p1 := "rounds") (p2 := "start") λ_ _ _ _ _ _ _ _=>rfl
 have m2:=Zl X G af2
 obtain⟨_,F3⟩:=hf3
 have b3:=F3.b1 (p1 := "rounds") λ_ _ _ _ _ _ _=>rfl
 have m3:=Zl X G af3
 obtain⟨_,F4⟩:=hf4
 have b4:=F4.b1 (p1 := "web") λ_ _ _ _ _ _ _=>rfl
 have m4:=Zl X G af4
 obtain⟨_,F5⟩:=hf5
 have b5:=F5.b2 (p1 := "web") (p2 := "root") λ_ _ _ _ _ _ _ _=>rfl
 have m5:=Zl X G af5
 obtain⟨_,F6⟩:=hf6
 have b6:=F6.b2 (p1 := "parents") (p2 := "place") λ_ _ _ _ _ _ _ _=>rfl
 have m6:=Zl X G af6
 obtain⟨_,F7⟩:=hf7
 have b7:=F7.b3 (p1 := "parents") (p2 := "one") (p3 := "other") λ_ _ _ _ _ _ _ _ _=>rfl
 have m7:=Zl X G af7
 obtain⟨_,F8⟩:=hf8
 have b8:=F8.b1 (p1 := "web") λ_ _ _ _ _ _ _=>rfl
 have m8:=Zl X G af8
 obtain⟨_,F9⟩:=hf9
 have b9:=F9.b1 (p1 := "thing") λ_ _ _ _ _ _ _=>rfl
 have m9:=Zl X G af9
 obtain⟨_,wI⟩:=uN
 have b10:=wI.b1 (p1 := "rows") λ_ _ _ _ _ _ _=>rfl
 have m10:=Zl X G wb
 obtain⟨_,wH⟩:=uM
 have b11:=wH.b1 (p1 := "rows") λ_ _ _ _ _ _ _=>rfl
 have m11:=Zl X G w8
 obtain⟨_,wG⟩:=uL
 have b12:=wG.b1 (p1 := "rows") λ_ _ _ _ _ _ _=>rfl
 have m12:=Zl X G w6
 obtain⟨_,wF⟩:=uK
 have b13:=wF.b1 (p1 := "rounds") λ_ _ _ _ _ _ _=>rfl
 have m13:=Zl X G w4
 obtain⟨_,wE⟩:=uJ
 have b14:=wE.b1 (p1 := "around") λ_ _ _ _ _ _ _=>rfl
 have m14:=Zl X G vZ
 obtain⟨_,wC⟩:=uI
 have b15:=wC.b2 (p1 := "_law_script") (p2 := "_law_k") λ_ _ _ _ _ _ _ _=>rfl
 have m15:=Zl X G vY
 obtain⟨_,ki⟩:=uH
 have nh:=ki.b2 (p1 := "_law_pot_here") (p2 := "_law_many") λ_ _ _ _ _ _ _ _=>rfl
 have lW:=Zl X G vX
 obtain⟨_,wA⟩:=uG
 have b17:=wA.b2 (p1 := "_law_pot_here") (p2 := "_law_many") λ_ _ _ _ _ _ _ _=>rfl
 have m17:=Zl X G vW
 obtain⟨_,F18⟩:=uF
 have b18:=F18.b2 (p1 := "_law_row") (p2 := "_law_name") λ_ _ _ _ _ _ _ _=>rfl
 have m18:=Zl X G vV
 obtain⟨_,wz⟩:=uE
 have b19:=wz.b4 (p1 := "_law_rounds_here") (p2 := "_law_one") (p3 := "_law_corner") (p4 := "_law_other") λ_ _ _ _ _ _ _ _ _ _=>rfl
 have m19:=Zl X G vU
 obtain⟨_,F20⟩:=uD
 have b20:=F20.b3 (p1 := "_law_rounds_here") (p2 := "_law_corner") (p3 := "_law_one") λ_ _ _ _ _ _ _ _ _=>rfl
 have m20:=Zl X G vT
 obtain⟨_,wy⟩:=uC
 have b21:=wy.b2 (p1 := "_law_pot_here") (p2 := "_law_rounds_here") λ_ _ _ _ _ _ _ _=>rfl
 have m21:=Zl X G vS
 obtain⟨_,wx⟩:=uB
 have b22:=wx.b3 (p1 := "_law_pot_here") (p2 := "_law_rounds_here") (p3 := "_law_name") λ_ _ _ _ _ _ _ _ _=>rfl
 have m22:=Zl X G vR
 obtain⟨_,ww⟩:=uA
 have b23:=ww.b2 (p1 := "_law_pot_here") (p2 := "_law_most") λ_ _ _ _ _ _ _ _=>rfl
 have m23:=Zl X G vQ
 obtain⟨_,wu⟩:=uz
 have b24:=wu.b2 (p1 := "_law_pot_here") (p2 := "_law_rounds_here") λ_ _ _ _ _ _ _ _=>rfl
 have m24:=Zl X G vP
 obtain⟨_,qw⟩:=uy
 have vK:=qw.b1 (p1 := "_law_rounds_here") λ_ _ _ _ _ _ _=>rfl
 have rX:=Zl X G vO
 obtain⟨_,wq⟩:=ux
 have b26:=wq.b1 (p1 := "_law_rounds_here") λ_ _ _ _ _ _ _=>rfl
 have m26:=Zl X G vN
 obtain⟨_,wp⟩:=uw
 have b27:=wp.b1 (p1 := "_law_rounds_here") λ_ _ _ _ _ _ _=>rfl
 have m27:=Zl X G vM
 obtain⟨_,wo⟩:=uv
 have b28:=wo.b2 (p1 := "_law_rounds_here") (p2 := "_law_ring") λ_ _ _ _ _ _ _ _=>rfl
 have m28:=Zl X G vL
 obtain⟨_,FG0⟩:=hg0
 have bG0:=FG0.b2 (p1 := "self") (p2 := "rows") λ_ _ _ _ _ _ _ _=>rfl
 obtain⟨_,FG1⟩:=pA
 have bG1:=FG1.b1 (p1 := "self") λ_ _ _ _ _ _ _=>rfl
 obtain⟨_,FG2⟩:=hg2
 have bG2:=FG2.b2 (p1 := "self") (p2 := "place") λ_ _ _ _ _ _ _ _=>rfl
 have FL:=fun_mk (st:=sLaw) lfL cfL kfL
 have cW:Cls K C:=⟨pg,lC,po,sa⟩
 have mC:=Zl X G aC
 have mM:=Zl X G aM
 have y_len:=Zr X G z_len
 have y_max:=Zr X G z_max
 have y_abs:=Zr X G z_abs
 have y_divmod:=Zr X G z_divmod
 have y_sorted:=Zr X G z_sorted
 have y_range:=Zr X G z_range
 have y_min:=Zr X G z_min
 have y_tuple:=Zr X G z_tuple
 have y_list:=Zr X G z_list
 have y_dict:=Zr X G z_dict
 have y_set:=Zr X G z_set
 have y_isinstance:=Zr X G z_isinstance
 have y_str:=Zr X G z_str
 have y_all:=Zr X G z_all
 have y_sum:=Zr X G z_sum
 have y_enumerate:=Zr X G z_enumerate
 have y_any:=Zr X G z_any
 have y_zip:=Zr X G z_zip
 have y_bool:=Zr X G z_bool
 refine⟨PySem.W.fnOf "law" "law" (zcr sLaw) (zcf sLaw) (zag sLaw) .none kVfL dcfL pmfL anfL cdfL ctfL,λs v=>.of_eq rfl,λbase _ _=>?_⟩
 have gg:=gen_good (α:=Str)
 have GTake:=zh3 (P:=l.prog) (w:=w) (base:=base) ki y_divmod
 have GPot:=ok_pot (P:=l.prog) (w:=w) (base:=base) wC y_len y_max y_abs
 have GNames:=ok_names (P:=l.prog) (w:=w) (base:=base) wA ki nh lW y_range y_divmod
 have GTie:=ok_tie (P:=l.prog) (w:=w) (base:=base) gg wy ki nh lW F18 b18 m18 F20 b20 m20 wz b19 m19 y_len y_sorted y_divmod
 have GMore:=ok_more (P:=l.prog) (w:=w) (base:=base) gg wx ki nh lW wz b19 m19 y_len y_sorted y_divmod
 have GRounds:=ok_rounds (P:=l.prog) (w:=w) (base:=base) gg ww ki nh lW wA b17 m17 wx b22 m22 wy b21 m21 GTake GNames GMore GTie y_range
 have GTies:=ok_ties (P:=l.prog) (w:=w) (base:=base) FG1 cW nR y_sorted
 have GRoundOf:=ok_roundof (P:=l.prog) (w:=w) (base:=base) FG2 cW nR y_list
 have GTree:=ok_tree (P:=l.prog) (w:=w) (base:=base) F5 cW nR ⟨ag2,ig2,kg2⟩ bG2 GRoundOf y_sorted
 have GWay:=ok_way (P:=l.prog) (w:=w) (mg:=mg) (base:=base) F6
 have GRing:=ok_ring (P:=l.prog) (w:=w) (base:=base) F7 F6 b6 m6 GWay y_len
 have GSides:=ok_sides (P:=l.prog) (w:=w) (base:=base) qw y_sorted
 have GEvened:=ok_evened (P:=l.prog) (w:=w) (base:=base) wq qw vK rX GSides y_list
 have GEven:=ok_even (P:=l.prog) (w:=w) (base:=base) wp qw vK rX GSides y_all
 have GIsRing:=ok_isring (P:=l.prog) (w:=w) (base:=base) wo y_isinstance y_list y_len y_set y_any y_all y_zip
 have GIsName:=ok_isname (P:=l.prog) (w:=w) (base:=base) F9 mM y_isinstance y_str y_len y_all
 have GNo:=ok_nonames (P:=l.prog) (w:=w) (base:=base) wI F9 b9 m9 GIsName
 have GTw:=ok_twice (P:=l.prog) (w:=w) (base:=base) wH y_len y_set
 have GOne:=ok_oneway (P:=l.prog) (w:=w) (base:=base) wG y_dict
 have GLeast:=ok_least (P:=l.prog) (w:=w) (base:=base) wE y_min y_tuple
 have GSteps:=ok_steps (P:=l.prog) (w:=w) (base:=base) F0 y_enumerate
 have GFaces:=ok_faces (P:=l.prog) (w:=w) (base:=base) F1 F0 b0 m0 GSteps y_sorted
 have GPiece:=ok_piece (P:=l.prog) (w:=w) (base:=base) F2 y_sorted
 have GPieces:=ok_pieces (P:=l.prog) (w:=w) (base:=base) F3 F2 b2 m2 GPiece y_sorted
 have GPcs:=ok_pcs (P:=l.prog) (w:=w) (base:=base) F4 cW nR F3 b3 m3 GPieces
 have GTwo:=ok_two (P:=l.prog) (w:=w) (base:=base) F8 cW F4 b4 m4 GPcs F5 b5 m5 GTree F6 b6 m6 GWay F7 b7 m7 GRing ⟨ag1,ig1,kg1⟩ bG1 GTies y_len
 have GFlat:=ok_flat (P:=l.prog) (w:=w) (base:=base) wF F1 b1 m1 GFaces F3 b3 m3 GPieces y_len y_sum
 have GInit:=ok_init (P:=l.prog) (w:=w) (base:=base) FG0 cW nR wI b10 m10 GNo wH b11 m11 GTw wG b12 m12 GOne wE b14 m14 GLeast wF b13 m13 GFlat y_sorted
 have GWeb:=ok_lweb (P:=l.prog) (w:=w) (base:=base) wu ki nh lW GTake ⟨mk,ag0,ig0,kc⟩ mC bG0 GInit y_len
 exact ok_law FL wC b15 m15 GPot ki nh lW GTake ww b23 m23 GRounds wu b24 m24 GWeb wq b26 m26 GEvened wp b27 m27 GEven qw vK rX GSides wo b28 m28 GIsRing F8 b8 m8 GTwo y_len y_max y_min y_range y_any y_isinstance y_bool
def walk{l:PySem.W.OpenLaw}{q:Nj}{loose:Nd}{XP:(Str→Option Value)→Heap→Prop}{d:DefRec}{K:Params→PySem.W.Frag}(hn:l.most=some 63)(pO:d.params.defaults=[])(F:∀ (w:Nl) (mg:Ng) (fa:Nc) (h:Nm),(K w.params).In h→h.Ns mainGlobals mg→mg d.name=some (.ref fa) →
   ∃fd:FuncData,(∀(s:Nh) (u:Value),BindsTo s fd ⟨[u],[]⟩ [("_law_script",u)])∧∀base:Heap,(K w.params).In base→base.Ns mainGlobals mg→FnOk l.prog w (K w.params) mg base CX0 7 fa fd ["_law_script"] (spLaw (K w.params))) :
  PySem.W.WalkO q loose XP (λw h=>(K w.params).In h) l.row.toRowW d [] (λf vs=>PySem.call f vs) :=
 L2.walk_of (n:=63) (k:=7) (x := "_law_script") (CX:=λ_=>CX0) (sp:=λw=>spLaw (K w.params)) hn (by decide) pO ⟨rfl,by decide,by decide⟩ (λ_ _ z=>z) F (λ_ _ a ns hl _ hS=>⟨a,ns,rfl,hS,hl,λ_=>rfl⟩) λ_ _ _ _ _ z=>z
end K21
end
section
set_option Elab.async false
set_option linter.all false
open PySem PySem.W PySem.W.X PyProof.Rows
def PySem.W.Fast.tw11083520435963707618:Unit:=()
def PySem.W.Fast.tw6100510991047580266:Unit:=()
def PySem.W.Fast.tw1500042507258931975:Unit:=()
def PySem.W.Fast.tw9693777711571259555:Unit:=()
def PySem.W.Fast.tw10251099169579402727:Unit:=()
def PySem.W.Fast.tw10634799847519627101:Unit:=()
def PySem.W.Fast.tw9135957654785610164:Unit:=()
def PySem.W.Fast.tw14222030142145113905:Unit:=()
def PySem.W.Fast.tw10068383511421997710:Unit:=()
def PySem.W.Fast.tw10344183436943606178:Unit:=()
def PySem.W.Fast.tw7238820690484106198:Unit:=()
def PySem.W.Fast.tw10433920295769514616:Unit:=()
set_option maxRecDepth 100000 in
set_option maxHeartbeats 0 in
theorem PySem.Challenge.cw_fivehues_k61_whole_two_or_a_ring_holds : PySem.Challenge.rw_fivehues_k61_whole_two_or_a_ring.Holds := by
 w_on;o_law;z_head;(case hw=>w_witness2)
 k_fill
 intro w s0 s1 mg mb G y fa o pm cd doc dV kV ho hd hcd hD hmg hg args vals as L hpre hlay hrd hwl hlo
 z_open y L KX ZH ZN ZT
 refine K21.walk (l:=PySem.Challenge.rw_fivehues_k61_whole_two_or_a_ring) rfl rfl ?F w s0 s1 mg mb G KX fa o pm cd doc dV kV ho hd hcd hD hmg hg args vals as hpre hlay hrd hwl hlo
 case F =>
  clear KX ZH ZN ZT L y G hmg hg hpre hlay hrd hwl hlo ho hd hcd hD
  intro w mg fa h KX G hmg
  refine' K21.all_mk KX G hmg ?_ ?_ ?_ ?_ ?_ ?_ ?_ ?_ ?_ ?_ ?_ ?_ ?_ ?_ ?_ ?_ ?_ ?_ ?_ ?_ ?_ ?_ ?_ ?_ ?_ ?_ ?_ ?_ ?_ ?_ ?_ ?_ ?_ ?_ ?_ ?_ ?_ ?_ ?_ ?_ ?_ ?_ ?_ ?_ ?_ ?_ ?_ ?_ ?_ ?_ ?_ ?_ ?_ ?_ ?_ ?_ ?_ ?_ ?_ ?_ ?_ ?_ ?_ ?_ ?_ ?_ ?_ ?_ ?_ ?_ ?_ ?_ ?_ ?_ ?aC ?_ ?_ ?_ ?_ ?_ ?_ ?_ ?_ ?_ ?_ ?_ ?_ ?_ ?_ ?_ ?_ ?_ ?_ ?_ ?_ ?_ ?_ ?_ ?_ ?_ ?_ ?_
  (case aC=>k_is)
  all_goals(try first|k_is|exact⟨_,L2.fun_mk (by k_is) (by k_is) (by k_is)⟩)
end
